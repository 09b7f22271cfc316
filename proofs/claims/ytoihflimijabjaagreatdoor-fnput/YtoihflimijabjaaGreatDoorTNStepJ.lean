import Derived.Test.YtoihflimijabjaaGreatDoorTClB
namespace Go.Proofs.YtoihflimijabjaaGreatDoor
open Value renaming slice->J,string->S,bool->F,agg->G
open Option renaming some->M,none->N
open Obj renaming cells->O
open Go renaming Value->Z,World->E
open Ending renaming returned->H
open _root_ renaming List->L,Nat->X
set_option maxHeartbeats 8000000
set_option maxRecDepth 100000
open _root_.Go.Proofs.Tryz Go.RowKit
set_option linter.unusedVariables false
set_option linter.unusedSimpArgs false
variable {B n m B' npl:X} {v':Z} {ss:L By} {is:L I3} {ys:L R3} {s:St} {e:Ending}
section
def Oi(B:X)(w:E)(a:Option Addr)(cp:X)(ss:L By):Prop:=w.ownsRow B 9 1 (J a ss.length cp) ss.length (Ar ss)
variable (B:X) (o:X) (t:By) (n:X) (pl:X) (sa:Option Addr) (cp:X) (stack:L By) (st lk:X) (nm Ic:By) (ra:Option Addr) (rcap:X) (ys:L R3) (w:E)
theorem blk3(o1 o2 o3:Obj):(((w.alloc o1).alloc o2).alloc o3).heap[w.heap.size+1+1]?=M o3/\(((w.alloc o1).alloc o2).alloc o3).heap[w.heap.size+1]?=M o2/\(((w.alloc o1).alloc o2).alloc o3).heap[w.heap.size]?=M o1:=by
 refine⟨?_,?_,?_⟩
 ·have h:=Hn ((w.alloc o1).alloc o2) o3;rw[show((w.alloc o1).alloc o2).heap.size=w.heap.size+1+1 from qi]at h;exact h
 ·rw[Lib.alloc_old _ _ _ qi];have h:=Hn (w.alloc o1) o2;rw[show(w.alloc o1).heap.size=w.heap.size+1 from qi]at h;exact h
 ·rw[Lib.alloc_old _ _ _ qj,Lib.alloc_old _ _ _ qi];exact Hn w o1
theorem op3(w:E)(a:Option Addr)(n cap:X)(p:Int)(v:Z)(st lo:Int):Bw w (((w.alloc (O #[J a n cap] 53)).alloc (O #[I p,v,I st,I lo,F false,I 0,ze,F false,ze,F false] 163)).alloc (O #[I 0,nS,I 0,I 0,F false,I 0,ze,F false,ze,F false] 163))/\(((w.alloc (O #[J a n cap] 53)).alloc (O #[I p,v,I st,I lo,F false,I 0,ze,F false,ze,F false] 163)).alloc (O #[I 0,nS,I 0,I 0,F false,I 0,ze,F false,ze,F false] 163)).heap[w.heap.size+1+1]?=M (O #[I 0,nS,I 0,I 0,F false,I 0,ze,F false,ze,F false] 163)/\(((w.alloc (O #[J a n cap] 53)).alloc (O #[I p,v,I st,I lo,F false,I 0,ze,F false,ze,F false] 163)).alloc (O #[I 0,nS,I 0,I 0,F false,I 0,ze,F false,ze,F false] 163)).heap[w.heap.size+1]?=M (O #[I p,v,I st,I lo,F false,I 0,ze,F false,ze,F false] 163)/\(((w.alloc (O #[J a n cap] 53)).alloc (O #[I p,v,I st,I lo,F false,I 0,ze,F false,ze,F false] 163)).alloc (O #[I 0,nS,I 0,I 0,F false,I 0,ze,F false,ze,F false] 163)).heap[w.heap.size]?=M (O #[J a n cap] 53):=⟨((aN _ _).alloc qi _).alloc qj _,blk3 w _ _ _⟩
theorem dcH{p:X}{q:By}(eq:Gn p=q)(h:p<=1000000):∀W:E,Calls prog 51 #[I p] W λe w'=>e=H (S q)/\Bw W w':=λW=>by rw[<- eq];exact Gz p W h
theorem look_no(hB:B<=w.heap.size)(iw:nm.size<=2000)(dy:pl<=201)(du:st<=2000)(ld:lk<=200)(hn:¬ Ay nm):Calls prog 112 #[G #[I o,S t,I n],Df pl (J sa stack.length cp) st lk,S nm,S Ic,J ra ys.length rcap] w λe w'=>Below B w w'/\e=H (Dq pl (J sa stack.length cp) st lk 2 Ic):=by
 have gy:=Cg hn
 have ba:Bw w (((w.alloc (O #[I o,S t,I n] 103)).alloc (O #[I pl,J sa stack.length cp,I st,I lk,F false,I 0,ze,F false,ze,F false] 163)).alloc (O #[I 0,nS,I 0,I 0,F false,I 0,ze,F false,ze,F false] 163)):=((aN _ _).alloc qi _).alloc qj _
 have og:B<=w.heap.size+1+1:=qg
 have hz:=(blk3 w (O #[I o,S t,I n] 103) (O #[I pl,J sa stack.length cp,I st,I lk,F false,I 0,ze,F false,ze,F false] 163) (O #[I 0,nS,I 0,I 0,F false,I 0,ze,F false,ze,F false] 163)).1
 unfold Df
 go_enter func112,ntmps112
 go_wp2_with (first|(go_at_call 59;refine(Bb nm _ qg).mono ?_;rintro e w9 ⟨rfl,rfl⟩))
 have hl:=Es pl sa stack.length cp st lk 2 Ic
 unfold Df at hl
 refine(hl _).mono ?_
 rintro e w1 ⟨rfl,ah⟩
 have db:Below B w w1:=(bN ba ah).mono hB
 have bg:w1.heap[w.heap.size+1+1]?=M (O #[I 0,nS,I 0,I 0,F false,I 0,ze,F false,ze,F false] 163 (0,0)):=by rw[ah.block _ qi];exact hz
 obtain⟨k0,k1,k2,k3,k4,k5,k6,k7,k8,k9⟩:=Km bg
 have f0:=fZ bg
 clear hz bg ba ah hl
 unfold Dq
 go_wp2_with fail
 exact bR (v:=Dq pl (J sa stack.length cp) st lk 2 Ic) qdc rfl ⟨b10 (db) og,rfl⟩
theorem look_sp(hB:B<=w.heap.size)(iw:nm.size<=2000)(dy:pl<=201)(du:st<=2000)(ld:lk<=200)(hn:Ay nm)(hl:lk=200):Calls prog 112 #[G #[I o,S t,I n],Df pl (J sa stack.length cp) st lk,S nm,S Ic,J ra ys.length rcap] w λe w'=>Below B w w'/\e=H (Dq pl (J sa stack.length cp) st lk 3 ⟨#[]⟩):=by
 have gy:=Cr hn
 have d1:((lk:Int) == 200)=true:=qj
 clear hl
 have ba:Bw w (((w.alloc (O #[I o,S t,I n] 103)).alloc (O #[I pl,J sa stack.length cp,I st,I lk,F false,I 0,ze,F false,ze,F false] 163)).alloc (O #[I 0,nS,I 0,I 0,F false,I 0,ze,F false,ze,F false] 163)):=((aN _ _).alloc qi _).alloc qj _
 have og:B<=w.heap.size+1+1:=qg
 have hz:=(blk3 w (O #[I o,S t,I n] 103) (O #[I pl,J sa stack.length cp,I st,I lk,F false,I 0,ze,F false,ze,F false] 163) (O #[I 0,nS,I 0,I 0,F false,I 0,ze,F false,ze,F false] 163)).1
 unfold Df
 go_enter func112,ntmps112
 go_wp2_with (first|(go_at_call 59;refine(Bb nm _ qg).mono ?_;rintro e w9 ⟨rfl,rfl⟩))
 have hl:=Es pl sa stack.length cp st lk 3 ⟨#[]⟩
 unfold Df at hl
 refine(hl _).mono ?_
 rintro e w1 ⟨rfl,ah⟩
 have db:Below B w w1:=(bN ba ah).mono hB
 have bg:w1.heap[w.heap.size+1+1]?=M (O #[I 0,nS,I 0,I 0,F false,I 0,ze,F false,ze,F false] 163 (0,0)):=by rw[ah.block _ qi];exact hz
 obtain⟨k0,k1,k2,k3,k4,k5,k6,k7,k8,k9⟩:=Km bg
 have f0:=fZ bg
 clear hz bg ba ah hl
 unfold Dq
 go_wp2_with fail
 exact bR (v:=Dq pl (J sa stack.length cp) st lk 3 ⟨#[]⟩) qdc rfl ⟨b10 (db) og,rfl⟩
theorem look_wt(hB:B<=w.heap.size)(iw:nm.size<=2000)(dy:pl<=201)(du:st<=2000)(ld:lk<=200)(hn:Ay nm)(hl:lk≠200)(hy:ys.length<=lk):Calls prog 112 #[G #[I o,S t,I n],Df pl (J sa stack.length cp) st lk,S nm,S Ic,J ra ys.length rcap] w λe w'=>Below B w w'/\e=H (waitV pl (J sa stack.length cp) st lk ((o:Int) == 12) nm):=by
 have gy:=Cr hn
 have d1:((lk:Int) == 200)=false:=qj
 have hyI:(ys.length:Int)<=(lk:Int):=qg
 unfold Df
 go_enter func112,ntmps112
 go_wp2_with (first|(go_at_call 59;refine(Bb nm _ qg).mono ?_;rintro e w9 ⟨rfl,rfl⟩))
 exact bR (v:=waitV pl (J sa stack.length cp) st lk ((o:Int) == 12) nm) (by simp[results,results112,go_sem,waitV]) rfl ⟨(((aN _ _).alloc qi _).alloc qj _).mono hB,rfl⟩
theorem blk4(o1 o2 o3 o4:Obj):((((w.alloc o1).alloc o2).alloc o3).alloc o4).heap[w.heap.size+1+1]?=M o3/\((((w.alloc o1).alloc o2).alloc o3).alloc o4).heap[w.heap.size+1]?=M o2:=by
 obtain⟨h1,h2,h3⟩:=blk3 w o1 o2 o3
 exact⟨by rw[Lib.alloc_old _ _ _ qi];exact h1,by rw[Lib.alloc_old _ _ _ qi];exact h2⟩
theorem look_miss(hB:B<=w.heap.size)(iw:nm.size<=2000)(dy:pl<=201)(du:st<=2000)(ld:lk<=200)(hn:Ay nm)(hl:lk≠200)(hy:lk<ys.length)(zx:ys.length<=200)(hr:Ob w ra ys)(hh:(rx ys lk).has=false):Calls prog 112 #[G #[I 12,S t,I n],Df pl (J sa stack.length cp) st lk,S nm,S Ic,J ra ys.length rcap] w λe w'=>Below B w w'/\e=H (Dq pl (J sa stack.length cp) st ((lk:Int)+1) 4 nm):=by
 have gy:=Cr hn
 have d1:((lk:Int) == 200)=false:=qj
 have hyI:(lk:Int)<(ys.length:Int):=qg
 obtain⟨b,off,rfl,e1,e2,e3⟩:=hr lk hy
 rw[hh]at e1
 generalize rx ys lk=y at *
 clear hr hn hl
 clear hh
 have uu:∀(x y z:Obj)(p:Addr)(v:Z),w.cell? p=M v->(((w.alloc x).alloc y).alloc z).cell? p=M v:=λx y z p v h=>by
  exact qcx
 have a1:=λx y z=>uu x y z _ _ e1
 have a2:=λx y z=>uu x y z _ _ e2
 have a3:=λx y z=>uu x y z _ _ e3
 clear uu
 have ba:Bw w ((((w.alloc (O #[I 12,S t,I n] 103)).alloc (O #[I pl,J sa stack.length cp,I st,I ((lk:Int)+1),F false,I 0,ze,F false,ze,F false] 163)).alloc (O #[I 0,nS,I 0,I 0,F false,I 0,ze,F false,ze,F false] 163)).alloc (O #[F false,I y.code,S y.text] 158)):=(((aN _ _).alloc qi _).alloc qj _).alloc qj _
 have og:B<=w.heap.size+1+1:=qg
 have hz:=(blk4 w (O #[I 12,S t,I n] 103) (O #[I pl,J sa stack.length cp,I st,I ((lk:Int)+1),F false,I 0,ze,F false,ze,F false] 163) (O #[I 0,nS,I 0,I 0,F false,I 0,ze,F false,ze,F false] 163) (O #[F false,I y.code,S y.text] 158)).1
 unfold Df
 go_enter func112,ntmps112
 go_wp2_with (first|(go_at_call 59;refine(Bb nm _ qg).mono ?_;rintro e w9 ⟨rfl,rfl⟩))
 have hl:=Es pl sa stack.length cp st ((lk:Int)+1) 4 nm
 unfold Df at hl
 refine(hl _).mono ?_
 rintro e w1 ⟨rfl,ah⟩
 have db:Below B w w1:=(bN ba ah).mono hB
 have bg:w1.heap[w.heap.size+1+1]?=M (O #[I 0,nS,I 0,I 0,F false,I 0,ze,F false,ze,F false] 163 (0,0)):=by rw[ah.block _ qi];exact hz
 obtain⟨k0,k1,k2,k3,k4,k5,k6,k7,k8,k9⟩:=Km bg
 have f0:=fZ bg
 clear hz bg ba ah hl a1 a2 a3
 unfold Dq
 go_wp2_with fail
 exact bR (v:=Dq pl (J sa stack.length cp) st ((lk:Int)+1) 4 nm) qdc rfl ⟨b10 (db) og,rfl⟩
theorem Zt(hB:B<=w.heap.size)(iw:nm.size<=2000)(dy:pl<=201)(du:st<=2000)(ld:lk<=200)(hn:Ay nm)(hl:lk≠200)(hy:lk<ys.length)(zx:ys.length<=200)(hr:Ob w ra ys)(hh:(rx ys lk).has=true)(pw:(rx ys lk).code≠0):Calls prog 112 #[G #[I 12,S t,I n],Df pl (J sa stack.length cp) st lk,S nm,S Ic,J ra ys.length rcap] w λe w'=>Below B w w'/\e=H (Dq pl (J sa stack.length cp) st ((lk:Int)+1) 5 nm):=by
 have gy:=Cr hn
 have d1:((lk:Int) == 200)=false:=qj
 have hyI:(lk:Int)<(ys.length:Int):=qg
 obtain⟨b,off,rfl,e1,e2,e3⟩:=hr lk hy
 rw[hh]at e1
 have mh:((rx ys lk).code == 0)=false:=by simpa using pw
 generalize rx ys lk=y at *
 clear hr hn hl
 clear hh
 have uu:∀(x y z:Obj)(p:Addr)(v:Z),w.cell? p=M v->(((w.alloc x).alloc y).alloc z).cell? p=M v:=λx y z p v h=>by
  exact qcx
 have a1:=λx y z=>uu x y z _ _ e1
 have a2:=λx y z=>uu x y z _ _ e2
 have a3:=λx y z=>uu x y z _ _ e3
 clear uu
 have ba:Bw w ((((w.alloc (O #[I 12,S t,I n] 103)).alloc (O #[I pl,J sa stack.length cp,I st,I ((lk:Int)+1),F false,I 0,ze,F false,ze,F false] 163)).alloc (O #[I 0,nS,I 0,I 0,F false,I 0,ze,F false,ze,F false] 163)).alloc (O #[F true,I y.code,S y.text] 158)):=(((aN _ _).alloc qi _).alloc qj _).alloc qj _
 have og:B<=w.heap.size+1+1:=qg
 have hz:=(blk4 w (O #[I 12,S t,I n] 103) (O #[I pl,J sa stack.length cp,I st,I ((lk:Int)+1),F false,I 0,ze,F false,ze,F false] 163) (O #[I 0,nS,I 0,I 0,F false,I 0,ze,F false,ze,F false] 163) (O #[F true,I y.code,S y.text] 158)).1
 unfold Df
 go_enter func112,ntmps112
 go_wp2_with (first|(go_at_call 59;refine(Bb nm _ qg).mono ?_;rintro e w9 ⟨rfl,rfl⟩))
 have hl:=Es pl sa stack.length cp st ((lk:Int)+1) 5 nm
 unfold Df at hl
 refine(hl _).mono ?_
 rintro e w1 ⟨rfl,ah⟩
 have db:Below B w w1:=(bN ba ah).mono hB
 have bg:w1.heap[w.heap.size+1+1]?=M (O #[I 0,nS,I 0,I 0,F false,I 0,ze,F false,ze,F false] 163 (0,0)):=by rw[ah.block _ qi];exact hz
 obtain⟨k0,k1,k2,k3,k4,k5,k6,k7,k8,k9⟩:=Km bg
 have f0:=fZ bg
 clear hz bg ba ah hl a1 a2 a3
 unfold Dq
 go_wp2_with fail
 exact bR (v:=Dq pl (J sa stack.length cp) st ((lk:Int)+1) 5 nm) qdc rfl ⟨b10 (db) og,rfl⟩
theorem Gb{B:X}{w:E}{v:Z}{n:X}{xs:L Z}{b:X}(h:w.ownsRow B 9 1 v n xs/\∃cs,w.heap[b]?=M (O cs 163 (0,0)))(j:X)(x:Z):(w.setCell ⟨b,j,N⟩ x).ownsRow B 9 1 v n xs/\∃cs,(w.setCell ⟨b,j,N⟩ x).heap[b]?=M (O cs 163 (0,0)):=by
 obtain⟨ho,cs,hb⟩:=h
 refine⟨⟨ho.1,?_⟩,_,jB hb x⟩
 have aq:=Hp qh hb ho
 rcases ho.2 with h0|⟨g,cap,cur,hv,hg,hh,r⟩
 ·exact Or.inl h0
 ·refine Or.inr ⟨g,cap,cur,hv,hg,?_,r⟩;rw[hC w ⟨b,j,N⟩ _ g (by rintro e;apply aq;rw[hv];simp[Value.ownBlock,e])];exact hh
theorem look_text(hB:B<=w.heap.size)(iw:nm.size<=2000)(dy:pl<=201)(du:st<=2000)(ld:lk<=200)(hn:Ay nm)(hl:lk≠200)(hy:lk<ys.length)(zx:ys.length<=200)(hr:Ob w ra ys)(hh:(rx ys lk).has=true)(pw:(rx ys lk).code=0)(ak:Oi B w sa cp stack)(K7:stack.length<50):Calls prog 112 #[G #[I 12,S t,I n],Df pl (J sa stack.length cp) st lk,S nm,S Ic,J ra ys.length rcap] w λe w'=>Below B w w'/\∃a' cp',e=H (Df pl (J a' (stack.length+1) cp') st ((lk:Int)+1))/\Oi B w' a' cp' (stack++[(rx ys lk).text]):=by
 have gy:=Cr hn
 have d1:((lk:Int) == 200)=false:=qj
 have hyI:(lk:Int)<(ys.length:Int):=qg
 obtain⟨b,off,rfl,e1,e2,e3⟩:=hr lk hy
 rw[hh]at e1
 rw[pw]at e2
 generalize rx ys lk=y at *
 clear hr hn hl
 clear hh
 have uu:∀(x y z:Obj)(p:Addr)(v:Z),w.cell? p=M v->(((w.alloc x).alloc y).alloc z).cell? p=M v:=λx y z p v h=>by
  exact qcx
 have a1:=λx y z=>uu x y z _ _ e1
 have a2:=λx y z=>uu x y z _ _ e2
 have a3:=λx y z=>uu x y z _ _ e3
 clear uu
 have ba:Bw w ((((w.alloc (O #[I 12,S t,I n] 103)).alloc (O #[I pl,J sa stack.length cp,I st,I ((lk:Int)+1),F false,I 0,ze,F false,ze,F false] 163)).alloc (O #[I 0,nS,I 0,I 0,F false,I 0,ze,F false,ze,F false] 163)).alloc (O #[F true,I 0,S y.text] 158)):=(((aN _ _).alloc qi _).alloc qj _).alloc qj _
 have og:B<=w.heap.size+1+1:=qg
 have vp:B<=w.heap.size+1:=qg
 have hz:=blk4 w (O #[I 12,S t,I n] 103) (O #[I pl,J sa stack.length cp,I st,I ((lk:Int)+1),F false,I 0,ze,F false,ze,F false] 163) (O #[I 0,nS,I 0,I 0,F false,I 0,ze,F false,ze,F false] 163) (O #[F true,I 0,S y.text] 158)
 have lz:=((((ak.alloc (O #[I 12,S t,I n] 103)).alloc (O #[I pl,J sa stack.length cp,I st,I ((lk:Int)+1),F false,I 0,ze,F false,ze,F false] 163)).alloc (O #[I 0,nS,I 0,I 0,F false,I 0,ze,F false,ze,F false] 163)).alloc (O #[F true,I 0,S y.text] 158)).alloc (O #[S y.text] 9)
 obtain⟨i0,hi,bm,yl,yk⟩:=info_parts Tryz.info9b
 unfold Oi at ak
 unfold Df
 go_enter func112,ntmps112
 go_wp2_with (first|(go_at_call 59;refine(Bb nm _ qg).mono ?_;rintro e w9 ⟨rfl,rfl⟩)|(at_builtin;refine wpList_append_own _ rfl (.tmp 70) (.tmp 73) 23 rfl B 9 i0 ze 1 16 underlying23 hi bm yl yk rfl qh _ _ _ rfl lz ⟨w.heap.size+1+1+1+1,0,N⟩ 1 1 [S y.text] rfl rfl ?_ qbe qn qg qj ?_;(focus(have:=cell_one_new ((((w.alloc (O #[I 12,S t,I n] 103)).alloc (O #[I pl,J sa stack.length cp,I st,I ((lk:Int)+1),F false,I 0,ze,F false,ze,F false] 163)).alloc (O #[I 0,nS,I 0,I 0,F false,I 0,ze,F false,ze,F false] 163)).alloc (O #[F true,I 0,S y.text] 158)) (S y.text) 9;simpa using this));intro v' w2 af ae bn;clear bn;have jv:w2.heap[w.heap.size+1]?=M (O #[I pl,J sa stack.length cp,I st,I ((lk:Int)+1),F false,I 0,ze,F false,ze,F false] 163 (0,0)):=Fy ae (λb' B4 T' E3 nk=>Hp E3 qbq lz) _ _ 163 qh hz.2;have mf:w2.heap[w.heap.size+1+1]?=M (O #[I 0,nS,I 0,I 0,F false,I 0,ze,F false,ze,F false] 163 (0,0)):=Fy ae (λb' B4 T' E3 nk=>Hp E3 qbq lz) _ _ 163 qh hz.1;have il:Below B w w2:=((ba.mono hB).alloc qj _).grown ae qj (λk hk=>(ak.lt k hk).1);obtain⟨g',mt,ym⟩:∃g cap,v'=J (p_ g) (stack.length+1) cap:=(by rcases af.2 with⟨_,h0⟩|⟨g,cap,cur,hv,_⟩;omega;exact⟨g,cap,hv⟩);rw[ym]at af ⊢;have k0:=cH mf 0;have k1:=cH mf 1;have k2:=cH mf 2;have k3:=cH mf 3;have k4:=cH mf 4;have k5:=cH mf 5;have k6:=cH mf 6;have k7:=cH mf 7;have k8:=cH mf 8;have k9:=cH mf 9;simp only[gA,gB,gC]at k0 k1 k2 k3 k4 k5 k6 k7 k8 k9;have m0:=cH jv 0;have m1:=cH jv 1;have m2:=cH jv 2;have m3:=cH jv 3;have m4:=cH jv 4;have m5:=cH jv 5;have m6:=cH jv 6;have m7:=cH jv 7;have m8:=cH jv 8;have m9:=cH jv 9;simp only[gA,gB,gC]at m0 m1 m2 m3 m4 m5 m6 m7 m8 m9;have f0:∀j,w2.frozen? ⟨w.heap.size+1+1,j,N⟩=false:=(λj=>fH mf j);have f1:∀j,w2.frozen? ⟨w.heap.size+1,j,N⟩=false:=(λj=>fH jv j);have X4:Hd (w2.heap[w.heap.size+1]?=M (O #[I pl,J sa stack.length cp,I st,I ((lk:Int)+1),F false,I 0,ze,F false,ze,F false] 163 (0,0))):=jv;have xz:Hd (w2.heap[w.heap.size+1+1]?=M (O #[I 0,nS,I 0,I 0,F false,I 0,ze,F false,ze,F false] 163 (0,0))):=mf;have lp:Hd (w2.ownsRow B 9 1 (J (p_ g') (stack.length+1) mt) (stack.length+1) (Ar stack++[S y.text])):=af;clear jv mf af ae a1 a2 a3))
 refine bR (v:=Df pl (J (p_ g') (stack.length+1) mt) st ((lk:Int)+1)) (by simp[results,results112,go_sem,Df,k0,k1,k2,k3,k4,k5,k6,k7,k8,k9]) rfl ⟨b10 ((il.setCell (p:=⟨w.heap.size+1,1,N⟩) vp _)) og,_,_,rfl,?_⟩
 have h1:=Gb ⟨lp.o,_,X4.o⟩ 1 (J (p_ g') (stack.length+1) mt)
 have h2:∃cs,(w2.setCell ⟨w.heap.size+1,1,N⟩ (J (p_ g') (stack.length+1) mt)).heap[w.heap.size+1+1]?=M (O cs 163 (0,0)):=⟨_,by rw[hC w2 ⟨w.heap.size+1,1,N⟩ _ _ qi];exact xz.o⟩
 have e:Ar (stack++[y.text])=Ar stack++[S y.text]:=qbw
 exact qix
end
section
open Go.Deep
theorem Pu{w w2:E}{o:Obj}{ob:Option X}(ae:(w.alloc o).drew.grownBy w2 ob)(HO:∀(b:X)(cs:Array Z)(T:X),T≠9->w.heap[b]?=M (O cs T (0,0))->M b≠ob):∀(b:X)(cs:Array Z)(T:X),T≠9->w.heap[b]?=M (O cs T (0,0))->w2.heap[b]?=M (O cs T (0,0)):=by
 intro b cs T hT hb
 have hl:=Bq hb
 rw[ae.block b qj (HO b cs T hT hb)]
 exact(Lib.alloc_old w o b hl).trans hb
theorem step_flag{x:Operand}{W:E}{ops:Array Oper}{o:Oper}{a:Act}{K:Act->E->Prop}{Q:Exit->Act->E->Prop}{AG:Prop}(mg:o.guard=N)(ho:o.op=.call { callee:=.value (.func 56),args:=#[x],argTypes:=#[4] })(b:Bool)(f:By)(hf:De b=f)(hx:a.eval x=F b)(h:K (a.put o.dst (S f)) W):if Region.wanted o (yielded ops a.tmps)=true then Oper.wp prog o a W K Q else AG:=by
 have hw:Region.wanted o (yielded ops a.tmps)=true:=by simp[Region.wanted,mg]
 have hrun:(execOp a.eval o).run prog W=.ok (.enter 56 #[F b]) W:=by
  unfold execOp;rw[ho];simp[go_sem]
  cases x with
  | tmp t=>simpa [Act.eval] using hx
  | const v=>simpa [Act.eval] using hx
  | «global» g=>simp[Act.eval]at hx
  | func f=>simp[Act.eval]at hx
 rw[if_pos hw]
 unfold Oper.wp
 rw[hrun,Oper.upon_enter]
 refine(Ey b W).mono ?_
 rintro e w' ⟨rfl,rfl⟩
 rw[hf]
 exact h
theorem step_appS{s x:Operand}{W:E}{ops:Array Oper}{o:Oper}{a:Act}{K:Act->E->Prop}{Q:Exit->Act->E->Prop}{AG:Prop}(mg:o.guard=N)(ho:o.op=.call { callee:=.builtin .append,args:=#[s,x],argTypes:=#[23,23] })(B:X)(sa:Option Addr)(nn cap:X)(xs:L Z)(hs:a.eval s=J sa nn cap)(ak:W.ownsRow B 9 1 (J sa nn cap) nn xs)(d:X)(tx:By)(hx:a.eval x=J (p_ d) 1 1)(hc:W.cell? ⟨d,0,N⟩=M (S tx))(hB:B<=W.heap.size)(hn:nn<=50)(h:∀g' ai w',w'.ownsRow B 9 1 (J (p_ g') (nn+1) ai) (nn+1) (xs++[S tx])->W.grownBy w' (Value.slice sa nn cap).ownBlock->K (a.put o.dst (J (p_ g') (nn+1) ai)) w'):if Region.wanted o (yielded ops a.tmps)=true then Oper.wp prog o a W K Q else AG:=by
 obtain⟨i0,hi,bm,bg,bi⟩:=info_parts Tryz.info9b
 refine step_append_lies (w:=W) mg s x 23 ho B 9 i0 ze 1 16 underlying23 hi bm bg bi rfl qh _ nn xs hs ak ⟨d,0,N⟩ 1 1 [S tx] hx rfl
  (λj u hu=>by
   have hj:j=0:=by rcases j with _|j;rfl;simp at hu
   subst hj;rw[Addr.add_lit,Nat.zero_add];simp at hu;subst hu;exact hc) qbe qg qn qg hB W.heap.size rfl ?_
 exact qca
variable (B:X) (o:X) (t:By) (n:X) (pl:X) (sa:Option Addr) (cp:X) (stack:L By) (st lk:X) (nm Ic:By) (ra:Option Addr) (rcap:X) (ys:L R3) (w:E)
theorem look_flag(hB:B<=w.heap.size)(iw:nm.size<=2000)(dy:pl<=201)(du:st<=2000)(ld:lk<=200)(hn:Ay nm)(hl:lk≠200)(hy:lk<ys.length)(zx:ys.length<=200)(hr:Ob w ra ys)(ak:Oi B w sa cp stack)(K7:stack.length<50):Calls prog 112 #[G #[I 13,S t,I n],Df pl (J sa stack.length cp) st lk,S nm,S Ic,J ra ys.length rcap] w λe w'=>Below B w w'/\∃a' cp',e=H (Df pl (J a' (stack.length+1) cp') st ((lk:Int)+1))/\Oi B w' a' cp' (stack++[De (rx ys lk).has]):=by
 have gy:=Cr hn
 have d1:((lk:Int) == 200)=false:=qj
 have hyI:(lk:Int)<(ys.length:Int):=qg
 obtain⟨b,off,rfl,e1,e2,e3⟩:=hr lk hy
 generalize rx ys lk=y at *
 clear hr hn hl
 have uu:∀(x y z:Obj)(p:Addr)(v:Z),w.cell? p=M v->(((w.alloc x).alloc y).alloc z).cell? p=M v:=λx y z p v h=>by
  exact qcx
 have a1:=λx y z=>uu x y z _ _ e1
 have a2:=λx y z=>uu x y z _ _ e2
 have a3:=λx y z=>uu x y z _ _ e3
 clear uu
 have ba:Bw w ((((w.alloc (O #[I 13,S t,I n] 103)).alloc (O #[I pl,J sa stack.length cp,I st,I ((lk:Int)+1),F false,I 0,ze,F false,ze,F false] 163)).alloc (O #[I 0,nS,I 0,I 0,F false,I 0,ze,F false,ze,F false] 163)).alloc (O #[F y.has,I y.code,S y.text] 158)):=(((aN _ _).alloc qi _).alloc qj _).alloc qj _
 have og:B<=w.heap.size+1+1:=qg
 have vp:B<=w.heap.size+1:=qg
 have hz:=blk4 w (O #[I 13,S t,I n] 103) (O #[I pl,J sa stack.length cp,I st,I ((lk:Int)+1),F false,I 0,ze,F false,ze,F false] 163) (O #[I 0,nS,I 0,I 0,F false,I 0,ze,F false,ze,F false] 163) (O #[F y.has,I y.code,S y.text] 158)
 have hzr:((((w.alloc (O #[I 13,S t,I n] 103)).alloc (O #[I pl,J sa stack.length cp,I st,I ((lk:Int)+1),F false,I 0,ze,F false,ze,F false] 163)).alloc (O #[I 0,nS,I 0,I 0,F false,I 0,ze,F false,ze,F false] 163)).alloc (O #[F y.has,I y.code,S y.text] 158)).heap[w.heap.size+1+1+1]?=M (O #[F y.has,I y.code,S y.text] 158 (0,0)):=by
  have h:=Hn (((w.alloc (O #[I 13,S t,I n] 103)).alloc (O #[I pl,J sa stack.length cp,I st,I ((lk:Int)+1),F false,I 0,ze,F false,ze,F false] 163)).alloc (O #[I 0,nS,I 0,I 0,F false,I 0,ze,F false,ze,F false] 163)) (O #[F y.has,I y.code,S y.text] 158);rw[show(((w.alloc (O #[I 13,S t,I n] 103)).alloc (O #[I pl,J sa stack.length cp,I st,I ((lk:Int)+1),F false,I 0,ze,F false,ze,F false] 163)).alloc (O #[I 0,nS,I 0,I 0,F false,I 0,ze,F false,ze,F false] 163)).heap.size=w.heap.size+1+1+1 from qi]at h;exact h
 obtain⟨f,ef⟩:=Aj (De y.has)
 have EF:Hd (De y.has=f):=ef
 clear ef
 have lz:=((((ak.alloc (O #[I 13,S t,I n] 103)).alloc (O #[I pl,J sa stack.length cp,I st,I ((lk:Int)+1),F false,I 0,ze,F false,ze,F false] 163)).alloc (O #[I 0,nS,I 0,I 0,F false,I 0,ze,F false,ze,F false] 163)).alloc (O #[F y.has,I y.code,S y.text] 158)).alloc (O #[S f] 9)
 unfold Oi at ak
 unfold Df
 go_enter func112,ntmps112
 go_wp2_with (first|(go_at_call 59;refine(Bb nm _ qg).mono ?_;rintro e w9 ⟨rfl,rfl⟩))
 go_region_law (first|(refine step_flag rfl rfl y.has f EF.o ?_ ?_;(focus(simp[Act.eval];done)))|(refine step_appS rfl rfl B sa stack.length cp (Ar stack) ?_ ?_ (w.heap.size+1+1+1+1) f ?_ ?_ ?_ ?_ ?_;(focus(simp[Act.eval];done));(focus(exact lz));(focus(simp[Act.eval];done));(focus(simp[go_sem];done));(focus(simp;omega));(focus omega);intro g' mt w2 af ae;have jv:w2.heap[w.heap.size+1]?=M (O #[I pl,J sa stack.length cp,I st,I ((lk:Int)+1),F false,I 0,ze,F false,ze,F false] 163 (0,0)):=(by first|exact Fy ae (λb' B4 T' E3 nk=>Hp E3 qbq lz) _ _ 163 qh hz.2|exact Pu ae (λb' B4 T' E3 nk=>Hp E3 qbq lz) _ _ 163 qh hz.2);have mf:w2.heap[w.heap.size+1+1]?=M (O #[I 0,nS,I 0,I 0,F false,I 0,ze,F false,ze,F false] 163 (0,0)):=(by first|exact Fy ae (λb' B4 T' E3 nk=>Hp E3 qbq lz) _ _ 163 qh hz.1|exact Pu ae (λb' B4 T' E3 nk=>Hp E3 qbq lz) _ _ 163 qh hz.1);have il:Below B w w2:=(by first|exact((ba.mono hB).drew.alloc qj _).grown ae qj (λk hk=>(ak.lt k hk).1)|exact((ba.mono hB).alloc qj _).drew.grown ae qj (λk hk=>(ak.lt k hk).1));have k0:=cH mf 0;have k1:=cH mf 1;have k2:=cH mf 2;have k3:=cH mf 3;have k4:=cH mf 4;have k5:=cH mf 5;have k6:=cH mf 6;have k7:=cH mf 7;have k8:=cH mf 8;have k9:=cH mf 9;simp only[gA,gB,gC]at k0 k1 k2 k3 k4 k5 k6 k7 k8 k9;have m0:=cH jv 0;have m1:=cH jv 1;have m2:=cH jv 2;have m3:=cH jv 3;have m4:=cH jv 4;have m5:=cH jv 5;have m6:=cH jv 6;have m7:=cH jv 7;have m8:=cH jv 8;have m9:=cH jv 9;simp only[gA,gB,gC]at m0 m1 m2 m3 m4 m5 m6 m7 m8 m9;have f0:∀j,w2.frozen? ⟨w.heap.size+1+1,j,N⟩=false:=(λj=>fH mf j);have f1:∀j,w2.frozen? ⟨w.heap.size+1,j,N⟩=false:=(λj=>fH jv j);have X4:Hd (w2.heap[w.heap.size+1]?=M (O #[I pl,J sa stack.length cp,I st,I ((lk:Int)+1),F false,I 0,ze,F false,ze,F false] 163 (0,0))):=jv;have xz:Hd (w2.heap[w.heap.size+1+1]?=M (O #[I 0,nS,I 0,I 0,F false,I 0,ze,F false,ze,F false] 163 (0,0))):=mf;have lp:Hd (w2.ownsRow B 9 1 (J (p_ g') (stack.length+1) mt) (stack.length+1) (Ar stack++[S f])):=af;clear af ae a1 a2 a3))
 all_goals
  go_wp2_with fail;refine bR (v:=Df pl (J (p_ g') (stack.length+1) mt) st ((lk:Int)+1)) (by simp[results,results112,go_sem,Df,k0,k1,k2,k3,k4,k5,k6,k7,k8,k9]) rfl ⟨b10 ((il.setCell (p:=⟨w.heap.size+1,1,N⟩) vp _)) og,_,_,rfl,?_⟩;have h1:=Gb ⟨lp.o,_,X4.o⟩ 1 (J (p_ g') (stack.length+1) mt);have h2:∃cs,(w2.setCell ⟨w.heap.size+1,1,N⟩ (J (p_ g') (stack.length+1) mt)).heap[w.heap.size+1+1]?=M (O cs 163 (0,0)):=⟨_,by rw[hC w2 ⟨w.heap.size+1,1,N⟩ _ _ qi];exact xz.o⟩;have e:Ar (stack++[De y.has])=Ar stack++[S f]:=by rw[EF.o];simp[Ar]
  exact qix
end
def Bz(B:X)(is:L I3)(ys:L R3)(s:St)(w':E)(e:Ending):Prop:=
 (∃c t n,Dn is s=.over c t n/\∃(pl:Int)(va:Option Addr)(vn vc:X)(lk:Int),e=H (Dq pl (J va vn vc) n lk c t))∨
 (∃s',Dn is s=.go s'/\∃a' cp',e=H (Df s'.pl (J a' s'.stack.length cp') s'.steps s'.looks)/\Oi B w' a' cp' s'.stack)∨
 (∃ask nm s',Dn is s=.look ask nm s'/\ys.length<=s.looks/\∃(pl:Int)(va:Option Addr)(vn vc:X)(lk:Int),e=H (waitV pl (J va vn vc) s'.steps lk ask nm))∨
 (∃ask nm s' s'',Dn is s=.look ask nm s'/\s.looks<ys.length/\Ql ask nm (rx ys s.looks) s'=.go s''/\∃a' cp',e=H (Df s''.pl (J a' s''.stack.length cp') s''.steps s''.looks)/\Oi B w' a' cp' s''.stack)∨
 (∃ask nm s' c t n,Dn is s=.look ask nm s'/\s.looks<ys.length/\Ql ask nm (rx ys s.looks) s'=.over c t n/\∃(pl:Int)(va:Option Addr)(vn vc:X)(lk:Int),e=H (Dq pl (J va vn vc) n lk c t))
theorem Wg(a:Option Addr)(cap:X)(is:L I3)(s:St)(sa:Option Addr)(cp:X)(ra:Option Addr)(rcap:X)(ys:L R3)(w:E)(hv:Aq is=true)(hs:Gf is s)(dy:¬ s.pl<is.length):Calls prog 107 #[G #[J a is.length cap],Df s.pl (J sa s.stack.length cp) s.steps s.looks,J ra ys.length rcap] w λe w'=>Bw w w'/\Bz w.heap.size is ys s w' e:=by
 have gu:Hd (Dn is s=.over 2 (Gn s.pl) s.steps):=Ky dy
 have hplI:(is.length:Int)<=(s.pl:Int):=qg
 have mq:=Eo hv
 have Z7:=hs.pl
 have du:=hs.steps
 have ld:=hs.looks
 have gz:=hs.len
 obtain⟨ba,hz,hr,hc⟩:=op3 w a is.length cap s.pl (J sa s.stack.length cp) s.steps s.looks
 have og:w.heap.size<=w.heap.size+1+1:=qg
 have vp:w.heap.size<=w.heap.size+1:=qg
 obtain⟨q,eq⟩:=Aj (Gn s.pl)
 have EQ:Hd (Gn s.pl=q):=eq
 have HD:Hd _:=dcH eq qg
 clear eq
 unfold Df
 go_enter func107,ntmps107
 go_wp2_with fail
 refine(HD.o _).mono ?_
 rintro e w1 ⟨rfl,ah⟩
 have db:Bw w w1:=bN ba ah
 have bg:=Mv ah hz
 have az:=Mv ah hr
 have yx:=Mv ah hc
 have x0:=cK yx 0
 obtain⟨r0,r1,r2,r3,r4,r5,r6,r7,r8,r9⟩:=Km az
 have fr:=fZ az
 clear hz hr hc ba ah HD
 rw[EQ.o]at gu
 go_wp2_with fail
 have hl:=Es s.pl sa s.stack.length cp s.steps s.looks 2 q
 unfold Df at hl
 refine(hl _).mono ?_
 rintro e w2 ⟨rfl,a9⟩
 have bp:Bw w w2:=bN db a9
 have bi:=Mv a9 bg
 obtain⟨z0,z1,z2,z3,z4,z5,z6,z7,z8,z9⟩:=Km bi
 have fz:=fZ bi
 clear bi a9 hl
 unfold Dq
 go_wp2_with fail
 exact bR (v:=Dq s.pl (J sa s.stack.length cp) s.steps s.looks 2 q) qcc rfl ⟨b10 (bp) og,Or.inl ⟨2,q,s.steps,gu.o,_,_,_,_,_,rfl⟩⟩
theorem Za(a:Option Addr)(cap:X)(is:L I3)(s:St)(sa:Option Addr)(cp:X)(ra:Option Addr)(rcap:X)(ys:L R3)(w:E)(hv:Aq is=true)(hs:Gf is s)(dy:s.pl<is.length)(ib:s.steps=2000):Calls prog 107 #[G #[J a is.length cap],Df s.pl (J sa s.stack.length cp) s.steps s.looks,J ra ys.length rcap] w λe w'=>Bw w w'/\Bz w.heap.size is ys s w' e:=by
 have gu:Hd (Dn is s=.over 3 ⟨#[]⟩ s.steps):=Js dy ib
 have hplI:(s.pl:Int)<(is.length:Int):=qg
 have hst3:((s.steps:Int) == 2000)=true:=qj
 clear ib
 have mq:=Eo hv
 have Z7:=hs.pl
 have du:=hs.steps
 have ld:=hs.looks
 have gz:=hs.len
 obtain⟨ba,hz,hr,hc⟩:=op3 w a is.length cap s.pl (J sa s.stack.length cp) s.steps s.looks
 have og:w.heap.size<=w.heap.size+1+1:=qg
 have vp:w.heap.size<=w.heap.size+1:=qg
 obtain⟨q,eq⟩:=Aj (Gn s.pl)
 have EQ:Hd (Gn s.pl=q):=eq
 have HD:Hd _:=dcH eq qg
 clear eq
 unfold Df
 go_enter func107,ntmps107
 go_wp2_with fail
 refine(HD.o _).mono ?_
 rintro e w1 ⟨rfl,ah⟩
 have db:Bw w w1:=bN ba ah
 have bg:=Mv ah hz
 have az:=Mv ah hr
 have yx:=Mv ah hc
 have x0:=cK yx 0
 obtain⟨r0,r1,r2,r3,r4,r5,r6,r7,r8,r9⟩:=Km az
 have fr:=fZ az
 clear hz hr hc ba ah HD
 go_wp2_with fail
 have hl:=Es s.pl sa s.stack.length cp s.steps s.looks 3 ⟨#[]⟩
 unfold Df at hl
 refine(hl _).mono ?_
 rintro e w2 ⟨rfl,a9⟩
 have bp:Bw w w2:=bN db a9
 have bi:=Mv a9 bg
 obtain⟨z0,z1,z2,z3,z4,z5,z6,z7,z8,z9⟩:=Km bi
 have fz:=fZ bi
 clear bi a9 hl
 unfold Dq
 go_wp2_with fail
 exact bR (v:=Dq s.pl (J sa s.stack.length cp) s.steps s.looks 3 ⟨#[]⟩) qcc rfl ⟨b10 (bp) og,Or.inl ⟨3,⟨#[]⟩,s.steps,gu.o,_,_,_,_,_,rfl⟩⟩
open Go.RowKit
set_option linter.unusedVariables false
def Ji(o:X):X:=(Zn.getD o 0).toNat
theorem puts_eq(o:X)(h:o<=15):Zn.getD o 0=((Ji o:X):Int):=by
 exact qik
theorem tkH{o:X}(l6:1<=o)(ik:o<=15):∀W:E,Calls prog 111 #[I o] W λe w'=>e=H (.tuple #[I (Bd o:X),I (Ji o:X)])/\W=w':=λW=>by rw[<- takes_eq o ik,<- puts_eq o ik];exact Qaa o W l6 ik
theorem tp_le(o:X)(h:o<=15):Bd o<=2/\Ji o<=2:=by
 rcases(show o=0\/o=1\/o=2\/o=3\/o=4\/o=5\/o=6\/o=7\/o=8\/o=9\/o=10\/o=11\/o=12\/o=13\/o=14\/o=15 from qg)with rfl|rfl|rfl|rfl|rfl|rfl|rfl|rfl|rfl|rfl|rfl|rfl|rfl|rfl|rfl|rfl<;>decide
theorem Wr(o:X)(h1:1<=o)(h:o<=11)(t:By)(n:X)(a b:By):(El o t n a b).length=Ji o:=by
 exact qeb
theorem Qv{o:X}{l:L By}(h1:1<=o)(h:o<=15)(hl:l.length<=50)(hf:¬ l.length<Bd o)(hm:50<l.length-Bd o+Ji o):o<=11:=by
 rcases(show o<=11\/o=12\/o=13\/o=14\/o=15 from qg)with h|rfl|rfl|rfl|rfl
 ·exact h
 ·have e1:Bd 12=1:=rfl;have e2:Ji 12=1:=rfl;omega
 ·have e1:Bd 13=1:=rfl;have e2:Ji 13=1:=rfl;omega
 ·have e1:Bd 14=1:=rfl;have e2:Ji 14=0:=rfl;omega
 ·have e1:Bd 15=1:=rfl;have e2:Ji 15=0:=rfl;omega
open Go.RowKit
set_option linter.unusedVariables false
section
def r10(x0:Int)(a:Option Addr)(n c:X)(x2 x3:Int)(x4:Bool)(x5:Int)(x6:By)(x7:Bool)(x8:By)(x9:Bool):Z:=G #[I x0,J a n c,I x2,I x3,F x4,I x5,S x6,F x7,S x8,F x9]
theorem Yn{is:L I3}{s:St}(hs:Gf is s)(h:1<=s.stack.length):(Ea s.stack).size<=2000:=by
 apply hs.size
 unfold Ea
 rw[gG,gQ (show s.stack.length-1<s.stack.length from qg)]
 exact List.getElem_mem _
theorem sub_le{is:L I3}{s:St}(hs:Gf is s)(h:2<=s.stack.length):(Om s.stack).size<=2000:=by
 apply hs.size
 unfold Om
 rw[gG,gQ (show s.stack.length-2<s.stack.length from qg)]
 exact List.getElem_mem _
theorem Bz.set{B:X}{is:L I3}{ys:L R3}{s:St}{w:E}{e:Ending}{b:X}(h:Bz B is ys s w e/\∃cs,w.heap[b]?=M (O cs 163 (0,0)))(j:X)(x:Z):Bz B is ys s (w.setCell ⟨b,j,N⟩ x) e/\∃cs,(w.setCell ⟨b,j,N⟩ x).heap[b]?=M (O cs 163 (0,0)):=by
 obtain⟨h,hc⟩:=h
 refine⟨?_,by obtain⟨cs,hb⟩:=hc;exact⟨_,jB hb x⟩⟩
 rcases h with h|⟨s',h1,a',cp',h2,h3⟩|h|⟨ask,nm,s',s'',h1,h2,h3,a',cp',h4,h5⟩|h
 ·exact Or.inl h
 ·exact Or.inr (Or.inl ⟨s',h1,a',cp',h2,(Gb ⟨h3,hc⟩ j x).1⟩)
 ·exact Or.inr (Or.inr (Or.inl h))
 ·exact Or.inr (Or.inr (Or.inr (Or.inl ⟨ask,nm,s',s'',h1,h2,h3,a',cp',h4,(Gb ⟨h5,hc⟩ j x).1⟩)))
 ·exact Or.inr (Or.inr (Or.inr (Or.inr h)))
variable (B:X) (t:By) (n:X) (is:L I3) (s:St) (sa:Option Addr) (cp:X) (rest:L By) (nm q:By) (ra:Option Addr) (rcap:X) (ys:L R3) (w:E)
def Yh(B:X)(is:L I3)(ys:L R3)(s:St)(w w':E)(e:Ending):Prop:=
 Below B w w'/\∃x0 a n c x2 x3 x4 x5 x6 x7 x8 x9,e=H (r10 x0 a n c x2 x3 x4 x5 x6 x7 x8 x9)/\Bz B is ys s w' e
theorem Wz(hB:B<=w.heap.size)(hs:Gf is s)(dy:s.pl<is.length)(hl200:is.length<=200)(ib:s.steps≠2000)(ei:ix is s.pl=⟨12,t,n⟩)(hfew:1<=s.stack.length)(erest:rest=Dg s.stack 1)(enm:nm=Ea s.stack)(eq:q=Gn s.pl)(zx:ys.length<=200)(hr:Ob w ra ys)(ak:Oi B w sa cp rest)(gz:rest.length<50):Calls prog 112 #[G #[I 12,S t,I n],Df ((s.pl:Int)+1) (J sa rest.length cp) ((s.steps:Int)+1) s.looks,S nm,S q,J ra ys.length rcap] w λe w'=>Yh B is ys s w w' e:=by
 subst erest;subst enm;subst eq
 have e1:((s.pl+1:X):Int)=(s.pl:Int)+1:=rfl
 have e2:((s.steps+1:X):Int)=(s.steps:Int)+1:=rfl
 have du:=hs.steps
 have ld:=hs.looks
 have hp:=hs.pl
 have htk:¬ s.stack.length<Bd 12:=by rw[show Bd 12=1 from rfl];omega
 have pk:=Yn hs hfew
 have yp:=Ht dy ib (o:=12) ei
 rw[<- e1,<- e2]
 by_cases hn:Ay (Ea s.stack)
 ·by_cases hl:s.looks=200
  ·refine(look_sp B 12 t n (s.pl+1) sa cp (Dg s.stack 1) (s.steps+1) s.looks (Ea s.stack) (Gn s.pl) ra rcap ys w hB pk qg qg ld hn hl).mono ?_;rintro e w' ⟨hb,rfl⟩;exact⟨hb,_,_,_,_,_,_,_,_,_,_,_,_,rfl,Or.inl ⟨3,_,s.steps+1,yp.trans (Jx htk (Or.inl rfl) hn hl),_,_,_,_,_,rfl⟩⟩
  ·have yo:=yp.trans (Lj htk (Or.inl rfl) hn hl)
   by_cases hy:ys.length<=s.looks
   ·refine(look_wt B 12 t n (s.pl+1) sa cp (Dg s.stack 1) (s.steps+1) s.looks (Ea s.stack) (Gn s.pl) ra rcap ys w hB pk qg qg ld hn hl hy).mono ?_;rintro e w' ⟨hb,rfl⟩;exact⟨hb,_,_,_,_,_,_,_,_,_,_,_,_,rfl,Or.inr (Or.inr (Or.inl ⟨true,_,_,yo,hy,_,_,_,_,_,rfl⟩))⟩
   ·have I7:s.looks<ys.length:=qg
    cases hh:(rx ys s.looks).has with
    | false=>
     refine(look_miss B t n (s.pl+1) sa cp (Dg s.stack 1) (s.steps+1) s.looks (Ea s.stack) (Gn s.pl) ra rcap ys w hB pk qg qg ld hn hl I7 zx hr hh).mono ?_;rintro e w' ⟨hb,rfl⟩;exact⟨hb,_,_,_,_,_,_,_,_,_,_,_,_,rfl,Or.inr (Or.inr (Or.inr (Or.inr ⟨true,_,_,4,_,s.steps+1,yo,I7,by simp[Ql,hh],_,_,_,_,_,rfl⟩)))⟩
    | true=>
     by_cases pw:(rx ys s.looks).code=0
     ·refine(look_text B t n (s.pl+1) sa cp (Dg s.stack 1) (s.steps+1) s.looks (Ea s.stack) (Gn s.pl) ra rcap ys w hB pk qg qg ld hn hl I7 zx hr hh pw ak gz).mono ?_;rintro e w' ⟨hb,a',cp',rfl,ho⟩;exact⟨hb,_,_,_,_,_,_,_,_,_,_,_,_,rfl,Or.inr (Or.inr (Or.inr (Or.inl ⟨true,_,_,⟨s.pl+1,Dg s.stack 1++[(rx ys s.looks).text],s.steps+1,s.looks+1⟩,yo,I7,by simp[Ql,hh,pw],a',cp',by simp[List.length_append],ho⟩)))⟩
     ·refine(Zt B t n (s.pl+1) sa cp (Dg s.stack 1) (s.steps+1) s.looks (Ea s.stack) (Gn s.pl) ra rcap ys w hB pk qg qg ld hn hl I7 zx hr hh pw).mono ?_;rintro e w' ⟨hb,rfl⟩;exact⟨hb,_,_,_,_,_,_,_,_,_,_,_,_,rfl,Or.inr (Or.inr (Or.inr (Or.inr ⟨true,_,_,5,_,s.steps+1,yo,I7,by simp[Ql,hh,pw],_,_,_,_,_,rfl⟩)))⟩
 ·refine(look_no B 12 t n (s.pl+1) sa cp (Dg s.stack 1) (s.steps+1) s.looks (Ea s.stack) (Gn s.pl) ra rcap ys w hB pk qg qg ld hn).mono ?_;rintro e w' ⟨hb,rfl⟩;exact⟨hb,_,_,_,_,_,_,_,_,_,_,_,_,rfl,Or.inl ⟨2,_,s.steps+1,yp.trans (Nn htk (Or.inl rfl) hn),_,_,_,_,_,rfl⟩⟩
theorem Wy(hB:B<=w.heap.size)(hs:Gf is s)(dy:s.pl<is.length)(hl200:is.length<=200)(ib:s.steps≠2000)(ei:ix is s.pl=⟨13,t,n⟩)(hfew:1<=s.stack.length)(erest:rest=Dg s.stack 1)(enm:nm=Ea s.stack)(eq:q=Gn s.pl)(zx:ys.length<=200)(hr:Ob w ra ys)(ak:Oi B w sa cp rest)(gz:rest.length<50):Calls prog 112 #[G #[I 13,S t,I n],Df ((s.pl:Int)+1) (J sa rest.length cp) ((s.steps:Int)+1) s.looks,S nm,S q,J ra ys.length rcap] w λe w'=>Yh B is ys s w w' e:=by
 subst erest;subst enm;subst eq
 have e1:((s.pl+1:X):Int)=(s.pl:Int)+1:=rfl
 have e2:((s.steps+1:X):Int)=(s.steps:Int)+1:=rfl
 have du:=hs.steps
 have ld:=hs.looks
 have hp:=hs.pl
 have htk:¬ s.stack.length<Bd 13:=by rw[show Bd 13=1 from rfl];omega
 have pk:=Yn hs hfew
 have yp:=Ht dy ib (o:=13) ei
 rw[<- e1,<- e2]
 by_cases hn:Ay (Ea s.stack)
 ·by_cases hl:s.looks=200
  ·refine(look_sp B 13 t n (s.pl+1) sa cp (Dg s.stack 1) (s.steps+1) s.looks (Ea s.stack) (Gn s.pl) ra rcap ys w hB pk qg qg ld hn hl).mono ?_;rintro e w' ⟨hb,rfl⟩;exact⟨hb,_,_,_,_,_,_,_,_,_,_,_,_,rfl,Or.inl ⟨3,_,s.steps+1,yp.trans (Jx htk (Or.inr rfl) hn hl),_,_,_,_,_,rfl⟩⟩
  ·have yo:=yp.trans (Lj htk (Or.inr rfl) hn hl)
   by_cases hy:ys.length<=s.looks
   ·refine(look_wt B 13 t n (s.pl+1) sa cp (Dg s.stack 1) (s.steps+1) s.looks (Ea s.stack) (Gn s.pl) ra rcap ys w hB pk qg qg ld hn hl hy).mono ?_;rintro e w' ⟨hb,rfl⟩;exact⟨hb,_,_,_,_,_,_,_,_,_,_,_,_,rfl,Or.inr (Or.inr (Or.inl ⟨false,_,_,yo,hy,_,_,_,_,_,rfl⟩))⟩
   ·have I7:s.looks<ys.length:=qg;refine(look_flag B t n (s.pl+1) sa cp (Dg s.stack 1) (s.steps+1) s.looks (Ea s.stack) (Gn s.pl) ra rcap ys w hB pk qg qg ld hn hl I7 zx hr ak gz).mono ?_;rintro e w' ⟨hb,a',cp',rfl,ho⟩;exact⟨hb,_,_,_,_,_,_,_,_,_,_,_,_,rfl,Or.inr (Or.inr (Or.inr (Or.inl ⟨false,_,_,⟨s.pl+1,Dg s.stack 1++[De (rx ys s.looks).has],s.steps+1,s.looks+1⟩,yo,I7,by simp[Ql],a',cp',by simp[List.length_append],ho⟩)))⟩
 ·refine(look_no B 13 t n (s.pl+1) sa cp (Dg s.stack 1) (s.steps+1) s.looks (Ea s.stack) (Gn s.pl) ra rcap ys w hB pk qg qg ld hn).mono ?_;rintro e w' ⟨hb,rfl⟩;exact⟨hb,_,_,_,_,_,_,_,_,_,_,_,_,rfl,Or.inl ⟨2,_,s.steps+1,yp.trans (Nn htk (Or.inr rfl) hn),_,_,_,_,_,rfl⟩⟩
end
theorem own_out{w:E}{xs:L Z}{g0:Addr}{n0 c0:X}(h:w.ownsRow B 9 1 v' (n+m) (xs++ss.map .string))(hn:v'=nS↔(Value.slice (M g0) n0 c0)=nS/\m=0)(e0:n=0:=by rfl)(e1:xs=[]:=by rfl):∃g cp,v'=J (p_ g) m cp/\w.ownsRow B 9 1 (J (p_ g) m cp) m (Ar ss):=by
 subst e0;subst e1
 rw[Nat.zero_add,List.nil_append]at h
 rcases h.2 with⟨hv,_⟩|⟨g,cap,cur,hv,r⟩
 ·have:=(hn.mp hv).1;cases this
 ·subst hv;exact⟨g,cap,rfl,h⟩
theorem own_add{w:E}{x:By}(h:w.ownsRow B 9 1 v' (m+1) (Ar ss++[S x])):∃g cp,v'=J (p_ g) (m+1) cp/\w.ownsRow B 9 1 (J (p_ g) (m+1) cp) (m+1) (Ar (ss++[x])):=by
 rcases h.2 with⟨hv,h0⟩|⟨g,cap,cur,hv,r⟩
 ·omega
 ·subst hv;refine⟨g,cap,rfl,?_⟩;rw[show Ar (ss++[x])=Ar ss++[S x] from qbw];exact h
theorem Oi.mono{w:E}{a:Option Addr}{cp:X}(h:Oi B w a cp ss)(hB:B'<=B):Oi B' w a cp ss:=by
 exact qjq
theorem Bz.mono{w:E}(h:Bz B is ys s w e)(hB:B'<=B):Bz B' is ys s w e:=by
 rcases h with h|⟨s',h1,a',cp',h2,h3⟩|h|⟨ask,nm,s',s'',h1,h2,h3,a',cp',h4,h5⟩|h
 ·exact Or.inl h
 ·exact Or.inr (Or.inl ⟨s',h1,a',cp',h2,h3.mono hB⟩)
 ·exact Or.inr (Or.inr (Or.inl h))
 ·exact Or.inr (Or.inr (Or.inr (Or.inl ⟨ask,nm,s',s'',h1,h2,h3,a',cp',h4,h5.mono hB⟩)))
 ·exact Or.inr (Or.inr (Or.inr (Or.inr h)))
theorem Rk{w:E}{b:X}(h:Bz B is ys s w e)(hc:∃cs,w.heap[b]?=M (O cs 163 (0,0)))(v0 v1 v2 v3 v4 v5 v6 v7 v8 v9:Z):Bz B is ys s ((((((((((w.setCell ⟨b,0,N⟩ v0).setCell ⟨b,1,N⟩ v1).setCell ⟨b,2,N⟩ v2).setCell ⟨b,3,N⟩ v3).setCell ⟨b,4,N⟩ v4).setCell ⟨b,5,N⟩ v5).setCell ⟨b,6,N⟩ v6).setCell ⟨b,7,N⟩ v7).setCell ⟨b,8,N⟩ v8).setCell ⟨b,9,N⟩ v9) e:=
 (Bz.set (Bz.set (Bz.set (Bz.set (Bz.set (Bz.set (Bz.set (Bz.set (Bz.set (Bz.set ⟨h,hc⟩ 0 v0) 1 v1) 2 v2) 3 v3) 4 v4) 5 v5) 6 v6) 7 v7) 8 v8) 9 v9).1
theorem step_go{o:X}{t:By}(dy:s.pl<is.length)(ib:s.steps≠2000)(e:ix is s.pl=⟨o,t,n⟩)(ho:o<=11)(em:s.stack.length=m+Bd o){outs:L By}(eo:El o t n (Ea s.stack) (Om s.stack)=outs)(hm:m+outs.length<=50)(hx:∀x∈outs,x.size<=2000)(en:Iv o n s.pl (Ea s.stack)=npl):Dn is s=.go ⟨npl,s.stack.take m++outs,s.steps+1,s.looks⟩:=by
 have er:Dg s.stack (Bd o)=s.stack.take m:=by unfold Dg;rw[em,Nat.add_sub_cancel]
 have h:=(Ht dy ib e).trans (Rw qg ho (by
  unfold Bad;rw[eo,er,List.length_take];rintro(h|⟨x,h1,h2⟩)
  ·omega
  ·have:=hx x h1;omega))
 rw[h,eo,er,en]
theorem go_post{w':E}{stk:L By}{a':Option Addr}{cp' k:X}{pI:Int}(h:Dn is s=.go ⟨npl,stk,s.steps+1,s.looks⟩)(hk:stk.length=k)(hp:pI=(npl:Int))(ho:w'.ownsRow B 9 1 (J a' k cp') k (Ar stk)):Bz B is ys s w' (H (Df pI (J a' k cp') ((s.steps:Int)+1) s.looks)):=by
 subst hk
 subst hp
 exact Or.inr (Or.inl ⟨_,h,a',cp',rfl,ho⟩)
end Go.Proofs.YtoihflimijabjaaGreatDoor
