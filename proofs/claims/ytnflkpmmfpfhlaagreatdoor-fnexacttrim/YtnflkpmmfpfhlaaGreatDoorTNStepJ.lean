import Derived.Test.YtnflkpmmfpfhlaaGreatDoorTClB
namespace Go.Proofs.YtnflkpmmfpfhlaaGreatDoor
open _root_.Go.Proofs.Tryz Go.RowKit
open Value renaming slice->J,string->S,bool->F,agg->G
open Option renaming some->M,none->N
open Obj renaming cells->O
open Go renaming Value->Z,World->E
open Ending renaming returned->H
open _root_ renaming List->L,Nat->X
set_option linter.unusedVariables false
set_option maxHeartbeats 8000000
set_option maxRecDepth 100000
set_option linter.unusedSimpArgs false
variable {w:E} {B n m B' npl:X} {v':Z} {ss:L By} {is:L I3} {ys:L R3} {s:St} {e:Ending}
section
def Sa(B:X)(w:E)(a:Option Addr)(cp:X)(ss:L By):Prop:=w.ownsRow B 9 1 (J a ss.length cp) ss.length (Ar ss)
variable (B:X) (o:X) (t:By) (n:X) (pl:X) (sa:Option Addr) (cp:X) (stack:L By) (st lk:X) (nm place:By) (ra:Option Addr) (rcap:X) (ys:L R3) (w:E)
theorem blk3(o1 o2 o3:Obj):(((w.alloc o1).alloc o2).alloc o3).heap[w.heap.size+1+1]?=M o3/\(((w.alloc o1).alloc o2).alloc o3).heap[w.heap.size+1]?=M o2/\(((w.alloc o1).alloc o2).alloc o3).heap[w.heap.size]?=M o1:=by
 refine⟨?_,?_,?_⟩
 ·have h:=Bf ((w.alloc o1).alloc o2) o3;rw[show((w.alloc o1).alloc o2).heap.size=w.heap.size+1+1 from qi]at h;exact h
 ·rw[Lib.alloc_old _ _ _ qi];have h:=Bf (w.alloc o1) o2;rw[show(w.alloc o1).heap.size=w.heap.size+1 from qi]at h;exact h
 ·rw[Lib.alloc_old _ _ _ qj,Lib.alloc_old _ _ _ qi];exact Bf w o1
theorem op3(w:E)(a:Option Addr)(n cap:X)(p:Int)(v:Z)(st lo:Int):Bw w (((w.alloc (O #[J a n cap] 70)).alloc (O #[I p,v,I st,I lo,F false,I 0,ze,F false,ze,F false] 216)).alloc (O #[I 0,nS,I 0,I 0,F false,I 0,ze,F false,ze,F false] 216))/\(((w.alloc (O #[J a n cap] 70)).alloc (O #[I p,v,I st,I lo,F false,I 0,ze,F false,ze,F false] 216)).alloc (O #[I 0,nS,I 0,I 0,F false,I 0,ze,F false,ze,F false] 216)).heap[w.heap.size+1+1]?=M (O #[I 0,nS,I 0,I 0,F false,I 0,ze,F false,ze,F false] 216)/\(((w.alloc (O #[J a n cap] 70)).alloc (O #[I p,v,I st,I lo,F false,I 0,ze,F false,ze,F false] 216)).alloc (O #[I 0,nS,I 0,I 0,F false,I 0,ze,F false,ze,F false] 216)).heap[w.heap.size+1]?=M (O #[I p,v,I st,I lo,F false,I 0,ze,F false,ze,F false] 216)/\(((w.alloc (O #[J a n cap] 70)).alloc (O #[I p,v,I st,I lo,F false,I 0,ze,F false,ze,F false] 216)).alloc (O #[I 0,nS,I 0,I 0,F false,I 0,ze,F false,ze,F false] 216)).heap[w.heap.size]?=M (O #[J a n cap] 70):=⟨((aN _ _).alloc qi _).alloc qj _,blk3 w _ _ _⟩
theorem dcH{p:X}{q:By}(eq:Fw p=q)(h:p<=1000000):∀W:E,Calls prog 137 #[I p] W λe w'=>e=H (S q)/\Bw W w':=λW=>by rw[<- eq];exact l2Dec_any p W h
theorem look_no(hB:B<=w.heap.size)(cz:nm.size<=2000)(d7:pl<=201)(cr:st<=2000)(nr:lk<=200)(hn:¬ Ao nm):Calls prog 158 #[G #[I o,S t,I n],Eb pl (J sa stack.length cp) st lk,S nm,S place,J ra ys.length rcap] w λe w'=>Below B w w'/\e=H (Eg pl (J sa stack.length cp) st lk 2 place):=by
 have ll:=Ct hn
 have ak:Bw w (((w.alloc (O #[I o,S t,I n] 174)).alloc (O #[I pl,J sa stack.length cp,I st,I lk,F false,I 0,ze,F false,ze,F false] 216)).alloc (O #[I 0,nS,I 0,I 0,F false,I 0,ze,F false,ze,F false] 216)):=((aN _ _).alloc qi _).alloc qj _
 have ve:B<=w.heap.size+1+1:=qg
 have hz:=(blk3 w (O #[I o,S t,I n] 174) (O #[I pl,J sa stack.length cp,I st,I lk,F false,I 0,ze,F false,ze,F false] 216) (O #[I 0,nS,I 0,I 0,F false,I 0,ze,F false,ze,F false] 216)).1
 unfold Eb
 go_enter func158,ntmps158
 go_wp2_with (first|(go_at_call 76;refine(Cf nm _ qg).mono ?_;rintro e w9 ⟨rfl,rfl⟩))
 have hl:=Fi pl sa stack.length cp st lk 2 place
 unfold Eb at hl
 refine(hl _).mono ?_
 rintro e w1 ⟨rfl,ag⟩
 have bm:=(bN ak ag).mono hB
 have bi:w1.heap[w.heap.size+1+1]?=M (O #[I 0,nS,I 0,I 0,F false,I 0,ze,F false,ze,F false] 216 (0,0)):=by rw[ag.block _ qi];exact hz
 obtain⟨k0,k1,k2,k3,k4,k5,k6,k7,k8,k9⟩:=Et bi
 have f0:=fZ bi
 clear hz bi ak ag hl
 unfold Eg
 go_wp2_with fail
 exact bR (v:=Eg pl (J sa stack.length cp) st lk 2 place) qec rfl ⟨Sw (bm) ve,rfl⟩
theorem look_sp(hB:B<=w.heap.size)(cz:nm.size<=2000)(d7:pl<=201)(cr:st<=2000)(nr:lk<=200)(hn:Ao nm)(hl:lk=200):Calls prog 158 #[G #[I o,S t,I n],Eb pl (J sa stack.length cp) st lk,S nm,S place,J ra ys.length rcap] w λe w'=>Below B w w'/\e=H (Eg pl (J sa stack.length cp) st lk 3 ⟨#[]⟩):=by
 have ll:=Dc hn
 have d1:((lk:Int) == 200)=true:=qj
 clear hl
 have ak:Bw w (((w.alloc (O #[I o,S t,I n] 174)).alloc (O #[I pl,J sa stack.length cp,I st,I lk,F false,I 0,ze,F false,ze,F false] 216)).alloc (O #[I 0,nS,I 0,I 0,F false,I 0,ze,F false,ze,F false] 216)):=((aN _ _).alloc qi _).alloc qj _
 have ve:B<=w.heap.size+1+1:=qg
 have hz:=(blk3 w (O #[I o,S t,I n] 174) (O #[I pl,J sa stack.length cp,I st,I lk,F false,I 0,ze,F false,ze,F false] 216) (O #[I 0,nS,I 0,I 0,F false,I 0,ze,F false,ze,F false] 216)).1
 unfold Eb
 go_enter func158,ntmps158
 go_wp2_with (first|(go_at_call 76;refine(Cf nm _ qg).mono ?_;rintro e w9 ⟨rfl,rfl⟩))
 have hl:=Fi pl sa stack.length cp st lk 3 ⟨#[]⟩
 unfold Eb at hl
 refine(hl _).mono ?_
 rintro e w1 ⟨rfl,ag⟩
 have bm:=(bN ak ag).mono hB
 have bi:w1.heap[w.heap.size+1+1]?=M (O #[I 0,nS,I 0,I 0,F false,I 0,ze,F false,ze,F false] 216 (0,0)):=by rw[ag.block _ qi];exact hz
 obtain⟨k0,k1,k2,k3,k4,k5,k6,k7,k8,k9⟩:=Et bi
 have f0:=fZ bi
 clear hz bi ak ag hl
 unfold Eg
 go_wp2_with fail
 exact bR (v:=Eg pl (J sa stack.length cp) st lk 3 ⟨#[]⟩) qec rfl ⟨Sw (bm) ve,rfl⟩
theorem look_wt(hB:B<=w.heap.size)(cz:nm.size<=2000)(d7:pl<=201)(cr:st<=2000)(nr:lk<=200)(hn:Ao nm)(hl:lk≠200)(hy:ys.length<=lk):Calls prog 158 #[G #[I o,S t,I n],Eb pl (J sa stack.length cp) st lk,S nm,S place,J ra ys.length rcap] w λe w'=>Below B w w'/\e=H (waitV pl (J sa stack.length cp) st lk ((o:Int) == 12) nm):=by
 have ll:=Dc hn
 have d1:((lk:Int) == 200)=false:=qj
 have hyI:(ys.length:Int)<=(lk:Int):=qg
 unfold Eb
 go_enter func158,ntmps158
 go_wp2_with (first|(go_at_call 76;refine(Cf nm _ qg).mono ?_;rintro e w9 ⟨rfl,rfl⟩))
 exact bR (v:=waitV pl (J sa stack.length cp) st lk ((o:Int) == 12) nm) (by simp[results,results158,go_sem,waitV]) rfl ⟨(((aN _ _).alloc qi _).alloc qj _).mono hB,rfl⟩
theorem blk4(o1 o2 o3 o4:Obj):((((w.alloc o1).alloc o2).alloc o3).alloc o4).heap[w.heap.size+1+1]?=M o3/\((((w.alloc o1).alloc o2).alloc o3).alloc o4).heap[w.heap.size+1]?=M o2:=by
 obtain⟨h1,h2,h3⟩:=blk3 w o1 o2 o3
 exact⟨by rw[Lib.alloc_old _ _ _ qi];exact h1,by rw[Lib.alloc_old _ _ _ qi];exact h2⟩
theorem look_miss(hB:B<=w.heap.size)(cz:nm.size<=2000)(d7:pl<=201)(cr:st<=2000)(nr:lk<=200)(hn:Ao nm)(hl:lk≠200)(hy:lk<ys.length)(P5:ys.length<=200)(hr:Ry w ra ys)(hh:(rx ys lk).has=false):Calls prog 158 #[G #[I 12,S t,I n],Eb pl (J sa stack.length cp) st lk,S nm,S place,J ra ys.length rcap] w λe w'=>Below B w w'/\e=H (Eg pl (J sa stack.length cp) st ((lk:Int)+1) 4 nm):=by
 have ll:=Dc hn
 have d1:((lk:Int) == 200)=false:=qj
 have hyI:(lk:Int)<(ys.length:Int):=qg
 obtain⟨b,off,rfl,e1,e2,e3⟩:=hr lk hy
 rw[hh]at e1
 generalize rx ys lk=y at *
 clear hr hn hl
 clear hh
 have ju:∀(x y z:Obj)(p:Addr)(v:Z),w.cell? p=M v->(((w.alloc x).alloc y).alloc z).cell? p=M v:=λx y z p v h=>by
  exact qdi
 have a1:=λx y z=>ju x y z _ _ e1
 have a2:=λx y z=>ju x y z _ _ e2
 have a3:=λx y z=>ju x y z _ _ e3
 clear ju
 have ak:Bw w ((((w.alloc (O #[I 12,S t,I n] 174)).alloc (O #[I pl,J sa stack.length cp,I st,I ((lk:Int)+1),F false,I 0,ze,F false,ze,F false] 216)).alloc (O #[I 0,nS,I 0,I 0,F false,I 0,ze,F false,ze,F false] 216)).alloc (O #[F false,I y.code,S y.text] 191)):=(((aN _ _).alloc qi _).alloc qj _).alloc qj _
 have ve:B<=w.heap.size+1+1:=qg
 have hz:=(blk4 w (O #[I 12,S t,I n] 174) (O #[I pl,J sa stack.length cp,I st,I ((lk:Int)+1),F false,I 0,ze,F false,ze,F false] 216) (O #[I 0,nS,I 0,I 0,F false,I 0,ze,F false,ze,F false] 216) (O #[F false,I y.code,S y.text] 191)).1
 unfold Eb
 go_enter func158,ntmps158
 go_wp2_with (first|(go_at_call 76;refine(Cf nm _ qg).mono ?_;rintro e w9 ⟨rfl,rfl⟩))
 have hl:=Fi pl sa stack.length cp st ((lk:Int)+1) 4 nm
 unfold Eb at hl
 refine(hl _).mono ?_
 rintro e w1 ⟨rfl,ag⟩
 have bm:=(bN ak ag).mono hB
 have bi:w1.heap[w.heap.size+1+1]?=M (O #[I 0,nS,I 0,I 0,F false,I 0,ze,F false,ze,F false] 216 (0,0)):=by rw[ag.block _ qi];exact hz
 obtain⟨k0,k1,k2,k3,k4,k5,k6,k7,k8,k9⟩:=Et bi
 have f0:=fZ bi
 clear hz bi ak ag hl a1 a2 a3
 unfold Eg
 go_wp2_with fail
 exact bR (v:=Eg pl (J sa stack.length cp) st ((lk:Int)+1) 4 nm) qec rfl ⟨Sw (bm) ve,rfl⟩
theorem look_below(hB:B<=w.heap.size)(cz:nm.size<=2000)(d7:pl<=201)(cr:st<=2000)(nr:lk<=200)(hn:Ao nm)(hl:lk≠200)(hy:lk<ys.length)(P5:ys.length<=200)(hr:Ry w ra ys)(hh:(rx ys lk).has=true)(hcd:(rx ys lk).code≠0):Calls prog 158 #[G #[I 12,S t,I n],Eb pl (J sa stack.length cp) st lk,S nm,S place,J ra ys.length rcap] w λe w'=>Below B w w'/\e=H (Eg pl (J sa stack.length cp) st ((lk:Int)+1) 5 nm):=by
 have ll:=Dc hn
 have d1:((lk:Int) == 200)=false:=qj
 have hyI:(lk:Int)<(ys.length:Int):=qg
 obtain⟨b,off,rfl,e1,e2,e3⟩:=hr lk hy
 rw[hh]at e1
 have hcb:((rx ys lk).code == 0)=false:=by simpa using hcd
 generalize rx ys lk=y at *
 clear hr hn hl
 clear hh
 have ju:∀(x y z:Obj)(p:Addr)(v:Z),w.cell? p=M v->(((w.alloc x).alloc y).alloc z).cell? p=M v:=λx y z p v h=>by
  exact qdi
 have a1:=λx y z=>ju x y z _ _ e1
 have a2:=λx y z=>ju x y z _ _ e2
 have a3:=λx y z=>ju x y z _ _ e3
 clear ju
 have ak:Bw w ((((w.alloc (O #[I 12,S t,I n] 174)).alloc (O #[I pl,J sa stack.length cp,I st,I ((lk:Int)+1),F false,I 0,ze,F false,ze,F false] 216)).alloc (O #[I 0,nS,I 0,I 0,F false,I 0,ze,F false,ze,F false] 216)).alloc (O #[F true,I y.code,S y.text] 191)):=(((aN _ _).alloc qi _).alloc qj _).alloc qj _
 have ve:B<=w.heap.size+1+1:=qg
 have hz:=(blk4 w (O #[I 12,S t,I n] 174) (O #[I pl,J sa stack.length cp,I st,I ((lk:Int)+1),F false,I 0,ze,F false,ze,F false] 216) (O #[I 0,nS,I 0,I 0,F false,I 0,ze,F false,ze,F false] 216) (O #[F true,I y.code,S y.text] 191)).1
 unfold Eb
 go_enter func158,ntmps158
 go_wp2_with (first|(go_at_call 76;refine(Cf nm _ qg).mono ?_;rintro e w9 ⟨rfl,rfl⟩))
 have hl:=Fi pl sa stack.length cp st ((lk:Int)+1) 5 nm
 unfold Eb at hl
 refine(hl _).mono ?_
 rintro e w1 ⟨rfl,ag⟩
 have bm:=(bN ak ag).mono hB
 have bi:w1.heap[w.heap.size+1+1]?=M (O #[I 0,nS,I 0,I 0,F false,I 0,ze,F false,ze,F false] 216 (0,0)):=by rw[ag.block _ qi];exact hz
 obtain⟨k0,k1,k2,k3,k4,k5,k6,k7,k8,k9⟩:=Et bi
 have f0:=fZ bi
 clear hz bi ak ag hl a1 a2 a3
 unfold Eg
 go_wp2_with fail
 exact bR (v:=Eg pl (J sa stack.length cp) st ((lk:Int)+1) 5 nm) qec rfl ⟨Sw (bm) ve,rfl⟩
theorem Hb{B:X}{w:E}{v:Z}{n:X}{xs:L Z}{b:X}(h:w.ownsRow B 9 1 v n xs/\∃cs,w.heap[b]?=M (O cs 216 (0,0)))(j:X)(x:Z):(w.setCell ⟨b,j,N⟩ x).ownsRow B 9 1 v n xs/\∃cs,(w.setCell ⟨b,j,N⟩ x).heap[b]?=M (O cs 216 (0,0)):=by
 obtain⟨ho,cs,hb⟩:=h
 refine⟨⟨ho.1,?_⟩,_,jB hb x⟩
 have hne:=Hm qh hb ho
 rcases ho.2 with h0|⟨g,cap,cur,hv,hg,hh,r⟩
 ·exact Or.inl h0
 ·refine Or.inr ⟨g,cap,cur,hv,hg,?_,r⟩;rw[Dm w ⟨b,j,N⟩ _ g qcs];exact hh
theorem look_text(hB:B<=w.heap.size)(cz:nm.size<=2000)(d7:pl<=201)(cr:st<=2000)(nr:lk<=200)(hn:Ao nm)(hl:lk≠200)(hy:lk<ys.length)(P5:ys.length<=200)(hr:Ry w ra ys)(hh:(rx ys lk).has=true)(hcd:(rx ys lk).code=0)(ah:Sa B w sa cp stack)(xk:stack.length<50):Calls prog 158 #[G #[I 12,S t,I n],Eb pl (J sa stack.length cp) st lk,S nm,S place,J ra ys.length rcap] w λe w'=>Below B w w'/\∃a' px,e=H (Eb pl (J a' (stack.length+1) px) st ((lk:Int)+1))/\Sa B w' a' px (stack++[(rx ys lk).text]):=by
 have ll:=Dc hn
 have d1:((lk:Int) == 200)=false:=qj
 have hyI:(lk:Int)<(ys.length:Int):=qg
 obtain⟨b,off,rfl,e1,e2,e3⟩:=hr lk hy
 rw[hh]at e1
 rw[hcd]at e2
 generalize rx ys lk=y at *
 clear hr hn hl
 clear hh
 have ju:∀(x y z:Obj)(p:Addr)(v:Z),w.cell? p=M v->(((w.alloc x).alloc y).alloc z).cell? p=M v:=λx y z p v h=>by
  exact qdi
 have a1:=λx y z=>ju x y z _ _ e1
 have a2:=λx y z=>ju x y z _ _ e2
 have a3:=λx y z=>ju x y z _ _ e3
 clear ju
 have ak:Bw w ((((w.alloc (O #[I 12,S t,I n] 174)).alloc (O #[I pl,J sa stack.length cp,I st,I ((lk:Int)+1),F false,I 0,ze,F false,ze,F false] 216)).alloc (O #[I 0,nS,I 0,I 0,F false,I 0,ze,F false,ze,F false] 216)).alloc (O #[F true,I 0,S y.text] 191)):=(((aN _ _).alloc qi _).alloc qj _).alloc qj _
 have ve:B<=w.heap.size+1+1:=qg
 have hR1:B<=w.heap.size+1:=qg
 have hz:=blk4 w (O #[I 12,S t,I n] 174) (O #[I pl,J sa stack.length cp,I st,I ((lk:Int)+1),F false,I 0,ze,F false,ze,F false] 216) (O #[I 0,nS,I 0,I 0,F false,I 0,ze,F false,ze,F false] 216) (O #[F true,I 0,S y.text] 191)
 have gw:=((((ah.alloc (O #[I 12,S t,I n] 174)).alloc (O #[I pl,J sa stack.length cp,I st,I ((lk:Int)+1),F false,I 0,ze,F false,ze,F false] 216)).alloc (O #[I 0,nS,I 0,I 0,F false,I 0,ze,F false,ze,F false] 216)).alloc (O #[F true,I 0,S y.text] 191)).alloc (O #[S y.text] 9)
 obtain⟨i0,hi,bq,Le,K9⟩:=info_parts Tryz.info9b
 unfold Sa at ah
 unfold Eb
 go_enter func158,ntmps158
 go_wp2_with (first|(go_at_call 76;refine(Cf nm _ qg).mono ?_;rintro e w9 ⟨rfl,rfl⟩)|(at_builtin;refine wpList_append_own _ rfl (.tmp 70) (.tmp 73) 22 rfl B 9 i0 ze 1 16 underlying22 hi bq Le K9 rfl qh _ _ _ rfl gw ⟨w.heap.size+1+1+1+1,0,N⟩ 1 1 [S y.text] rfl rfl ?_ qak qq qg qj ?_;(focus(have:=cell_one_new ((((w.alloc (O #[I 12,S t,I n] 174)).alloc (O #[I pl,J sa stack.length cp,I st,I ((lk:Int)+1),F false,I 0,ze,F false,ze,F false] 216)).alloc (O #[I 0,nS,I 0,I 0,F false,I 0,ze,F false,ze,F false] 216)).alloc (O #[F true,I 0,S y.text] 191)) (S y.text) 9;simpa using this));intro v' w2 aw ae dj;clear dj;have mh:w2.heap[w.heap.size+1]?=M (O #[I pl,J sa stack.length cp,I st,I ((lk:Int)+1),F false,I 0,ze,F false,ze,F false] 216 (0,0)):=Fu ae (λb' cs' T' N0 Io=>Hm N0 qbj gw) _ _ 216 qh hz.2;have sy:w2.heap[w.heap.size+1+1]?=M (O #[I 0,nS,I 0,I 0,F false,I 0,ze,F false,ze,F false] 216 (0,0)):=Fu ae (λb' cs' T' N0 Io=>Hm N0 qbj gw) _ _ 216 qh hz.1;have gy:Below B w w2:=((ak.mono hB).alloc qj _).grown ae qj (λk hk=>(ah.lt k hk).1);obtain⟨g',oh,hv'⟩:∃g cap,v'=J (p_ g) (stack.length+1) cap:=(by rcases aw.2 with⟨_,h0⟩|⟨g,cap,cur,hv,_⟩;omega;exact⟨g,cap,hv⟩);rw[hv']at aw ⊢;have k0:=cH sy 0;have k1:=cH sy 1;have k2:=cH sy 2;have k3:=cH sy 3;have k4:=cH sy 4;have k5:=cH sy 5;have k6:=cH sy 6;have k7:=cH sy 7;have k8:=cH sy 8;have k9:=cH sy 9;simp only[gA,gB,gC]at k0 k1 k2 k3 k4 k5 k6 k7 k8 k9;have m0:=cH mh 0;have m1:=cH mh 1;have m2:=cH mh 2;have m3:=cH mh 3;have m4:=cH mh 4;have m5:=cH mh 5;have m6:=cH mh 6;have m7:=cH mh 7;have m8:=cH mh 8;have m9:=cH mh 9;simp only[gA,gB,gC]at m0 m1 m2 m3 m4 m5 m6 m7 m8 m9;have f0:∀j,w2.frozen? ⟨w.heap.size+1+1,j,N⟩=false:=(λj=>fH sy j);have f1:∀j,w2.frozen? ⟨w.heap.size+1,j,N⟩=false:=(λj=>fH mh j);have j9:Hd (w2.heap[w.heap.size+1]?=M (O #[I pl,J sa stack.length cp,I st,I ((lk:Int)+1),F false,I 0,ze,F false,ze,F false] 216 (0,0))):=mh;have I7:Hd (w2.heap[w.heap.size+1+1]?=M (O #[I 0,nS,I 0,I 0,F false,I 0,ze,F false,ze,F false] 216 (0,0))):=sy;have Of:Hd (w2.ownsRow B 9 1 (J (p_ g') (stack.length+1) oh) (stack.length+1) (Ar stack++[S y.text])):=aw;clear mh sy aw ae a1 a2 a3))
 refine bR (v:=Eb pl (J (p_ g') (stack.length+1) oh) st ((lk:Int)+1)) (by simp[results,results158,go_sem,Eb,k0,k1,k2,k3,k4,k5,k6,k7,k8,k9]) rfl ⟨Sw ((gy.setCell (p:=⟨w.heap.size+1,1,N⟩) hR1 _)) ve,_,_,rfl,?_⟩
 have h1:=Hb ⟨Of.o,_,j9.o⟩ 1 (J (p_ g') (stack.length+1) oh)
 have h2:∃cs,(w2.setCell ⟨w.heap.size+1,1,N⟩ (J (p_ g') (stack.length+1) oh)).heap[w.heap.size+1+1]?=M (O cs 216 (0,0)):=⟨_,by rw[Dm w2 ⟨w.heap.size+1,1,N⟩ _ _ qi];exact I7.o⟩
 have e:Ar (stack++[y.text])=Ar stack++[S y.text]:=qal
 exact qjz
end
section
open Go.Deep
theorem Sn{w w2:E}{o:Obj}{ob:Option X}(ae:(w.alloc o).drew.grownBy w2 ob)(HO:∀(b:X)(cs:Array Z)(T:X),T≠9->w.heap[b]?=M (O cs T (0,0))->M b≠ob):∀(b:X)(cs:Array Z)(T:X),T≠9->w.heap[b]?=M (O cs T (0,0))->w2.heap[b]?=M (O cs T (0,0)):=by
 intro b cs T hT hb
 have hl:=Ag hb
 rw[ae.block b qj (HO b cs T hT hb)]
 exact(Lib.alloc_old w o b hl).trans hb
theorem step_flag{x:Operand}{W:E}{ops:Array Oper}{o:Oper}{a:Act}{K:Act->E->Prop}{Q:Exit->Act->E->Prop}{AF:Prop}(uj:o.guard=N)(ho:o.op=.call { callee:=.value (.func 113),args:=#[x],argTypes:=#[4] })(b:Bool)(f:By)(hf:Cz b=f)(hx:a.eval x=F b)(h:K (a.put o.dst (S f)) W):if Region.wanted o (yielded ops a.tmps)=true then Oper.wp prog o a W K Q else AF:=by
 have hw:Region.wanted o (yielded ops a.tmps)=true:=qbm
 have kw:(execOp a.eval o).run prog W=.ok (.enter 113 #[F b]) W:=by
  unfold execOp;rw[ho];simp[go_sem]
  cases x with
  | tmp t=>simpa [Act.eval] using hx
  | const v=>simpa [Act.eval] using hx
  | «global» g=>simp[Act.eval]at hx
  | func f=>simp[Act.eval]at hx
 rw[if_pos hw]
 unfold Oper.wp
 rw[kw,Oper.upon_enter]
 refine(Lx b W).mono ?_
 rintro e w' ⟨rfl,rfl⟩
 rw[hf]
 exact h
theorem step_appS{s x:Operand}{W:E}{ops:Array Oper}{o:Oper}{a:Act}{K:Act->E->Prop}{Q:Exit->Act->E->Prop}{AF:Prop}(uj:o.guard=N)(ho:o.op=.call { callee:=.builtin .append,args:=#[s,x],argTypes:=#[22,22] })(B:X)(sa:Option Addr)(nn cap:X)(xs:L Z)(hs:a.eval s=J sa nn cap)(ah:W.ownsRow B 9 1 (J sa nn cap) nn xs)(d:X)(tx:By)(hx:a.eval x=J (p_ d) 1 1)(hc:W.cell? ⟨d,0,N⟩=M (S tx))(hB:B<=W.heap.size)(hn:nn<=50)(h:∀g' aj w',w'.ownsRow B 9 1 (J (p_ g') (nn+1) aj) (nn+1) (xs++[S tx])->W.grownBy w' (Value.slice sa nn cap).ownBlock->K (a.put o.dst (J (p_ g') (nn+1) aj)) w'):if Region.wanted o (yielded ops a.tmps)=true then Oper.wp prog o a W K Q else AF:=by
 obtain⟨i0,hi,bq,bi,ci⟩:=info_parts Tryz.info9b
 refine step_append_lies (w:=W) uj s x 22 ho B 9 i0 ze 1 16 underlying22 hi bq bi ci rfl qh _ nn xs hs ah ⟨d,0,N⟩ 1 1 [S tx] hx rfl
  (λj u hu=>by
   have hj:j=0:=by rcases j with _|j;rfl;simp at hu
   subst hj;rw[Addr.add_lit,Nat.zero_add];simp at hu;subst hu;exact hc) qak qg qq qg hB W.heap.size rfl ?_
 exact qdx
variable (B:X) (o:X) (t:By) (n:X) (pl:X) (sa:Option Addr) (cp:X) (stack:L By) (st lk:X) (nm place:By) (ra:Option Addr) (rcap:X) (ys:L R3) (w:E)
theorem look_flag(hB:B<=w.heap.size)(cz:nm.size<=2000)(d7:pl<=201)(cr:st<=2000)(nr:lk<=200)(hn:Ao nm)(hl:lk≠200)(hy:lk<ys.length)(P5:ys.length<=200)(hr:Ry w ra ys)(ah:Sa B w sa cp stack)(xk:stack.length<50):Calls prog 158 #[G #[I 13,S t,I n],Eb pl (J sa stack.length cp) st lk,S nm,S place,J ra ys.length rcap] w λe w'=>Below B w w'/\∃a' px,e=H (Eb pl (J a' (stack.length+1) px) st ((lk:Int)+1))/\Sa B w' a' px (stack++[Cz (rx ys lk).has]):=by
 have ll:=Dc hn
 have d1:((lk:Int) == 200)=false:=qj
 have hyI:(lk:Int)<(ys.length:Int):=qg
 obtain⟨b,off,rfl,e1,e2,e3⟩:=hr lk hy
 generalize rx ys lk=y at *
 clear hr hn hl
 have ju:∀(x y z:Obj)(p:Addr)(v:Z),w.cell? p=M v->(((w.alloc x).alloc y).alloc z).cell? p=M v:=λx y z p v h=>by
  exact qdi
 have a1:=λx y z=>ju x y z _ _ e1
 have a2:=λx y z=>ju x y z _ _ e2
 have a3:=λx y z=>ju x y z _ _ e3
 clear ju
 have ak:Bw w ((((w.alloc (O #[I 13,S t,I n] 174)).alloc (O #[I pl,J sa stack.length cp,I st,I ((lk:Int)+1),F false,I 0,ze,F false,ze,F false] 216)).alloc (O #[I 0,nS,I 0,I 0,F false,I 0,ze,F false,ze,F false] 216)).alloc (O #[F y.has,I y.code,S y.text] 191)):=(((aN _ _).alloc qi _).alloc qj _).alloc qj _
 have ve:B<=w.heap.size+1+1:=qg
 have hR1:B<=w.heap.size+1:=qg
 have hz:=blk4 w (O #[I 13,S t,I n] 174) (O #[I pl,J sa stack.length cp,I st,I ((lk:Int)+1),F false,I 0,ze,F false,ze,F false] 216) (O #[I 0,nS,I 0,I 0,F false,I 0,ze,F false,ze,F false] 216) (O #[F y.has,I y.code,S y.text] 191)
 obtain⟨f,ef⟩:=Aj (Cz y.has)
 have EF:=Ab ef
 clear ef
 have gw:=((((ah.alloc (O #[I 13,S t,I n] 174)).alloc (O #[I pl,J sa stack.length cp,I st,I ((lk:Int)+1),F false,I 0,ze,F false,ze,F false] 216)).alloc (O #[I 0,nS,I 0,I 0,F false,I 0,ze,F false,ze,F false] 216)).alloc (O #[F y.has,I y.code,S y.text] 191)).alloc (O #[S f] 9)
 unfold Sa at ah
 unfold Eb
 go_enter func158,ntmps158
 go_wp2_with (first|(go_at_call 76;refine(Cf nm _ qg).mono ?_;rintro e w9 ⟨rfl,rfl⟩))
 go_region_law (first|(refine step_flag rfl rfl y.has f EF.o ?_ ?_;(focus(simp[Act.eval];done)))|(refine step_appS rfl rfl B sa stack.length cp (Ar stack) ?_ ?_ (w.heap.size+1+1+1+1) f ?_ ?_ ?_ ?_ ?_;(focus(simp[Act.eval];done));(focus(exact gw));(focus(simp[Act.eval];done));(focus(simp[go_sem];done));(focus(simp;omega));(focus omega);intro g' oh w2 aw ae;have mh:w2.heap[w.heap.size+1]?=M (O #[I pl,J sa stack.length cp,I st,I ((lk:Int)+1),F false,I 0,ze,F false,ze,F false] 216 (0,0)):=(by first|exact Fu ae (λb' cs' T' N0 Io=>Hm N0 qbj gw) _ _ 216 qh hz.2|exact Sn ae (λb' cs' T' N0 Io=>Hm N0 qbj gw) _ _ 216 qh hz.2);have sy:w2.heap[w.heap.size+1+1]?=M (O #[I 0,nS,I 0,I 0,F false,I 0,ze,F false,ze,F false] 216 (0,0)):=(by first|exact Fu ae (λb' cs' T' N0 Io=>Hm N0 qbj gw) _ _ 216 qh hz.1|exact Sn ae (λb' cs' T' N0 Io=>Hm N0 qbj gw) _ _ 216 qh hz.1);have gy:Below B w w2:=(by first|exact((ak.mono hB).drew.alloc qj _).grown ae qj (λk hk=>(ah.lt k hk).1)|exact((ak.mono hB).alloc qj _).drew.grown ae qj (λk hk=>(ah.lt k hk).1));have k0:=cH sy 0;have k1:=cH sy 1;have k2:=cH sy 2;have k3:=cH sy 3;have k4:=cH sy 4;have k5:=cH sy 5;have k6:=cH sy 6;have k7:=cH sy 7;have k8:=cH sy 8;have k9:=cH sy 9;simp only[gA,gB,gC]at k0 k1 k2 k3 k4 k5 k6 k7 k8 k9;have m0:=cH mh 0;have m1:=cH mh 1;have m2:=cH mh 2;have m3:=cH mh 3;have m4:=cH mh 4;have m5:=cH mh 5;have m6:=cH mh 6;have m7:=cH mh 7;have m8:=cH mh 8;have m9:=cH mh 9;simp only[gA,gB,gC]at m0 m1 m2 m3 m4 m5 m6 m7 m8 m9;have f0:∀j,w2.frozen? ⟨w.heap.size+1+1,j,N⟩=false:=(λj=>fH sy j);have f1:∀j,w2.frozen? ⟨w.heap.size+1,j,N⟩=false:=(λj=>fH mh j);have j9:Hd (w2.heap[w.heap.size+1]?=M (O #[I pl,J sa stack.length cp,I st,I ((lk:Int)+1),F false,I 0,ze,F false,ze,F false] 216 (0,0))):=mh;have I7:Hd (w2.heap[w.heap.size+1+1]?=M (O #[I 0,nS,I 0,I 0,F false,I 0,ze,F false,ze,F false] 216 (0,0))):=sy;have Of:Hd (w2.ownsRow B 9 1 (J (p_ g') (stack.length+1) oh) (stack.length+1) (Ar stack++[S f])):=aw;clear aw ae a1 a2 a3))
 all_goals
  go_wp2_with fail;refine bR (v:=Eb pl (J (p_ g') (stack.length+1) oh) st ((lk:Int)+1)) (by simp[results,results158,go_sem,Eb,k0,k1,k2,k3,k4,k5,k6,k7,k8,k9]) rfl ⟨Sw ((gy.setCell (p:=⟨w.heap.size+1,1,N⟩) hR1 _)) ve,_,_,rfl,?_⟩;have h1:=Hb ⟨Of.o,_,j9.o⟩ 1 (J (p_ g') (stack.length+1) oh);have h2:∃cs,(w2.setCell ⟨w.heap.size+1,1,N⟩ (J (p_ g') (stack.length+1) oh)).heap[w.heap.size+1+1]?=M (O cs 216 (0,0)):=⟨_,by rw[Dm w2 ⟨w.heap.size+1,1,N⟩ _ _ qi];exact I7.o⟩;have e:Ar (stack++[Cz y.has])=Ar stack++[S f]:=by rw[EF.o];simp[Ar]
  exact qjz
end
def Ch(B:X)(is:L I3)(ys:L R3)(s:St)(w':E)(e:Ending):Prop:=
 (∃c t n,Cq is s=.over c t n/\∃(pl:Int)(va:Option Addr)(vn vc:X)(lk:Int),e=H (Eg pl (J va vn vc) n lk c t))∨
 (∃s',Cq is s=.go s'/\∃a' px,e=H (Eb s'.pl (J a' s'.stack.length px) s'.steps s'.looks)/\Sa B w' a' px s'.stack)∨
 (∃ask nm s',Cq is s=.look ask nm s'/\ys.length<=s.looks/\∃(pl:Int)(va:Option Addr)(vn vc:X)(lk:Int),e=H (waitV pl (J va vn vc) s'.steps lk ask nm))∨
 (∃ask nm s' s'',Cq is s=.look ask nm s'/\s.looks<ys.length/\Fe ask nm (rx ys s.looks) s'=.go s''/\∃a' px,e=H (Eb s''.pl (J a' s''.stack.length px) s''.steps s''.looks)/\Sa B w' a' px s''.stack)∨
 (∃ask nm s' c t n,Cq is s=.look ask nm s'/\s.looks<ys.length/\Fe ask nm (rx ys s.looks) s'=.over c t n/\∃(pl:Int)(va:Option Addr)(vn vc:X)(lk:Int),e=H (Eg pl (J va vn vc) n lk c t))
theorem step_beyond(a:Option Addr)(cap:X)(is:L I3)(s:St)(sa:Option Addr)(cp:X)(ra:Option Addr)(rcap:X)(ys:L R3)(w:E)(hv:Av is=true)(hs:Ek is s)(d7:¬ s.pl<is.length):Calls prog 134 #[G #[J a is.length cap],Eb s.pl (J sa s.stack.length cp) s.steps s.looks,J ra ys.length rcap] w λe w'=>Bw w w'/\Ch w.heap.size is ys s w' e:=by
 have di:=Ab (Lk d7)
 have hplI:(is.length:Int)<=(s.pl:Int):=qg
 have E0:=hs.pl
 obtain⟨ak,hz,hr,hc⟩:=op3 w a is.length cap s.pl (J sa s.stack.length cp) s.steps s.looks
 have ve:w.heap.size<=w.heap.size+1+1:=qg
 obtain⟨q,eq⟩:=Aj (Fw s.pl)
 have EQ:=Ab eq
 have HD:Hd _:=dcH eq qg
 clear eq
 unfold Eb
 go_enter func134,ntmps134
 go_wp2_with fail
 refine(HD.o _).mono ?_
 rintro e w1 ⟨rfl,ag⟩
 have bm:=bN ak ag
 have bi:=Pt ag hz
 have nj:=Pt ag hr
 have V5:=Pt ag hc
 have x0:=cK V5 0
 obtain⟨r0,r1,r2,r3,r4,r5,r6,r7,r8,r9⟩:=Et nj
 have fr:=fZ nj
 clear hz hr hc ak ag HD
 rw[EQ.o]at di
 go_wp2_with fail
 have hl:=Fi s.pl sa s.stack.length cp s.steps s.looks 2 q
 unfold Eb at hl
 refine(hl _).mono ?_
 rintro e w2 ⟨rfl,af⟩
 have bg:=bN bm af
 have ci:=Pt af bi
 obtain⟨z0,z1,z2,z3,z4,z5,z6,z7,z8,z9⟩:=Et ci
 have fz:=fZ ci
 clear ci af hl
 unfold Eg
 go_wp2_with fail
 exact bR (v:=Eg s.pl (J sa s.stack.length cp) s.steps s.looks 2 q) qbw rfl ⟨Sw (bg) ve,Or.inl ⟨2,q,s.steps,di.o,_,_,_,_,_,rfl⟩⟩
theorem step_spent(a:Option Addr)(cap:X)(is:L I3)(s:St)(sa:Option Addr)(cp:X)(ra:Option Addr)(rcap:X)(ys:L R3)(w:E)(hv:Av is=true)(hs:Ek is s)(d7:s.pl<is.length)(fx:s.steps=2000):Calls prog 134 #[G #[J a is.length cap],Eb s.pl (J sa s.stack.length cp) s.steps s.looks,J ra ys.length rcap] w λe w'=>Bw w w'/\Ch w.heap.size is ys s w' e:=by
 have di:=Ab (Jz d7 fx)
 have hst3:((s.steps:Int) == 2000)=true:=qj
 clear fx
 have E0:=hs.pl
 obtain⟨ak,hz,hr,hc⟩:=op3 w a is.length cap s.pl (J sa s.stack.length cp) s.steps s.looks
 have ve:w.heap.size<=w.heap.size+1+1:=qg
 obtain⟨q,eq⟩:=Aj (Fw s.pl)
 have HD:Hd _:=dcH eq qg
 clear eq
 unfold Eb
 go_enter func134,ntmps134
 go_wp2_with fail
 refine(HD.o _).mono ?_
 rintro e w1 ⟨rfl,ag⟩
 have bm:=bN ak ag
 have bi:=Pt ag hz
 have nj:=Pt ag hr
 have V5:=Pt ag hc
 have x0:=cK V5 0
 obtain⟨r0,r1,r2,r3,r4,r5,r6,r7,r8,r9⟩:=Et nj
 clear hz hr hc ak ag HD
 go_wp2_with fail
 have hl:=Fi s.pl sa s.stack.length cp s.steps s.looks 3 ⟨#[]⟩
 unfold Eb at hl
 refine(hl _).mono ?_
 rintro e w2 ⟨rfl,af⟩
 have bg:=bN bm af
 have ci:=Pt af bi
 obtain⟨z0,z1,z2,z3,z4,z5,z6,z7,z8,z9⟩:=Et ci
 have fz:=fZ ci
 clear ci af hl
 unfold Eg
 go_wp2_with fail
 exact bR (v:=Eg s.pl (J sa s.stack.length cp) s.steps s.looks 3 ⟨#[]⟩) qbw rfl ⟨Sw (bg) ve,Or.inl ⟨3,⟨#[]⟩,s.steps,di.o,_,_,_,_,_,rfl⟩⟩
def Mp(o:X):X:=(putsOf.getD o 0).toNat
theorem puts_eq(o:X)(h:o<=15):putsOf.getD o 0=((Mp o:X):Int):=by
 exact qfg
theorem tkH{o:X}(i8:1<=o)(ky:o<=15):∀W:E,Calls prog 157 #[I o] W λe w'=>e=H (.tuple #[I (Aw o:X),I (Mp o:X)])/\W=w':=λW=>by rw[<- takes_eq o ky,<- puts_eq o ky];exact l2Takes_in o W i8 ky
theorem tp_le(o:X)(h:o<=15):Aw o<=2/\Mp o<=2:=by
 rcases(show o=0\/o=1\/o=2\/o=3\/o=4\/o=5\/o=6\/o=7\/o=8\/o=9\/o=10\/o=11\/o=12\/o=13\/o=14\/o=15 from qg)with rfl|rfl|rfl|rfl|rfl|rfl|rfl|rfl|rfl|rfl|rfl|rfl|rfl|rfl|rfl|rfl<;>decide
theorem puts_len(o:X)(h1:1<=o)(h:o<=11)(t:By)(n:X)(a b:By):(Dd o t n a b).length=Mp o:=by
 exact qfk
theorem Uq{o:X}{l:L By}(h1:1<=o)(h:o<=15)(hl:l.length<=50)(hf:¬ l.length<Aw o)(hm:50<l.length-Aw o+Mp o):o<=11:=by
 rcases(show o<=11\/o=12\/o=13\/o=14\/o=15 from qg)with h|rfl|rfl|rfl|rfl
 ·exact h
 ·have e1:Aw 12=1:=rfl;have e2:Mp 12=1:=rfl;omega
 ·have e1:Aw 13=1:=rfl;have e2:Mp 13=1:=rfl;omega
 ·have e1:Aw 14=1:=rfl;have e2:Mp 14=0:=rfl;omega
 ·have e1:Aw 15=1:=rfl;have e2:Mp 15=0:=rfl;omega
section
def r10(x0:Int)(a:Option Addr)(n c:X)(x2 x3:Int)(x4:Bool)(x5:Int)(x6:By)(x7:Bool)(x8:By)(x9:Bool):Z:=G #[I x0,J a n c,I x2,I x3,F x4,I x5,S x6,F x7,S x8,F x9]
theorem top_le{is:L I3}{s:St}(hs:Ek is s)(h:1<=s.stack.length):(Cc s.stack).size<=2000:=by
 apply hs.size
 unfold Cc
 rw[gG,Hq (show s.stack.length-1<s.stack.length from qg)]
 exact List.getElem_mem _
theorem sub_le{is:L I3}{s:St}(hs:Ek is s)(h:2<=s.stack.length):(Jp s.stack).size<=2000:=by
 apply hs.size
 unfold Jp
 rw[gG,Hq (show s.stack.length-2<s.stack.length from qg)]
 exact List.getElem_mem _
theorem Ch.set{B:X}{is:L I3}{ys:L R3}{s:St}{w:E}{e:Ending}{b:X}(h:Ch B is ys s w e/\∃cs,w.heap[b]?=M (O cs 216 (0,0)))(j:X)(x:Z):Ch B is ys s (w.setCell ⟨b,j,N⟩ x) e/\∃cs,(w.setCell ⟨b,j,N⟩ x).heap[b]?=M (O cs 216 (0,0)):=by
 obtain⟨h,hc⟩:=h
 refine⟨?_,by obtain⟨cs,hb⟩:=hc;exact⟨_,jB hb x⟩⟩
 rcases h with h|⟨s',h1,a',px,h2,h3⟩|h|⟨ask,nm,s',s'',h1,h2,h3,a',px,h4,h5⟩|h
 ·exact Or.inl h
 ·exact Or.inr (Or.inl ⟨s',h1,a',px,h2,(Hb ⟨h3,hc⟩ j x).1⟩)
 ·exact Or.inr (Or.inr (Or.inl h))
 ·exact Or.inr (Or.inr (Or.inr (Or.inl ⟨ask,nm,s',s'',h1,h2,h3,a',px,h4,(Hb ⟨h5,hc⟩ j x).1⟩)))
 ·exact Or.inr (Or.inr (Or.inr (Or.inr h)))
variable (B:X) (t:By) (n:X) (is:L I3) (s:St) (sa:Option Addr) (cp:X) (rest:L By) (nm q:By) (ra:Option Addr) (rcap:X) (ys:L R3) (w:E)
def LookPost(B:X)(is:L I3)(ys:L R3)(s:St)(w w':E)(e:Ending):Prop:=
 Below B w w'/\∃x0 a n c x2 x3 x4 x5 x6 x7 x8 x9,e=H (r10 x0 a n c x2 x3 x4 x5 x6 x7 x8 x9)/\Ch B is ys s w' e
theorem look_step12(hB:B<=w.heap.size)(hs:Ek is s)(d7:s.pl<is.length)(hl200:is.length<=200)(fx:s.steps≠2000)(ei:ix is s.pl=⟨12,t,n⟩)(hfew:1<=s.stack.length)(erest:rest=Bq s.stack 1)(enm:nm=Cc s.stack)(eq:q=Fw s.pl)(P5:ys.length<=200)(hr:Ry w ra ys)(ah:Sa B w sa cp rest)(E5:rest.length<50):Calls prog 158 #[G #[I 12,S t,I n],Eb ((s.pl:Int)+1) (J sa rest.length cp) ((s.steps:Int)+1) s.looks,S nm,S q,J ra ys.length rcap] w λe w'=>LookPost B is ys s w w' e:=by
 subst erest;subst enm;subst eq
 have e1:((s.pl+1:X):Int)=(s.pl:Int)+1:=rfl
 have e2:((s.steps+1:X):Int)=(s.steps:Int)+1:=rfl
 have cr:=hs.steps
 have nr:=hs.looks
 have hp:=hs.pl
 have fk:¬ s.stack.length<Aw 12:=by rw[show Aw 12=1 from rfl];omega
 have vj:=top_le hs hfew
 have L4:=Ia d7 fx (o:=12) ei
 rw[<- e1,<- e2]
 by_cases hn:Ao (Cc s.stack)
 ·by_cases hl:s.looks=200
  ·refine(look_sp B 12 t n (s.pl+1) sa cp (Bq s.stack 1) (s.steps+1) s.looks (Cc s.stack) (Fw s.pl) ra rcap ys w hB vj qg qg nr hn hl).mono ?_;rintro e w' ⟨hb,rfl⟩;exact⟨hb,_,_,_,_,_,_,_,_,_,_,_,_,rfl,Or.inl ⟨3,_,s.steps+1,L4.trans (Ic fk (Or.inl rfl) hn hl),_,_,_,_,_,rfl⟩⟩
  ·have L2:=L4.trans (Kf fk (Or.inl rfl) hn hl)
   by_cases hy:ys.length<=s.looks
   ·refine(look_wt B 12 t n (s.pl+1) sa cp (Bq s.stack 1) (s.steps+1) s.looks (Cc s.stack) (Fw s.pl) ra rcap ys w hB vj qg qg nr hn hl hy).mono ?_;rintro e w' ⟨hb,rfl⟩;exact⟨hb,_,_,_,_,_,_,_,_,_,_,_,_,rfl,Or.inr (Or.inr (Or.inl ⟨true,_,_,L2,hy,_,_,_,_,_,rfl⟩))⟩
   ·have hy2:s.looks<ys.length:=qg
    cases hh:(rx ys s.looks).has with
    | false=>
     refine(look_miss B t n (s.pl+1) sa cp (Bq s.stack 1) (s.steps+1) s.looks (Cc s.stack) (Fw s.pl) ra rcap ys w hB vj qg qg nr hn hl hy2 P5 hr hh).mono ?_;rintro e w' ⟨hb,rfl⟩;exact⟨hb,_,_,_,_,_,_,_,_,_,_,_,_,rfl,Or.inr (Or.inr (Or.inr (Or.inr ⟨true,_,_,4,_,s.steps+1,L2,hy2,by simp[Fe,hh],_,_,_,_,_,rfl⟩)))⟩
    | true=>
     by_cases hcd:(rx ys s.looks).code=0
     ·refine(look_text B t n (s.pl+1) sa cp (Bq s.stack 1) (s.steps+1) s.looks (Cc s.stack) (Fw s.pl) ra rcap ys w hB vj qg qg nr hn hl hy2 P5 hr hh hcd ah E5).mono ?_;rintro e w' ⟨hb,a',px,rfl,ho⟩;exact⟨hb,_,_,_,_,_,_,_,_,_,_,_,_,rfl,Or.inr (Or.inr (Or.inr (Or.inl ⟨true,_,_,⟨s.pl+1,Bq s.stack 1++[(rx ys s.looks).text],s.steps+1,s.looks+1⟩,L2,hy2,by simp[Fe,hh,hcd],a',px,by simp[List.length_append],ho⟩)))⟩
     ·refine(look_below B t n (s.pl+1) sa cp (Bq s.stack 1) (s.steps+1) s.looks (Cc s.stack) (Fw s.pl) ra rcap ys w hB vj qg qg nr hn hl hy2 P5 hr hh hcd).mono ?_;rintro e w' ⟨hb,rfl⟩;exact⟨hb,_,_,_,_,_,_,_,_,_,_,_,_,rfl,Or.inr (Or.inr (Or.inr (Or.inr ⟨true,_,_,5,_,s.steps+1,L2,hy2,by simp[Fe,hh,hcd],_,_,_,_,_,rfl⟩)))⟩
 ·refine(look_no B 12 t n (s.pl+1) sa cp (Bq s.stack 1) (s.steps+1) s.looks (Cc s.stack) (Fw s.pl) ra rcap ys w hB vj qg qg nr hn).mono ?_;rintro e w' ⟨hb,rfl⟩;exact⟨hb,_,_,_,_,_,_,_,_,_,_,_,_,rfl,Or.inl ⟨2,_,s.steps+1,L4.trans (Ly fk (Or.inl rfl) hn),_,_,_,_,_,rfl⟩⟩
theorem look_step13(hB:B<=w.heap.size)(hs:Ek is s)(d7:s.pl<is.length)(hl200:is.length<=200)(fx:s.steps≠2000)(ei:ix is s.pl=⟨13,t,n⟩)(hfew:1<=s.stack.length)(erest:rest=Bq s.stack 1)(enm:nm=Cc s.stack)(eq:q=Fw s.pl)(P5:ys.length<=200)(hr:Ry w ra ys)(ah:Sa B w sa cp rest)(E5:rest.length<50):Calls prog 158 #[G #[I 13,S t,I n],Eb ((s.pl:Int)+1) (J sa rest.length cp) ((s.steps:Int)+1) s.looks,S nm,S q,J ra ys.length rcap] w λe w'=>LookPost B is ys s w w' e:=by
 subst erest;subst enm;subst eq
 have e1:((s.pl+1:X):Int)=(s.pl:Int)+1:=rfl
 have e2:((s.steps+1:X):Int)=(s.steps:Int)+1:=rfl
 have cr:=hs.steps
 have nr:=hs.looks
 have hp:=hs.pl
 have fk:¬ s.stack.length<Aw 13:=by rw[show Aw 13=1 from rfl];omega
 have vj:=top_le hs hfew
 have L4:=Ia d7 fx (o:=13) ei
 rw[<- e1,<- e2]
 by_cases hn:Ao (Cc s.stack)
 ·by_cases hl:s.looks=200
  ·refine(look_sp B 13 t n (s.pl+1) sa cp (Bq s.stack 1) (s.steps+1) s.looks (Cc s.stack) (Fw s.pl) ra rcap ys w hB vj qg qg nr hn hl).mono ?_;rintro e w' ⟨hb,rfl⟩;exact⟨hb,_,_,_,_,_,_,_,_,_,_,_,_,rfl,Or.inl ⟨3,_,s.steps+1,L4.trans (Ic fk (Or.inr rfl) hn hl),_,_,_,_,_,rfl⟩⟩
  ·have L2:=L4.trans (Kf fk (Or.inr rfl) hn hl)
   by_cases hy:ys.length<=s.looks
   ·refine(look_wt B 13 t n (s.pl+1) sa cp (Bq s.stack 1) (s.steps+1) s.looks (Cc s.stack) (Fw s.pl) ra rcap ys w hB vj qg qg nr hn hl hy).mono ?_;rintro e w' ⟨hb,rfl⟩;exact⟨hb,_,_,_,_,_,_,_,_,_,_,_,_,rfl,Or.inr (Or.inr (Or.inl ⟨false,_,_,L2,hy,_,_,_,_,_,rfl⟩))⟩
   ·have hy2:s.looks<ys.length:=qg;refine(look_flag B t n (s.pl+1) sa cp (Bq s.stack 1) (s.steps+1) s.looks (Cc s.stack) (Fw s.pl) ra rcap ys w hB vj qg qg nr hn hl hy2 P5 hr ah E5).mono ?_;rintro e w' ⟨hb,a',px,rfl,ho⟩;exact⟨hb,_,_,_,_,_,_,_,_,_,_,_,_,rfl,Or.inr (Or.inr (Or.inr (Or.inl ⟨false,_,_,⟨s.pl+1,Bq s.stack 1++[Cz (rx ys s.looks).has],s.steps+1,s.looks+1⟩,L2,hy2,by simp[Fe],a',px,by simp[List.length_append],ho⟩)))⟩
 ·refine(look_no B 13 t n (s.pl+1) sa cp (Bq s.stack 1) (s.steps+1) s.looks (Cc s.stack) (Fw s.pl) ra rcap ys w hB vj qg qg nr hn).mono ?_;rintro e w' ⟨hb,rfl⟩;exact⟨hb,_,_,_,_,_,_,_,_,_,_,_,_,rfl,Or.inl ⟨2,_,s.steps+1,L4.trans (Ly fk (Or.inr rfl) hn),_,_,_,_,_,rfl⟩⟩
end
theorem own_out{xs:L Z}{g0:Addr}{n0 c0:X}(h:w.ownsRow B 9 1 v' (n+m) (xs++ss.map .string))(hn:v'=nS↔(Value.slice (M g0) n0 c0)=nS/\m=0)(e0:n=0:=by rfl)(e1:xs=[]:=by rfl):∃g cp,v'=J (p_ g) m cp/\w.ownsRow B 9 1 (J (p_ g) m cp) m (Ar ss):=by
 subst e0;subst e1
 rw[Nat.zero_add,List.nil_append]at h
 rcases h.2 with⟨hv,_⟩|⟨g,cap,cur,hv,r⟩
 ·have:=(hn.mp hv).1;cases this
 ·subst hv;exact⟨g,cap,rfl,h⟩
theorem own_add{x:By}(h:w.ownsRow B 9 1 v' (m+1) (Ar ss++[S x])):∃g cp,v'=J (p_ g) (m+1) cp/\w.ownsRow B 9 1 (J (p_ g) (m+1) cp) (m+1) (Ar (ss++[x])):=by
 rcases h.2 with⟨hv,h0⟩|⟨g,cap,cur,hv,r⟩
 ·omega
 ·subst hv;refine⟨g,cap,rfl,?_⟩;rw[show Ar (ss++[x])=Ar ss++[S x] from qal];exact h
theorem Sa.mono{a:Option Addr}{cp:X}(h:Sa B w a cp ss)(hB:B'<=B):Sa B' w a cp ss:=by
 exact qlb
theorem Ch.mono(h:Ch B is ys s w e)(hB:B'<=B):Ch B' is ys s w e:=by
 rcases h with h|⟨s',h1,a',px,h2,h3⟩|h|⟨ask,nm,s',s'',h1,h2,h3,a',px,h4,h5⟩|h
 ·exact Or.inl h
 ·exact Or.inr (Or.inl ⟨s',h1,a',px,h2,h3.mono hB⟩)
 ·exact Or.inr (Or.inr (Or.inl h))
 ·exact Or.inr (Or.inr (Or.inr (Or.inl ⟨ask,nm,s',s'',h1,h2,h3,a',px,h4,h5.mono hB⟩)))
 ·exact Or.inr (Or.inr (Or.inr (Or.inr h)))
theorem Vf{b:X}(h:Ch B is ys s w e)(hc:∃cs,w.heap[b]?=M (O cs 216 (0,0)))(v0 v1 v2 v3 v4 v5 v6 v7 v8 v9:Z):Ch B is ys s ((((((((((w.setCell ⟨b,0,N⟩ v0).setCell ⟨b,1,N⟩ v1).setCell ⟨b,2,N⟩ v2).setCell ⟨b,3,N⟩ v3).setCell ⟨b,4,N⟩ v4).setCell ⟨b,5,N⟩ v5).setCell ⟨b,6,N⟩ v6).setCell ⟨b,7,N⟩ v7).setCell ⟨b,8,N⟩ v8).setCell ⟨b,9,N⟩ v9) e:=
 (Ch.set (Ch.set (Ch.set (Ch.set (Ch.set (Ch.set (Ch.set (Ch.set (Ch.set (Ch.set ⟨h,hc⟩ 0 v0) 1 v1) 2 v2) 3 v3) 4 v4) 5 v5) 6 v6) 7 v7) 8 v8) 9 v9).1
theorem step_go{o:X}{t:By}(d7:s.pl<is.length)(fx:s.steps≠2000)(e:ix is s.pl=⟨o,t,n⟩)(ho:o<=11)(em:s.stack.length=m+Aw o){outs:L By}(eo:Dd o t n (Cc s.stack) (Jp s.stack)=outs)(hm:m+outs.length<=50)(hx:∀x∈outs,x.size<=2000)(en:Fs o n s.pl (Cc s.stack)=npl):Cq is s=.go ⟨npl,s.stack.take m++outs,s.steps+1,s.looks⟩:=by
 have er:Bq s.stack (Aw o)=s.stack.take m:=by unfold Bq;rw[em,Nat.add_sub_cancel]
 have h:=(Ia d7 fx e).trans (Rq qg ho (by
  unfold Um;rw[eo,er,List.length_take];rintro(h|⟨x,h1,h2⟩)
  ·omega
  ·have:=hx x h1;omega))
 rw[h,eo,er,en]
theorem go_post{w':E}{stk:L By}{a':Option Addr}{px k:X}{pI:Int}(h:Cq is s=.go ⟨npl,stk,s.steps+1,s.looks⟩)(hk:stk.length=k)(hp:pI=(npl:Int))(ho:w'.ownsRow B 9 1 (J a' k px) k (Ar stk)):Ch B is ys s w' (H (Eb pI (J a' k px) ((s.steps:Int)+1) s.looks)):=by
 subst hk
 subst hp
 exact Or.inr (Or.inl ⟨_,h,a',px,rfl,ho⟩)
end Go.Proofs.YtnflkpmmfpfhlaaGreatDoor
