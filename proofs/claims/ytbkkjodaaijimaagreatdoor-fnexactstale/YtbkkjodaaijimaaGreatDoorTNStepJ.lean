import Derived.Test.YtbkkjodaaijimaaGreatDoorTClB
namespace Go.Proofs.YtbkkjodaaijimaaGreatDoor
open _root_.Go.Proofs.Tryz Go.RowKit
open Value renaming slice->J,string->S,bool->F,agg->G
open Option renaming some->M,none->N
open Obj renaming cells->O
open Go renaming Value->Z,World->E
open Ending renaming returned->H
open _root_ renaming List->L,Nat->X
set_option linter.unusedVariables false
set_option maxHeartbeats 8000000
set_option maxRecDepth 100000
set_option linter.unusedSimpArgs false
variable {w:E} {B n m B' npl:X} {v':Z} {ss:L By} {is:L I3} {ys:L R3} {s:St} {e:Ending}
section
def Py(B:X)(w:E)(a:Option Addr)(cp:X)(ss:L By):Prop:=w.ownsRow B 9 1 (J a ss.length cp) ss.length (Aq ss)
variable (B:X) (o:X) (t:By) (n:X) (pl:X) (sa:Option Addr) (cp:X) (stack:L By) (st lk:X) (nm place:By) (ra:Option Addr) (rcap:X) (ys:L R3) (w:E)
theorem blk3(o1 o2 o3:Obj):(((w.alloc o1).alloc o2).alloc o3).heap[w.heap.size+1+1]?=M o3/\(((w.alloc o1).alloc o2).alloc o3).heap[w.heap.size+1]?=M o2/\(((w.alloc o1).alloc o2).alloc o3).heap[w.heap.size]?=M o1:=by
 refine⟨?_,?_,?_⟩
 ·have h:=Bf ((w.alloc o1).alloc o2) o3;rw[show((w.alloc o1).alloc o2).heap.size=w.heap.size+1+1 from qg]at h;exact h
 ·rw[Lib.alloc_old _ _ _ qg];have h:=Bf (w.alloc o1) o2;rw[show(w.alloc o1).heap.size=w.heap.size+1 from qg]at h;exact h
 ·rw[Lib.alloc_old _ _ _ qh,Lib.alloc_old _ _ _ qg];exact Bf w o1
theorem op3(w:E)(a:Option Addr)(n cap:X)(p:Int)(v:Z)(st lo:Int):Bw w (((w.alloc (O #[J a n cap] 91)).alloc (O #[I p,v,I st,I lo,F false,I 0,ze,F false,ze,F false] 221)).alloc (O #[I 0,nS,I 0,I 0,F false,I 0,ze,F false,ze,F false] 221))/\(((w.alloc (O #[J a n cap] 91)).alloc (O #[I p,v,I st,I lo,F false,I 0,ze,F false,ze,F false] 221)).alloc (O #[I 0,nS,I 0,I 0,F false,I 0,ze,F false,ze,F false] 221)).heap[w.heap.size+1+1]?=M (O #[I 0,nS,I 0,I 0,F false,I 0,ze,F false,ze,F false] 221)/\(((w.alloc (O #[J a n cap] 91)).alloc (O #[I p,v,I st,I lo,F false,I 0,ze,F false,ze,F false] 221)).alloc (O #[I 0,nS,I 0,I 0,F false,I 0,ze,F false,ze,F false] 221)).heap[w.heap.size+1]?=M (O #[I p,v,I st,I lo,F false,I 0,ze,F false,ze,F false] 221)/\(((w.alloc (O #[J a n cap] 91)).alloc (O #[I p,v,I st,I lo,F false,I 0,ze,F false,ze,F false] 221)).alloc (O #[I 0,nS,I 0,I 0,F false,I 0,ze,F false,ze,F false] 221)).heap[w.heap.size]?=M (O #[J a n cap] 91):=⟨((aN _ _).alloc qg _).alloc qh _,blk3 w _ _ _⟩
theorem dcH{p:X}{q:By}(eq:En p=q)(h:p<=1000000):∀W:E,Calls prog 136 #[I p] W λe w'=>e=H (S q)/\Bw W w':=λW=>by rw[<- eq];exact l2Dec_any p W h
theorem look_no(hB:B<=w.heap.size)(cm:nm.size<=2000)(dr:pl<=201)(de:st<=2000)(o6:lk<=200)(hn:¬ Ar nm):Calls prog 152 #[G #[I o,S t,I n],Ds pl (J sa stack.length cp) st lk,S nm,S place,J ra ys.length rcap] w λe w'=>Below B w w'/\e=H (Dz pl (J sa stack.length cp) st lk 2 place):=by
 have ig:=Cn hn
 have ak:Bw w (((w.alloc (O #[I o,S t,I n] 143)).alloc (O #[I pl,J sa stack.length cp,I st,I lk,F false,I 0,ze,F false,ze,F false] 221)).alloc (O #[I 0,nS,I 0,I 0,F false,I 0,ze,F false,ze,F false] 221)):=((aN _ _).alloc qg _).alloc qh _
 have ru:B<=w.heap.size+1+1:=qb
 have hz:=(blk3 w (O #[I o,S t,I n] 143) (O #[I pl,J sa stack.length cp,I st,I lk,F false,I 0,ze,F false,ze,F false] 221) (O #[I 0,nS,I 0,I 0,F false,I 0,ze,F false,ze,F false] 221)).1
 unfold Ds
 go_enter func152,ntmps152
 go_wp2_with (first|(go_at_call 41;refine(Ca nm _ qb).mono ?_;rintro e w9 ⟨rfl,rfl⟩))
 have hl:=Fb pl sa stack.length cp st lk 2 place
 unfold Ds at hl
 refine(hl _).mono ?_
 rintro e w1 ⟨rfl,af⟩
 have bh:Below B w w1:=(bN ak af).mono hB
 have bg:w1.heap[w.heap.size+1+1]?=M (O #[I 0,nS,I 0,I 0,F false,I 0,ze,F false,ze,F false] 221 (0,0)):=by rw[af.block _ qg];exact hz
 obtain⟨k0,k1,k2,k3,k4,k5,k6,k7,k8,k9⟩:=Fz bg
 have f0:=fZ bg
 clear hz bg ak af hl
 unfold Dz
 go_wp2_with fail
 exact bR (v:=Dz pl (J sa stack.length cp) st lk 2 place) qdm rfl ⟨b10 (bh) ru,rfl⟩
theorem look_sp(hB:B<=w.heap.size)(cm:nm.size<=2000)(dr:pl<=201)(de:st<=2000)(o6:lk<=200)(hn:Ar nm)(hl:lk=200):Calls prog 152 #[G #[I o,S t,I n],Ds pl (J sa stack.length cp) st lk,S nm,S place,J ra ys.length rcap] w λe w'=>Below B w w'/\e=H (Dz pl (J sa stack.length cp) st lk 3 ⟨#[]⟩):=by
 have ig:=Cs hn
 have d1:((lk:Int) == 200)=true:=qh
 clear hl
 have ak:Bw w (((w.alloc (O #[I o,S t,I n] 143)).alloc (O #[I pl,J sa stack.length cp,I st,I lk,F false,I 0,ze,F false,ze,F false] 221)).alloc (O #[I 0,nS,I 0,I 0,F false,I 0,ze,F false,ze,F false] 221)):=((aN _ _).alloc qg _).alloc qh _
 have ru:B<=w.heap.size+1+1:=qb
 have hz:=(blk3 w (O #[I o,S t,I n] 143) (O #[I pl,J sa stack.length cp,I st,I lk,F false,I 0,ze,F false,ze,F false] 221) (O #[I 0,nS,I 0,I 0,F false,I 0,ze,F false,ze,F false] 221)).1
 unfold Ds
 go_enter func152,ntmps152
 go_wp2_with (first|(go_at_call 41;refine(Ca nm _ qb).mono ?_;rintro e w9 ⟨rfl,rfl⟩))
 have hl:=Fb pl sa stack.length cp st lk 3 ⟨#[]⟩
 unfold Ds at hl
 refine(hl _).mono ?_
 rintro e w1 ⟨rfl,af⟩
 have bh:Below B w w1:=(bN ak af).mono hB
 have bg:w1.heap[w.heap.size+1+1]?=M (O #[I 0,nS,I 0,I 0,F false,I 0,ze,F false,ze,F false] 221 (0,0)):=by rw[af.block _ qg];exact hz
 obtain⟨k0,k1,k2,k3,k4,k5,k6,k7,k8,k9⟩:=Fz bg
 have f0:=fZ bg
 clear hz bg ak af hl
 unfold Dz
 go_wp2_with fail
 exact bR (v:=Dz pl (J sa stack.length cp) st lk 3 ⟨#[]⟩) qdm rfl ⟨b10 (bh) ru,rfl⟩
theorem look_wt(hB:B<=w.heap.size)(cm:nm.size<=2000)(dr:pl<=201)(de:st<=2000)(o6:lk<=200)(hn:Ar nm)(hl:lk≠200)(hy:ys.length<=lk):Calls prog 152 #[G #[I o,S t,I n],Ds pl (J sa stack.length cp) st lk,S nm,S place,J ra ys.length rcap] w λe w'=>Below B w w'/\e=H (waitV pl (J sa stack.length cp) st lk ((o:Int) == 12) nm):=by
 have ig:=Cs hn
 have d1:((lk:Int) == 200)=false:=qh
 have hyI:(ys.length:Int)<=(lk:Int):=qb
 unfold Ds
 go_enter func152,ntmps152
 go_wp2_with (first|(go_at_call 41;refine(Ca nm _ qb).mono ?_;rintro e w9 ⟨rfl,rfl⟩))
 exact bR (v:=waitV pl (J sa stack.length cp) st lk ((o:Int) == 12) nm) (by simp[results,results152,go_sem,waitV]) rfl ⟨(((aN _ _).alloc qg _).alloc qh _).mono hB,rfl⟩
theorem blk4(o1 o2 o3 o4:Obj):((((w.alloc o1).alloc o2).alloc o3).alloc o4).heap[w.heap.size+1+1]?=M o3/\((((w.alloc o1).alloc o2).alloc o3).alloc o4).heap[w.heap.size+1]?=M o2:=by
 obtain⟨h1,h2,h3⟩:=blk3 w o1 o2 o3
 exact⟨by rw[Lib.alloc_old _ _ _ qg];exact h1,by rw[Lib.alloc_old _ _ _ qg];exact h2⟩
theorem look_miss(hB:B<=w.heap.size)(cm:nm.size<=2000)(dr:pl<=201)(de:st<=2000)(o6:lk<=200)(hn:Ar nm)(hl:lk≠200)(hy:lk<ys.length)(I6:ys.length<=200)(hr:Pw w ra ys)(hh:(rx ys lk).has=false):Calls prog 152 #[G #[I 12,S t,I n],Ds pl (J sa stack.length cp) st lk,S nm,S place,J ra ys.length rcap] w λe w'=>Below B w w'/\e=H (Dz pl (J sa stack.length cp) st ((lk:Int)+1) 4 nm):=by
 have ig:=Cs hn
 have d1:((lk:Int) == 200)=false:=qh
 have hyI:(lk:Int)<(ys.length:Int):=qb
 obtain⟨b,off,rfl,e1,e2,e3⟩:=hr lk hy
 rw[hh]at e1
 generalize rx ys lk=y at *
 clear hr hn hl
 clear hh
 have ky:∀(x y z:Obj)(p:Addr)(v:Z),w.cell? p=M v->(((w.alloc x).alloc y).alloc z).cell? p=M v:=λx y z p v h=>by
  exact qda
 have a1:=λx y z=>ky x y z _ _ e1
 have a2:=λx y z=>ky x y z _ _ e2
 have a3:=λx y z=>ky x y z _ _ e3
 clear ky
 have ak:Bw w ((((w.alloc (O #[I 12,S t,I n] 143)).alloc (O #[I pl,J sa stack.length cp,I st,I ((lk:Int)+1),F false,I 0,ze,F false,ze,F false] 221)).alloc (O #[I 0,nS,I 0,I 0,F false,I 0,ze,F false,ze,F false] 221)).alloc (O #[F false,I y.code,S y.text] 196)):=(((aN _ _).alloc qg _).alloc qh _).alloc qh _
 have ru:B<=w.heap.size+1+1:=qb
 have hz:=(blk4 w (O #[I 12,S t,I n] 143) (O #[I pl,J sa stack.length cp,I st,I ((lk:Int)+1),F false,I 0,ze,F false,ze,F false] 221) (O #[I 0,nS,I 0,I 0,F false,I 0,ze,F false,ze,F false] 221) (O #[F false,I y.code,S y.text] 196)).1
 unfold Ds
 go_enter func152,ntmps152
 go_wp2_with (first|(go_at_call 41;refine(Ca nm _ qb).mono ?_;rintro e w9 ⟨rfl,rfl⟩))
 have hl:=Fb pl sa stack.length cp st ((lk:Int)+1) 4 nm
 unfold Ds at hl
 refine(hl _).mono ?_
 rintro e w1 ⟨rfl,af⟩
 have bh:Below B w w1:=(bN ak af).mono hB
 have bg:w1.heap[w.heap.size+1+1]?=M (O #[I 0,nS,I 0,I 0,F false,I 0,ze,F false,ze,F false] 221 (0,0)):=by rw[af.block _ qg];exact hz
 obtain⟨k0,k1,k2,k3,k4,k5,k6,k7,k8,k9⟩:=Fz bg
 have f0:=fZ bg
 clear hz bg ak af hl a1 a2 a3
 unfold Dz
 go_wp2_with fail
 exact bR (v:=Dz pl (J sa stack.length cp) st ((lk:Int)+1) 4 nm) qdm rfl ⟨b10 (bh) ru,rfl⟩
theorem look_below(hB:B<=w.heap.size)(cm:nm.size<=2000)(dr:pl<=201)(de:st<=2000)(o6:lk<=200)(hn:Ar nm)(hl:lk≠200)(hy:lk<ys.length)(I6:ys.length<=200)(hr:Pw w ra ys)(hh:(rx ys lk).has=true)(hcd:(rx ys lk).code≠0):Calls prog 152 #[G #[I 12,S t,I n],Ds pl (J sa stack.length cp) st lk,S nm,S place,J ra ys.length rcap] w λe w'=>Below B w w'/\e=H (Dz pl (J sa stack.length cp) st ((lk:Int)+1) 5 nm):=by
 have ig:=Cs hn
 have d1:((lk:Int) == 200)=false:=qh
 have hyI:(lk:Int)<(ys.length:Int):=qb
 obtain⟨b,off,rfl,e1,e2,e3⟩:=hr lk hy
 rw[hh]at e1
 have hcb:((rx ys lk).code == 0)=false:=by simpa using hcd
 generalize rx ys lk=y at *
 clear hr hn hl
 clear hh
 have ky:∀(x y z:Obj)(p:Addr)(v:Z),w.cell? p=M v->(((w.alloc x).alloc y).alloc z).cell? p=M v:=λx y z p v h=>by
  exact qda
 have a1:=λx y z=>ky x y z _ _ e1
 have a2:=λx y z=>ky x y z _ _ e2
 have a3:=λx y z=>ky x y z _ _ e3
 clear ky
 have ak:Bw w ((((w.alloc (O #[I 12,S t,I n] 143)).alloc (O #[I pl,J sa stack.length cp,I st,I ((lk:Int)+1),F false,I 0,ze,F false,ze,F false] 221)).alloc (O #[I 0,nS,I 0,I 0,F false,I 0,ze,F false,ze,F false] 221)).alloc (O #[F true,I y.code,S y.text] 196)):=(((aN _ _).alloc qg _).alloc qh _).alloc qh _
 have ru:B<=w.heap.size+1+1:=qb
 have hz:=(blk4 w (O #[I 12,S t,I n] 143) (O #[I pl,J sa stack.length cp,I st,I ((lk:Int)+1),F false,I 0,ze,F false,ze,F false] 221) (O #[I 0,nS,I 0,I 0,F false,I 0,ze,F false,ze,F false] 221) (O #[F true,I y.code,S y.text] 196)).1
 unfold Ds
 go_enter func152,ntmps152
 go_wp2_with (first|(go_at_call 41;refine(Ca nm _ qb).mono ?_;rintro e w9 ⟨rfl,rfl⟩))
 have hl:=Fb pl sa stack.length cp st ((lk:Int)+1) 5 nm
 unfold Ds at hl
 refine(hl _).mono ?_
 rintro e w1 ⟨rfl,af⟩
 have bh:Below B w w1:=(bN ak af).mono hB
 have bg:w1.heap[w.heap.size+1+1]?=M (O #[I 0,nS,I 0,I 0,F false,I 0,ze,F false,ze,F false] 221 (0,0)):=by rw[af.block _ qg];exact hz
 obtain⟨k0,k1,k2,k3,k4,k5,k6,k7,k8,k9⟩:=Fz bg
 have f0:=fZ bg
 clear hz bg ak af hl a1 a2 a3
 unfold Dz
 go_wp2_with fail
 exact bR (v:=Dz pl (J sa stack.length cp) st ((lk:Int)+1) 5 nm) qdm rfl ⟨b10 (bh) ru,rfl⟩
theorem Gp{B:X}{w:E}{v:Z}{n:X}{xs:L Z}{b:X}(h:w.ownsRow B 9 1 v n xs/\∃cs,w.heap[b]?=M (O cs 221 (0,0)))(j:X)(x:Z):(w.setCell ⟨b,j,N⟩ x).ownsRow B 9 1 v n xs/\∃cs,(w.setCell ⟨b,j,N⟩ x).heap[b]?=M (O cs 221 (0,0)):=by
 obtain⟨ho,cs,hb⟩:=h
 refine⟨⟨ho.1,?_⟩,_,jB hb x⟩
 have hne:=Hi qd hb ho
 rcases ho.2 with h0|⟨g,cap,cur,hv,hg,hh,r⟩
 ·exact Or.inl h0
 ·refine Or.inr ⟨g,cap,cur,hv,hg,?_,r⟩;rw[hC w ⟨b,j,N⟩ _ g qck];exact hh
theorem look_text(hB:B<=w.heap.size)(cm:nm.size<=2000)(dr:pl<=201)(de:st<=2000)(o6:lk<=200)(hn:Ar nm)(hl:lk≠200)(hy:lk<ys.length)(I6:ys.length<=200)(hr:Pw w ra ys)(hh:(rx ys lk).has=true)(hcd:(rx ys lk).code=0)(ah:Py B w sa cp stack)(ur:stack.length<50):Calls prog 152 #[G #[I 12,S t,I n],Ds pl (J sa stack.length cp) st lk,S nm,S place,J ra ys.length rcap] w λe w'=>Below B w w'/\∃a' l8,e=H (Ds pl (J a' (stack.length+1) l8) st ((lk:Int)+1))/\Py B w' a' l8 (stack++[(rx ys lk).text]):=by
 have ig:=Cs hn
 have d1:((lk:Int) == 200)=false:=qh
 have hyI:(lk:Int)<(ys.length:Int):=qb
 obtain⟨b,off,rfl,e1,e2,e3⟩:=hr lk hy
 rw[hh]at e1
 rw[hcd]at e2
 generalize rx ys lk=y at *
 clear hr hn hl
 clear hh
 have ky:∀(x y z:Obj)(p:Addr)(v:Z),w.cell? p=M v->(((w.alloc x).alloc y).alloc z).cell? p=M v:=λx y z p v h=>by
  exact qda
 have a1:=λx y z=>ky x y z _ _ e1
 have a2:=λx y z=>ky x y z _ _ e2
 have a3:=λx y z=>ky x y z _ _ e3
 clear ky
 have ak:Bw w ((((w.alloc (O #[I 12,S t,I n] 143)).alloc (O #[I pl,J sa stack.length cp,I st,I ((lk:Int)+1),F false,I 0,ze,F false,ze,F false] 221)).alloc (O #[I 0,nS,I 0,I 0,F false,I 0,ze,F false,ze,F false] 221)).alloc (O #[F true,I 0,S y.text] 196)):=(((aN _ _).alloc qg _).alloc qh _).alloc qh _
 have ru:B<=w.heap.size+1+1:=qb
 have hR1:B<=w.heap.size+1:=qb
 have hz:=blk4 w (O #[I 12,S t,I n] 143) (O #[I pl,J sa stack.length cp,I st,I ((lk:Int)+1),F false,I 0,ze,F false,ze,F false] 221) (O #[I 0,nS,I 0,I 0,F false,I 0,ze,F false,ze,F false] 221) (O #[F true,I 0,S y.text] 196)
 have ju:=((((ah.alloc (O #[I 12,S t,I n] 143)).alloc (O #[I pl,J sa stack.length cp,I st,I ((lk:Int)+1),F false,I 0,ze,F false,ze,F false] 221)).alloc (O #[I 0,nS,I 0,I 0,F false,I 0,ze,F false,ze,F false] 221)).alloc (O #[F true,I 0,S y.text] 196)).alloc (O #[S y.text] 9)
 obtain⟨i0,hi,bq,E6,E5⟩:=info_parts Tryz.info9b
 unfold Py at ah
 unfold Ds
 go_enter func152,ntmps152
 go_wp2_with (first|(go_at_call 41;refine(Ca nm _ qb).mono ?_;rintro e w9 ⟨rfl,rfl⟩)|(at_builtin;refine wpList_append_own _ rfl (.tmp 70) (.tmp 73) 22 rfl B 9 i0 ze 1 16 underlying22 hi bq E6 E5 rfl qd _ _ _ rfl ju ⟨w.heap.size+1+1+1+1,0,N⟩ 1 1 [S y.text] rfl rfl ?_ qae qm qb qh ?_;(focus(have:=cell_one_new ((((w.alloc (O #[I 12,S t,I n] 143)).alloc (O #[I pl,J sa stack.length cp,I st,I ((lk:Int)+1),F false,I 0,ze,F false,ze,F false] 221)).alloc (O #[I 0,nS,I 0,I 0,F false,I 0,ze,F false,ze,F false] 221)).alloc (O #[F true,I 0,S y.text] 196)) (S y.text) 9;simpa using this));intro v' w2 au ae cu;clear cu;have km:w2.heap[w.heap.size+1]?=M (O #[I pl,J sa stack.length cp,I st,I ((lk:Int)+1),F false,I 0,ze,F false,ze,F false] 221 (0,0)):=Fp ae (λb' cs' T' G2 As=>Hi G2 qbe ju) _ _ 221 qd hz.2;have oy:w2.heap[w.heap.size+1+1]?=M (O #[I 0,nS,I 0,I 0,F false,I 0,ze,F false,ze,F false] 221 (0,0)):=Fp ae (λb' cs' T' G2 As=>Hi G2 qbe ju) _ _ 221 qd hz.1;have gh:Below B w w2:=((ak.mono hB).alloc qh _).grown ae qh (λk hk=>(ah.lt k hk).1);obtain⟨g',mh,L9⟩:∃g cap,v'=J (p_ g) (stack.length+1) cap:=(by rcases au.2 with⟨_,h0⟩|⟨g,cap,cur,hv,_⟩;omega;exact⟨g,cap,hv⟩);rw[L9]at au ⊢;have k0:=cH oy 0;have k1:=cH oy 1;have k2:=cH oy 2;have k3:=cH oy 3;have k4:=cH oy 4;have k5:=cH oy 5;have k6:=cH oy 6;have k7:=cH oy 7;have k8:=cH oy 8;have k9:=cH oy 9;simp only[gA,gB,gC]at k0 k1 k2 k3 k4 k5 k6 k7 k8 k9;have m0:=cH km 0;have m1:=cH km 1;have m2:=cH km 2;have m3:=cH km 3;have m4:=cH km 4;have m5:=cH km 5;have m6:=cH km 6;have m7:=cH km 7;have m8:=cH km 8;have m9:=cH km 9;simp only[gA,gB,gC]at m0 m1 m2 m3 m4 m5 m6 m7 m8 m9;have f0:∀j,w2.frozen? ⟨w.heap.size+1+1,j,N⟩=false:=(λj=>fH oy j);have f1:∀j,w2.frozen? ⟨w.heap.size+1,j,N⟩=false:=(λj=>fH km j);have kt:Hd (w2.heap[w.heap.size+1]?=M (O #[I pl,J sa stack.length cp,I st,I ((lk:Int)+1),F false,I 0,ze,F false,ze,F false] 221 (0,0))):=km;have D8:Hd (w2.heap[w.heap.size+1+1]?=M (O #[I 0,nS,I 0,I 0,F false,I 0,ze,F false,ze,F false] 221 (0,0))):=oy;have yr:Hd (w2.ownsRow B 9 1 (J (p_ g') (stack.length+1) mh) (stack.length+1) (Aq stack++[S y.text])):=au;clear km oy au ae a1 a2 a3))
 refine bR (v:=Ds pl (J (p_ g') (stack.length+1) mh) st ((lk:Int)+1)) (by simp[results,results152,go_sem,Ds,k0,k1,k2,k3,k4,k5,k6,k7,k8,k9]) rfl ⟨b10 ((gh.setCell (p:=⟨w.heap.size+1,1,N⟩) hR1 _)) ru,_,_,rfl,?_⟩
 have h1:=Gp ⟨yr.o,_,kt.o⟩ 1 (J (p_ g') (stack.length+1) mh)
 have h2:∃cs,(w2.setCell ⟨w.heap.size+1,1,N⟩ (J (p_ g') (stack.length+1) mh)).heap[w.heap.size+1+1]?=M (O cs 221 (0,0)):=⟨_,by rw[hC w2 ⟨w.heap.size+1,1,N⟩ _ _ qg];exact D8.o⟩
 have e:Aq (stack++[y.text])=Aq stack++[S y.text]:=qai
 exact qiu
end
section
open Go.Deep
theorem Re{w w2:E}{o:Obj}{ob:Option X}(ae:(w.alloc o).drew.grownBy w2 ob)(HO:∀(b:X)(cs:Array Z)(T:X),T≠9->w.heap[b]?=M (O cs T (0,0))->M b≠ob):∀(b:X)(cs:Array Z)(T:X),T≠9->w.heap[b]?=M (O cs T (0,0))->w2.heap[b]?=M (O cs T (0,0)):=by
 intro b cs T hT hb
 have hl:=Ag hb
 rw[ae.block b qh (HO b cs T hT hb)]
 exact(Lib.alloc_old w o b hl).trans hb
theorem step_flag{x:Operand}{W:E}{ops:Array Oper}{o:Oper}{a:Act}{K:Act->E->Prop}{Q:Exit->Act->E->Prop}{AF:Prop}(ri:o.guard=N)(ho:o.op=.call { callee:=.value (.func 113),args:=#[x],argTypes:=#[4] })(b:Bool)(f:By)(hf:Cl b=f)(hx:a.eval x=F b)(h:K (a.put o.dst (S f)) W):if Region.wanted o (yielded ops a.tmps)=true then Oper.wp prog o a W K Q else AF:=by
 have hw:Region.wanted o (yielded ops a.tmps)=true:=qby
 have kj:(execOp a.eval o).run prog W=.ok (.enter 113 #[F b]) W:=by
  unfold execOp;rw[ho];simp[go_sem]
  cases x with
  | tmp t=>simpa [Act.eval] using hx
  | const v=>simpa [Act.eval] using hx
  | «global» g=>simp[Act.eval]at hx
  | func f=>simp[Act.eval]at hx
 rw[if_pos hw]
 unfold Oper.wp
 rw[kj,Oper.upon_enter]
 refine(Ln b W).mono ?_
 rintro e w' ⟨rfl,rfl⟩
 rw[hf]
 exact h
theorem step_appS{s x:Operand}{W:E}{ops:Array Oper}{o:Oper}{a:Act}{K:Act->E->Prop}{Q:Exit->Act->E->Prop}{AF:Prop}(ri:o.guard=N)(ho:o.op=.call { callee:=.builtin .append,args:=#[s,x],argTypes:=#[22,22] })(B:X)(sa:Option Addr)(nn cap:X)(xs:L Z)(hs:a.eval s=J sa nn cap)(ah:W.ownsRow B 9 1 (J sa nn cap) nn xs)(d:X)(tx:By)(hx:a.eval x=J (p_ d) 1 1)(hc:W.cell? ⟨d,0,N⟩=M (S tx))(hB:B<=W.heap.size)(hn:nn<=50)(h:∀g' ai w',w'.ownsRow B 9 1 (J (p_ g') (nn+1) ai) (nn+1) (xs++[S tx])->W.grownBy w' (Value.slice sa nn cap).ownBlock->K (a.put o.dst (J (p_ g') (nn+1) ai)) w'):if Region.wanted o (yielded ops a.tmps)=true then Oper.wp prog o a W K Q else AF:=by
 obtain⟨i0,hi,bq,bg,bv⟩:=info_parts Tryz.info9b
 refine step_append_lies (w:=W) ri s x 22 ho B 9 i0 ze 1 16 underlying22 hi bq bg bv rfl qd _ nn xs hs ah ⟨d,0,N⟩ 1 1 [S tx] hx rfl
  (λj u hu=>by
   have hj:j=0:=by rcases j with _|j;rfl;simp at hu
   subst hj;rw[Addr.add_lit,Nat.zero_add];simp at hu;subst hu;exact hc) qae qb qm qb hB W.heap.size rfl ?_
 exact qdi
variable (B:X) (o:X) (t:By) (n:X) (pl:X) (sa:Option Addr) (cp:X) (stack:L By) (st lk:X) (nm place:By) (ra:Option Addr) (rcap:X) (ys:L R3) (w:E)
theorem look_flag(hB:B<=w.heap.size)(cm:nm.size<=2000)(dr:pl<=201)(de:st<=2000)(o6:lk<=200)(hn:Ar nm)(hl:lk≠200)(hy:lk<ys.length)(I6:ys.length<=200)(hr:Pw w ra ys)(ah:Py B w sa cp stack)(ur:stack.length<50):Calls prog 152 #[G #[I 13,S t,I n],Ds pl (J sa stack.length cp) st lk,S nm,S place,J ra ys.length rcap] w λe w'=>Below B w w'/\∃a' l8,e=H (Ds pl (J a' (stack.length+1) l8) st ((lk:Int)+1))/\Py B w' a' l8 (stack++[Cl (rx ys lk).has]):=by
 have ig:=Cs hn
 have d1:((lk:Int) == 200)=false:=qh
 have hyI:(lk:Int)<(ys.length:Int):=qb
 obtain⟨b,off,rfl,e1,e2,e3⟩:=hr lk hy
 generalize rx ys lk=y at *
 clear hr hn hl
 have ky:∀(x y z:Obj)(p:Addr)(v:Z),w.cell? p=M v->(((w.alloc x).alloc y).alloc z).cell? p=M v:=λx y z p v h=>by
  exact qda
 have a1:=λx y z=>ky x y z _ _ e1
 have a2:=λx y z=>ky x y z _ _ e2
 have a3:=λx y z=>ky x y z _ _ e3
 clear ky
 have ak:Bw w ((((w.alloc (O #[I 13,S t,I n] 143)).alloc (O #[I pl,J sa stack.length cp,I st,I ((lk:Int)+1),F false,I 0,ze,F false,ze,F false] 221)).alloc (O #[I 0,nS,I 0,I 0,F false,I 0,ze,F false,ze,F false] 221)).alloc (O #[F y.has,I y.code,S y.text] 196)):=(((aN _ _).alloc qg _).alloc qh _).alloc qh _
 have ru:B<=w.heap.size+1+1:=qb
 have hR1:B<=w.heap.size+1:=qb
 have hz:=blk4 w (O #[I 13,S t,I n] 143) (O #[I pl,J sa stack.length cp,I st,I ((lk:Int)+1),F false,I 0,ze,F false,ze,F false] 221) (O #[I 0,nS,I 0,I 0,F false,I 0,ze,F false,ze,F false] 221) (O #[F y.has,I y.code,S y.text] 196)
 have hzr:((((w.alloc (O #[I 13,S t,I n] 143)).alloc (O #[I pl,J sa stack.length cp,I st,I ((lk:Int)+1),F false,I 0,ze,F false,ze,F false] 221)).alloc (O #[I 0,nS,I 0,I 0,F false,I 0,ze,F false,ze,F false] 221)).alloc (O #[F y.has,I y.code,S y.text] 196)).heap[w.heap.size+1+1+1]?=M (O #[F y.has,I y.code,S y.text] 196 (0,0)):=by
  have h:=Bf (((w.alloc (O #[I 13,S t,I n] 143)).alloc (O #[I pl,J sa stack.length cp,I st,I ((lk:Int)+1),F false,I 0,ze,F false,ze,F false] 221)).alloc (O #[I 0,nS,I 0,I 0,F false,I 0,ze,F false,ze,F false] 221)) (O #[F y.has,I y.code,S y.text] 196);rw[show(((w.alloc (O #[I 13,S t,I n] 143)).alloc (O #[I pl,J sa stack.length cp,I st,I ((lk:Int)+1),F false,I 0,ze,F false,ze,F false] 221)).alloc (O #[I 0,nS,I 0,I 0,F false,I 0,ze,F false,ze,F false] 221)).heap.size=w.heap.size+1+1+1 from qg]at h;exact h
 obtain⟨f,ef⟩:=Aj (Cl y.has)
 have EF:Hd (Cl y.has=f):=ef
 clear ef
 have ju:=((((ah.alloc (O #[I 13,S t,I n] 143)).alloc (O #[I pl,J sa stack.length cp,I st,I ((lk:Int)+1),F false,I 0,ze,F false,ze,F false] 221)).alloc (O #[I 0,nS,I 0,I 0,F false,I 0,ze,F false,ze,F false] 221)).alloc (O #[F y.has,I y.code,S y.text] 196)).alloc (O #[S f] 9)
 unfold Py at ah
 unfold Ds
 go_enter func152,ntmps152
 go_wp2_with (first|(go_at_call 41;refine(Ca nm _ qb).mono ?_;rintro e w9 ⟨rfl,rfl⟩))
 go_region_law (first|(refine step_flag rfl rfl y.has f EF.o ?_ ?_;(focus(simp[Act.eval];done)))|(refine step_appS rfl rfl B sa stack.length cp (Aq stack) ?_ ?_ (w.heap.size+1+1+1+1) f ?_ ?_ ?_ ?_ ?_;(focus(simp[Act.eval];done));(focus(exact ju));(focus(simp[Act.eval];done));(focus(simp[go_sem];done));(focus(simp;omega));(focus omega);intro g' mh w2 au ae;have km:w2.heap[w.heap.size+1]?=M (O #[I pl,J sa stack.length cp,I st,I ((lk:Int)+1),F false,I 0,ze,F false,ze,F false] 221 (0,0)):=(by first|exact Fp ae (λb' cs' T' G2 As=>Hi G2 qbe ju) _ _ 221 qd hz.2|exact Re ae (λb' cs' T' G2 As=>Hi G2 qbe ju) _ _ 221 qd hz.2);have oy:w2.heap[w.heap.size+1+1]?=M (O #[I 0,nS,I 0,I 0,F false,I 0,ze,F false,ze,F false] 221 (0,0)):=(by first|exact Fp ae (λb' cs' T' G2 As=>Hi G2 qbe ju) _ _ 221 qd hz.1|exact Re ae (λb' cs' T' G2 As=>Hi G2 qbe ju) _ _ 221 qd hz.1);have gh:Below B w w2:=(by first|exact((ak.mono hB).drew.alloc qh _).grown ae qh (λk hk=>(ah.lt k hk).1)|exact((ak.mono hB).alloc qh _).drew.grown ae qh (λk hk=>(ah.lt k hk).1));have k0:=cH oy 0;have k1:=cH oy 1;have k2:=cH oy 2;have k3:=cH oy 3;have k4:=cH oy 4;have k5:=cH oy 5;have k6:=cH oy 6;have k7:=cH oy 7;have k8:=cH oy 8;have k9:=cH oy 9;simp only[gA,gB,gC]at k0 k1 k2 k3 k4 k5 k6 k7 k8 k9;have m0:=cH km 0;have m1:=cH km 1;have m2:=cH km 2;have m3:=cH km 3;have m4:=cH km 4;have m5:=cH km 5;have m6:=cH km 6;have m7:=cH km 7;have m8:=cH km 8;have m9:=cH km 9;simp only[gA,gB,gC]at m0 m1 m2 m3 m4 m5 m6 m7 m8 m9;have f0:∀j,w2.frozen? ⟨w.heap.size+1+1,j,N⟩=false:=(λj=>fH oy j);have f1:∀j,w2.frozen? ⟨w.heap.size+1,j,N⟩=false:=(λj=>fH km j);have kt:Hd (w2.heap[w.heap.size+1]?=M (O #[I pl,J sa stack.length cp,I st,I ((lk:Int)+1),F false,I 0,ze,F false,ze,F false] 221 (0,0))):=km;have D8:Hd (w2.heap[w.heap.size+1+1]?=M (O #[I 0,nS,I 0,I 0,F false,I 0,ze,F false,ze,F false] 221 (0,0))):=oy;have yr:Hd (w2.ownsRow B 9 1 (J (p_ g') (stack.length+1) mh) (stack.length+1) (Aq stack++[S f])):=au;clear au ae a1 a2 a3))
 all_goals
  go_wp2_with fail;refine bR (v:=Ds pl (J (p_ g') (stack.length+1) mh) st ((lk:Int)+1)) (by simp[results,results152,go_sem,Ds,k0,k1,k2,k3,k4,k5,k6,k7,k8,k9]) rfl ⟨b10 ((gh.setCell (p:=⟨w.heap.size+1,1,N⟩) hR1 _)) ru,_,_,rfl,?_⟩;have h1:=Gp ⟨yr.o,_,kt.o⟩ 1 (J (p_ g') (stack.length+1) mh);have h2:∃cs,(w2.setCell ⟨w.heap.size+1,1,N⟩ (J (p_ g') (stack.length+1) mh)).heap[w.heap.size+1+1]?=M (O cs 221 (0,0)):=⟨_,by rw[hC w2 ⟨w.heap.size+1,1,N⟩ _ _ qg];exact D8.o⟩;have e:Aq (stack++[Cl y.has])=Aq stack++[S f]:=by rw[EF.o];simp[Aq]
  exact qiu
end
def Cd(B:X)(is:L I3)(ys:L R3)(s:St)(w':E)(e:Ending):Prop:=
 (∃c t n,Cb is s=.over c t n/\∃(pl:Int)(va:Option Addr)(vn vc:X)(lk:Int),e=H (Dz pl (J va vn vc) n lk c t))∨
 (∃s',Cb is s=.go s'/\∃a' l8,e=H (Ds s'.pl (J a' s'.stack.length l8) s'.steps s'.looks)/\Py B w' a' l8 s'.stack)∨
 (∃ask nm s',Cb is s=.look ask nm s'/\ys.length<=s.looks/\∃(pl:Int)(va:Option Addr)(vn vc:X)(lk:Int),e=H (waitV pl (J va vn vc) s'.steps lk ask nm))∨
 (∃ask nm s' s'',Cb is s=.look ask nm s'/\s.looks<ys.length/\Et ask nm (rx ys s.looks) s'=.go s''/\∃a' l8,e=H (Ds s''.pl (J a' s''.stack.length l8) s''.steps s''.looks)/\Py B w' a' l8 s''.stack)∨
 (∃ask nm s' c t n,Cb is s=.look ask nm s'/\s.looks<ys.length/\Et ask nm (rx ys s.looks) s'=.over c t n/\∃(pl:Int)(va:Option Addr)(vn vc:X)(lk:Int),e=H (Dz pl (J va vn vc) n lk c t))
theorem Qae(a:Option Addr)(cap:X)(is:L I3)(s:St)(sa:Option Addr)(cp:X)(ra:Option Addr)(rcap:X)(ys:L R3)(w:E)(hv:Au is=true)(hs:Ec is s)(dr:¬ s.pl<is.length):Calls prog 133 #[G #[J a is.length cap],Ds s.pl (J sa s.stack.length cp) s.steps s.looks,J ra ys.length rcap] w λe w'=>Bw w w'/\Cd w.heap.size is ys s w' e:=by
 have fh:Hd (Cb is s=.over 2 (En s.pl) s.steps):=Kz dr
 have hplI:(is.length:Int)<=(s.pl:Int):=qb
 have dh:=Dh hv
 have zl:=hs.pl
 have de:=hs.steps
 have o6:=hs.looks
 have wo:=hs.len
 obtain⟨ak,hz,hr,hc⟩:=op3 w a is.length cap s.pl (J sa s.stack.length cp) s.steps s.looks
 have ru:w.heap.size<=w.heap.size+1+1:=qb
 have hR1:w.heap.size<=w.heap.size+1:=qb
 obtain⟨q,eq⟩:=Aj (En s.pl)
 have EQ:Hd (En s.pl=q):=eq
 have HD:Hd _:=dcH eq qb
 clear eq
 unfold Ds
 go_enter func133,ntmps133
 go_wp2_with fail
 refine(HD.o _).mono ?_
 rintro e w1 ⟨rfl,af⟩
 have bh:Bw w w1:=bN ak af
 have bg:=Ov af hz
 have kl:=Ov af hr
 have F9:=Ov af hc
 have x0:=cK F9 0
 obtain⟨r0,r1,r2,r3,r4,r5,r6,r7,r8,r9⟩:=Fz kl
 have fr:=fZ kl
 clear hz hr hc ak af HD
 rw[EQ.o]at fh
 go_wp2_with fail
 have hl:=Fb s.pl sa s.stack.length cp s.steps s.looks 2 q
 unfold Ds at hl
 refine(hl _).mono ?_
 rintro e w2 ⟨rfl,ag⟩
 have be:Bw w w2:=bN bh ag
 have bv:=Ov ag bg
 obtain⟨z0,z1,z2,z3,z4,z5,z6,z7,z8,z9⟩:=Fz bv
 have fz:=fZ bv
 clear bv ag hl
 unfold Dz
 go_wp2_with fail
 exact bR (v:=Dz s.pl (J sa s.stack.length cp) s.steps s.looks 2 q) qbm rfl ⟨b10 (be) ru,Or.inl ⟨2,q,s.steps,fh.o,_,_,_,_,_,rfl⟩⟩
theorem step_spent(a:Option Addr)(cap:X)(is:L I3)(s:St)(sa:Option Addr)(cp:X)(ra:Option Addr)(rcap:X)(ys:L R3)(w:E)(hv:Au is=true)(hs:Ec is s)(dr:s.pl<is.length)(fm:s.steps=2000):Calls prog 133 #[G #[J a is.length cap],Ds s.pl (J sa s.stack.length cp) s.steps s.looks,J ra ys.length rcap] w λe w'=>Bw w w'/\Cd w.heap.size is ys s w' e:=by
 have fh:Hd (Cb is s=.over 3 ⟨#[]⟩ s.steps):=Jm dr fm
 have hplI:(s.pl:Int)<(is.length:Int):=qb
 have hst3:((s.steps:Int) == 2000)=true:=qh
 clear fm
 have dh:=Dh hv
 have zl:=hs.pl
 have de:=hs.steps
 have o6:=hs.looks
 have wo:=hs.len
 obtain⟨ak,hz,hr,hc⟩:=op3 w a is.length cap s.pl (J sa s.stack.length cp) s.steps s.looks
 have ru:w.heap.size<=w.heap.size+1+1:=qb
 have hR1:w.heap.size<=w.heap.size+1:=qb
 obtain⟨q,eq⟩:=Aj (En s.pl)
 have EQ:Hd (En s.pl=q):=eq
 have HD:Hd _:=dcH eq qb
 clear eq
 unfold Ds
 go_enter func133,ntmps133
 go_wp2_with fail
 refine(HD.o _).mono ?_
 rintro e w1 ⟨rfl,af⟩
 have bh:Bw w w1:=bN ak af
 have bg:=Ov af hz
 have kl:=Ov af hr
 have F9:=Ov af hc
 have x0:=cK F9 0
 obtain⟨r0,r1,r2,r3,r4,r5,r6,r7,r8,r9⟩:=Fz kl
 have fr:=fZ kl
 clear hz hr hc ak af HD
 go_wp2_with fail
 have hl:=Fb s.pl sa s.stack.length cp s.steps s.looks 3 ⟨#[]⟩
 unfold Ds at hl
 refine(hl _).mono ?_
 rintro e w2 ⟨rfl,ag⟩
 have be:Bw w w2:=bN bh ag
 have bv:=Ov ag bg
 obtain⟨z0,z1,z2,z3,z4,z5,z6,z7,z8,z9⟩:=Fz bv
 have fz:=fZ bv
 clear bv ag hl
 unfold Dz
 go_wp2_with fail
 exact bR (v:=Dz s.pl (J sa s.stack.length cp) s.steps s.looks 3 ⟨#[]⟩) qbm rfl ⟨b10 (be) ru,Or.inl ⟨3,⟨#[]⟩,s.steps,fh.o,_,_,_,_,_,rfl⟩⟩
def Kh(o:X):X:=(putsOf.getD o 0).toNat
theorem puts_eq(o:X)(h:o<=15):putsOf.getD o 0=((Kh o:X):Int):=by
 exact qej
theorem tkH{o:X}(kd:1<=o)(jq:o<=15):∀W:E,Calls prog 151 #[I o] W λe w'=>e=H (.tuple #[I (Ax o:X),I (Kh o:X)])/\W=w':=λW=>by rw[<- Zz o jq,<- puts_eq o jq];exact l2Takes_in o W kd jq
theorem tp_le(o:X)(h:o<=15):Ax o<=2/\Kh o<=2:=by
 rcases(show o=0\/o=1\/o=2\/o=3\/o=4\/o=5\/o=6\/o=7\/o=8\/o=9\/o=10\/o=11\/o=12\/o=13\/o=14\/o=15 from qb)with rfl|rfl|rfl|rfl|rfl|rfl|rfl|rfl|rfl|rfl|rfl|rfl|rfl|rfl|rfl|rfl<;>decide
theorem puts_len(o:X)(h1:1<=o)(h:o<=11)(t:By)(n:X)(a b:By):(Cr o t n a b).length=Kh o:=by
 exact qel
theorem Td{o:X}{l:L By}(h1:1<=o)(h:o<=15)(hl:l.length<=50)(hf:¬ l.length<Ax o)(hm:50<l.length-Ax o+Kh o):o<=11:=by
 rcases(show o<=11\/o=12\/o=13\/o=14\/o=15 from qb)with h|rfl|rfl|rfl|rfl
 ·exact h
 ·have e1:Ax 12=1:=rfl;have e2:Kh 12=1:=rfl;omega
 ·have e1:Ax 13=1:=rfl;have e2:Kh 13=1:=rfl;omega
 ·have e1:Ax 14=1:=rfl;have e2:Kh 14=0:=rfl;omega
 ·have e1:Ax 15=1:=rfl;have e2:Kh 15=0:=rfl;omega
section
def r10(x0:Int)(a:Option Addr)(n c:X)(x2 x3:Int)(x4:Bool)(x5:Int)(x6:By)(x7:Bool)(x8:By)(x9:Bool):Z:=G #[I x0,J a n c,I x2,I x3,F x4,I x5,S x6,F x7,S x8,F x9]
theorem top_le{is:L I3}{s:St}(hs:Ec is s)(h:1<=s.stack.length):(Bq s.stack).size<=2000:=by
 apply hs.size
 unfold Bq
 rw[gG,Ix (show s.stack.length-1<s.stack.length from qb)]
 exact List.getElem_mem _
theorem sub_le{is:L I3}{s:St}(hs:Ec is s)(h:2<=s.stack.length):(Iy s.stack).size<=2000:=by
 apply hs.size
 unfold Iy
 rw[gG,Ix (show s.stack.length-2<s.stack.length from qb)]
 exact List.getElem_mem _
theorem Cd.set{B:X}{is:L I3}{ys:L R3}{s:St}{w:E}{e:Ending}{b:X}(h:Cd B is ys s w e/\∃cs,w.heap[b]?=M (O cs 221 (0,0)))(j:X)(x:Z):Cd B is ys s (w.setCell ⟨b,j,N⟩ x) e/\∃cs,(w.setCell ⟨b,j,N⟩ x).heap[b]?=M (O cs 221 (0,0)):=by
 obtain⟨h,hc⟩:=h
 refine⟨?_,by obtain⟨cs,hb⟩:=hc;exact⟨_,jB hb x⟩⟩
 rcases h with h|⟨s',h1,a',l8,h2,h3⟩|h|⟨ask,nm,s',s'',h1,h2,h3,a',l8,h4,h5⟩|h
 ·exact Or.inl h
 ·exact Or.inr (Or.inl ⟨s',h1,a',l8,h2,(Gp ⟨h3,hc⟩ j x).1⟩)
 ·exact Or.inr (Or.inr (Or.inl h))
 ·exact Or.inr (Or.inr (Or.inr (Or.inl ⟨ask,nm,s',s'',h1,h2,h3,a',l8,h4,(Gp ⟨h5,hc⟩ j x).1⟩)))
 ·exact Or.inr (Or.inr (Or.inr (Or.inr h)))
variable (B:X) (t:By) (n:X) (is:L I3) (s:St) (sa:Option Addr) (cp:X) (rest:L By) (nm q:By) (ra:Option Addr) (rcap:X) (ys:L R3) (w:E)
def LookPost(B:X)(is:L I3)(ys:L R3)(s:St)(w w':E)(e:Ending):Prop:=
 Below B w w'/\∃x0 a n c x2 x3 x4 x5 x6 x7 x8 x9,e=H (r10 x0 a n c x2 x3 x4 x5 x6 x7 x8 x9)/\Cd B is ys s w' e
theorem look_step12(hB:B<=w.heap.size)(hs:Ec is s)(dr:s.pl<is.length)(hl200:is.length<=200)(fm:s.steps≠2000)(ei:ix is s.pl=⟨12,t,n⟩)(hfew:1<=s.stack.length)(erest:rest=Bl s.stack 1)(enm:nm=Bq s.stack)(eq:q=En s.pl)(I6:ys.length<=200)(hr:Pw w ra ys)(ah:Py B w sa cp rest)(wo:rest.length<50):Calls prog 152 #[G #[I 12,S t,I n],Ds ((s.pl:Int)+1) (J sa rest.length cp) ((s.steps:Int)+1) s.looks,S nm,S q,J ra ys.length rcap] w λe w'=>LookPost B is ys s w w' e:=by
 subst erest;subst enm;subst eq
 have e1:((s.pl+1:X):Int)=(s.pl:Int)+1:=rfl
 have e2:((s.steps+1:X):Int)=(s.steps:Int)+1:=rfl
 have de:=hs.steps
 have o6:=hs.looks
 have hp:=hs.pl
 have fe:¬ s.stack.length<Ax 12:=by rw[show Ax 12=1 from rfl];omega
 have se:=top_le hs hfew
 have F0:=Ht dr fm (o:=12) ei
 rw[<- e1,<- e2]
 by_cases hn:Ar (Bq s.stack)
 ·by_cases hl:s.looks=200
  ·refine(look_sp B 12 t n (s.pl+1) sa cp (Bl s.stack 1) (s.steps+1) s.looks (Bq s.stack) (En s.pl) ra rcap ys w hB se qb qb o6 hn hl).mono ?_;rintro e w' ⟨hb,rfl⟩;exact⟨hb,_,_,_,_,_,_,_,_,_,_,_,_,rfl,Or.inl ⟨3,_,s.steps+1,F0.trans (Hx fe (Or.inl rfl) hn hl),_,_,_,_,_,rfl⟩⟩
  ·have E9:=F0.trans (Js fe (Or.inl rfl) hn hl)
   by_cases hy:ys.length<=s.looks
   ·refine(look_wt B 12 t n (s.pl+1) sa cp (Bl s.stack 1) (s.steps+1) s.looks (Bq s.stack) (En s.pl) ra rcap ys w hB se qb qb o6 hn hl hy).mono ?_;rintro e w' ⟨hb,rfl⟩;exact⟨hb,_,_,_,_,_,_,_,_,_,_,_,_,rfl,Or.inr (Or.inr (Or.inl ⟨true,_,_,E9,hy,_,_,_,_,_,rfl⟩))⟩
   ·have hy2:s.looks<ys.length:=qb
    cases hh:(rx ys s.looks).has with
    | false=>
     refine(look_miss B t n (s.pl+1) sa cp (Bl s.stack 1) (s.steps+1) s.looks (Bq s.stack) (En s.pl) ra rcap ys w hB se qb qb o6 hn hl hy2 I6 hr hh).mono ?_;rintro e w' ⟨hb,rfl⟩;exact⟨hb,_,_,_,_,_,_,_,_,_,_,_,_,rfl,Or.inr (Or.inr (Or.inr (Or.inr ⟨true,_,_,4,_,s.steps+1,E9,hy2,by simp[Et,hh],_,_,_,_,_,rfl⟩)))⟩
    | true=>
     by_cases hcd:(rx ys s.looks).code=0
     ·refine(look_text B t n (s.pl+1) sa cp (Bl s.stack 1) (s.steps+1) s.looks (Bq s.stack) (En s.pl) ra rcap ys w hB se qb qb o6 hn hl hy2 I6 hr hh hcd ah wo).mono ?_;rintro e w' ⟨hb,a',l8,rfl,ho⟩;exact⟨hb,_,_,_,_,_,_,_,_,_,_,_,_,rfl,Or.inr (Or.inr (Or.inr (Or.inl ⟨true,_,_,⟨s.pl+1,Bl s.stack 1++[(rx ys s.looks).text],s.steps+1,s.looks+1⟩,E9,hy2,by simp[Et,hh,hcd],a',l8,by simp[List.length_append],ho⟩)))⟩
     ·refine(look_below B t n (s.pl+1) sa cp (Bl s.stack 1) (s.steps+1) s.looks (Bq s.stack) (En s.pl) ra rcap ys w hB se qb qb o6 hn hl hy2 I6 hr hh hcd).mono ?_;rintro e w' ⟨hb,rfl⟩;exact⟨hb,_,_,_,_,_,_,_,_,_,_,_,_,rfl,Or.inr (Or.inr (Or.inr (Or.inr ⟨true,_,_,5,_,s.steps+1,E9,hy2,by simp[Et,hh,hcd],_,_,_,_,_,rfl⟩)))⟩
 ·refine(look_no B 12 t n (s.pl+1) sa cp (Bl s.stack 1) (s.steps+1) s.looks (Bq s.stack) (En s.pl) ra rcap ys w hB se qb qb o6 hn).mono ?_;rintro e w' ⟨hb,rfl⟩;exact⟨hb,_,_,_,_,_,_,_,_,_,_,_,_,rfl,Or.inl ⟨2,_,s.steps+1,F0.trans (Lo fe (Or.inl rfl) hn),_,_,_,_,_,rfl⟩⟩
theorem look_step13(hB:B<=w.heap.size)(hs:Ec is s)(dr:s.pl<is.length)(hl200:is.length<=200)(fm:s.steps≠2000)(ei:ix is s.pl=⟨13,t,n⟩)(hfew:1<=s.stack.length)(erest:rest=Bl s.stack 1)(enm:nm=Bq s.stack)(eq:q=En s.pl)(I6:ys.length<=200)(hr:Pw w ra ys)(ah:Py B w sa cp rest)(wo:rest.length<50):Calls prog 152 #[G #[I 13,S t,I n],Ds ((s.pl:Int)+1) (J sa rest.length cp) ((s.steps:Int)+1) s.looks,S nm,S q,J ra ys.length rcap] w λe w'=>LookPost B is ys s w w' e:=by
 subst erest;subst enm;subst eq
 have e1:((s.pl+1:X):Int)=(s.pl:Int)+1:=rfl
 have e2:((s.steps+1:X):Int)=(s.steps:Int)+1:=rfl
 have de:=hs.steps
 have o6:=hs.looks
 have hp:=hs.pl
 have fe:¬ s.stack.length<Ax 13:=by rw[show Ax 13=1 from rfl];omega
 have se:=top_le hs hfew
 have F0:=Ht dr fm (o:=13) ei
 rw[<- e1,<- e2]
 by_cases hn:Ar (Bq s.stack)
 ·by_cases hl:s.looks=200
  ·refine(look_sp B 13 t n (s.pl+1) sa cp (Bl s.stack 1) (s.steps+1) s.looks (Bq s.stack) (En s.pl) ra rcap ys w hB se qb qb o6 hn hl).mono ?_;rintro e w' ⟨hb,rfl⟩;exact⟨hb,_,_,_,_,_,_,_,_,_,_,_,_,rfl,Or.inl ⟨3,_,s.steps+1,F0.trans (Hx fe (Or.inr rfl) hn hl),_,_,_,_,_,rfl⟩⟩
  ·have E9:=F0.trans (Js fe (Or.inr rfl) hn hl)
   by_cases hy:ys.length<=s.looks
   ·refine(look_wt B 13 t n (s.pl+1) sa cp (Bl s.stack 1) (s.steps+1) s.looks (Bq s.stack) (En s.pl) ra rcap ys w hB se qb qb o6 hn hl hy).mono ?_;rintro e w' ⟨hb,rfl⟩;exact⟨hb,_,_,_,_,_,_,_,_,_,_,_,_,rfl,Or.inr (Or.inr (Or.inl ⟨false,_,_,E9,hy,_,_,_,_,_,rfl⟩))⟩
   ·have hy2:s.looks<ys.length:=qb;refine(look_flag B t n (s.pl+1) sa cp (Bl s.stack 1) (s.steps+1) s.looks (Bq s.stack) (En s.pl) ra rcap ys w hB se qb qb o6 hn hl hy2 I6 hr ah wo).mono ?_;rintro e w' ⟨hb,a',l8,rfl,ho⟩;exact⟨hb,_,_,_,_,_,_,_,_,_,_,_,_,rfl,Or.inr (Or.inr (Or.inr (Or.inl ⟨false,_,_,⟨s.pl+1,Bl s.stack 1++[Cl (rx ys s.looks).has],s.steps+1,s.looks+1⟩,E9,hy2,by simp[Et],a',l8,by simp[List.length_append],ho⟩)))⟩
 ·refine(look_no B 13 t n (s.pl+1) sa cp (Bl s.stack 1) (s.steps+1) s.looks (Bq s.stack) (En s.pl) ra rcap ys w hB se qb qb o6 hn).mono ?_;rintro e w' ⟨hb,rfl⟩;exact⟨hb,_,_,_,_,_,_,_,_,_,_,_,_,rfl,Or.inl ⟨2,_,s.steps+1,F0.trans (Lo fe (Or.inr rfl) hn),_,_,_,_,_,rfl⟩⟩
end
theorem own_out{xs:L Z}{g0:Addr}{n0 c0:X}(h:w.ownsRow B 9 1 v' (n+m) (xs++ss.map .string))(hn:v'=nS↔(Value.slice (M g0) n0 c0)=nS/\m=0)(e0:n=0:=by rfl)(e1:xs=[]:=by rfl):∃g cp,v'=J (p_ g) m cp/\w.ownsRow B 9 1 (J (p_ g) m cp) m (Aq ss):=by
 subst e0;subst e1
 rw[Nat.zero_add,List.nil_append]at h
 rcases h.2 with⟨hv,_⟩|⟨g,cap,cur,hv,r⟩
 ·have:=(hn.mp hv).1;cases this
 ·subst hv;exact⟨g,cap,rfl,h⟩
theorem own_add{x:By}(h:w.ownsRow B 9 1 v' (m+1) (Aq ss++[S x])):∃g cp,v'=J (p_ g) (m+1) cp/\w.ownsRow B 9 1 (J (p_ g) (m+1) cp) (m+1) (Aq (ss++[x])):=by
 rcases h.2 with⟨hv,h0⟩|⟨g,cap,cur,hv,r⟩
 ·omega
 ·subst hv;refine⟨g,cap,rfl,?_⟩;rw[show Aq (ss++[x])=Aq ss++[S x] from qai];exact h
theorem Py.mono{a:Option Addr}{cp:X}(h:Py B w a cp ss)(hB:B'<=B):Py B' w a cp ss:=by
 exact qjz
theorem Cd.mono(h:Cd B is ys s w e)(hB:B'<=B):Cd B' is ys s w e:=by
 rcases h with h|⟨s',h1,a',l8,h2,h3⟩|h|⟨ask,nm,s',s'',h1,h2,h3,a',l8,h4,h5⟩|h
 ·exact Or.inl h
 ·exact Or.inr (Or.inl ⟨s',h1,a',l8,h2,h3.mono hB⟩)
 ·exact Or.inr (Or.inr (Or.inl h))
 ·exact Or.inr (Or.inr (Or.inr (Or.inl ⟨ask,nm,s',s'',h1,h2,h3,a',l8,h4,h5.mono hB⟩)))
 ·exact Or.inr (Or.inr (Or.inr (Or.inr h)))
theorem Tp{b:X}(h:Cd B is ys s w e)(hc:∃cs,w.heap[b]?=M (O cs 221 (0,0)))(v0 v1 v2 v3 v4 v5 v6 v7 v8 v9:Z):Cd B is ys s ((((((((((w.setCell ⟨b,0,N⟩ v0).setCell ⟨b,1,N⟩ v1).setCell ⟨b,2,N⟩ v2).setCell ⟨b,3,N⟩ v3).setCell ⟨b,4,N⟩ v4).setCell ⟨b,5,N⟩ v5).setCell ⟨b,6,N⟩ v6).setCell ⟨b,7,N⟩ v7).setCell ⟨b,8,N⟩ v8).setCell ⟨b,9,N⟩ v9) e:=
 (Cd.set (Cd.set (Cd.set (Cd.set (Cd.set (Cd.set (Cd.set (Cd.set (Cd.set (Cd.set ⟨h,hc⟩ 0 v0) 1 v1) 2 v2) 3 v3) 4 v4) 5 v5) 6 v6) 7 v7) 8 v8) 9 v9).1
theorem step_go{o:X}{t:By}(dr:s.pl<is.length)(fm:s.steps≠2000)(e:ix is s.pl=⟨o,t,n⟩)(ho:o<=11)(em:s.stack.length=m+Ax o){outs:L By}(eo:Cr o t n (Bq s.stack) (Iy s.stack)=outs)(hm:m+outs.length<=50)(hx:∀x∈outs,x.size<=2000)(en:Ev o n s.pl (Bq s.stack)=npl):Cb is s=.go ⟨npl,s.stack.take m++outs,s.steps+1,s.looks⟩:=by
 have er:Bl s.stack (Ax o)=s.stack.take m:=by unfold Bl;rw[em,Nat.add_sub_cancel]
 have h:=(Ht dr fm e).trans (Qm qb ho (by
  unfold Su;rw[eo,er,List.length_take];rintro(h|⟨x,h1,h2⟩)
  ·omega
  ·have:=hx x h1;omega))
 rw[h,eo,er,en]
theorem go_post{w':E}{stk:L By}{a':Option Addr}{l8 k:X}{pI:Int}(h:Cb is s=.go ⟨npl,stk,s.steps+1,s.looks⟩)(hk:stk.length=k)(hp:pI=(npl:Int))(ho:w'.ownsRow B 9 1 (J a' k l8) k (Aq stk)):Cd B is ys s w' (H (Ds pI (J a' k l8) ((s.steps:Int)+1) s.looks)):=by
 subst hk
 subst hp
 exact Or.inr (Or.inl ⟨_,h,a',l8,rfl,ho⟩)
end Go.Proofs.YtbkkjodaaijimaaGreatDoor
