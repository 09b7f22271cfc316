import Derived.Test.YtbkkjodaaijimaaGreatDoorTNWork2
namespace Go.Proofs.YtbkkjodaaijimaaGreatDoor
open _root_.Go.Proofs.Tryz Go.RowKit
open Option renaming some->M,none->N
open Value renaming string->S,bool->F,agg->G,pointer->D
open Obj renaming cells->O
open Go renaming Value->Z,World->E
open Ending renaming returned->H
open _root_ renaming List->L,Nat->X
set_option linter.unusedVariables false
set_option maxHeartbeats 8000000
set_option maxRecDepth 100000
set_option linter.unusedSimpArgs false
variable {B m:X} {w w':E} {ss:L By} {cd:Z} {pl st:Int}
theorem put_keep(b:X)(cs:Array Z)(B m:X)(ss:L By)(cd:Z)(pl st lk:Int)(t:By)(w:E)(hM:Bx B w m ss cd pl st lk)(hB:B<=w.heap.size)(h1:t.size<=2000)(h2:ss.length<50)(hbk:w.heap[b]?=M (O cs 143 (0,0)))(zx:b≠m):Calls prog 190 #[D (p_ m),S t] w λe w'=>e=H (F true)/\KB B m w w'/\Bx B w' m (ss++[t]) cd pl st lk/\w'.heap[b]?=M (O cs 143 (0,0)):=
 (Gh B m ss cd pl st lk t w hM hB h1 h2).mono λe w' ⟨k1,k2,k3⟩=>⟨k1,k2,k3,k2.keep b cs 143 qd zx hbk⟩
theorem work_cut(B m:X)(r:L By)(x:By)(cd:Z)(pl st lk:Int)(t:By)(n:X)(w:E)(hM:Bx B w m (r++[x]) cd pl st lk)(hB:B<=w.heap.size)(vq:0<=pl)(ja:pl<=2000)(hn:n<=2000)(h2:r.length+1<=50)(hx:x.size<=2000)(z:X)(hmin:min (n:Int) (x.size:Int)=(z:Int))(hpc:(x.extract 0 z).size<=2000):Calls prog 189 #[D (p_ m),G #[I 3,S t,I n]] w λe w'=>e=H (F true)/\KB B m w w'/\Bx B w' m (r++[x.extract 0 z]) cd (pl+1) st lk:=by
 have fc:Bw w (w.alloc (O #[I 3,S t,I n] 143)):=aN _ _
 have sj:=hM.cell2.2.2.1
 have fa:=hM.bl fc
 obtain⟨c2,f2,pn,jj⟩:=fa.cell2
 have d9:B<=(w.alloc (O #[I 3,S t,I n] 143)).heap.size:=qh
 have HP:Hd (∀W:E,Bx B W m r cd pl st lk->B<=W.heap.size->W.heap[w.heap.size]?=M (O #[I 3,S t,I n] 143 (0,0))->Calls prog 190 #[D (p_ m),S (x.extract 0 z)] W λe w'=>e=H (F true)/\KB B m W w'/\Bx B w' m (r++[x.extract 0 z]) cd pl st lk/\w'.heap[w.heap.size]?=M (O #[I 3,S t,I n] 143 (0,0))):=λW h1 h2 h3=>put_keep w.heap.size _ B m r cd pl st lk (x.extract 0 z) W h1 h2 hpc qb h3 qb
 have HT:Hd (Calls prog 188 #[D (p_ m)] (w.alloc (O #[I 3,S t,I n] 143)) λe w'=>e=H (S x)/\KB B m (w.alloc (O #[I 3,S t,I n] 143)) w'/\Bx B w' m r cd pl st lk/\∀b,b≠m->w'.heap[b]?=(w.alloc (O #[I 3,S t,I n] 143)).heap[b]?):=Cg B m r x cd pl st lk _ fa d9 qb
 have HBA:Hd (Bw w (w.alloc (O #[I 3,S t,I n] 143))):=fc
 clear hM fa fc hpc
 go_enter func189,ntmps189
 go_wp2_with (first|(go_at_call 188;refine(HT.o).mono ?_;rintro e w1 ⟨rfl,af,jn,cq⟩))
 have gj:B<=w1.heap.size:=Nat.le_trans d9 af.size
 have Ge:w1.heap[w.heap.size]?=M (O #[I 3,S t,I n] 143 (0,0)):=by rw[cq w.heap.size qb,Bf]
 have cn:=cK Ge 2
 have du:Hd (w1.heap[w.heap.size]?=M (O #[I 3,S t,I n] 143 (0,0))):=Ge
 have ku:Hd (Bx B w1 m r cd pl st lk):=jn
 have bg:z<=x.size:=qb
 have bv:z<=n:=qb
 clear cq jn HT Ge
 have hn0:(0:Int)<=(n:Int):=qb
 have hnI:(z:Int)<=(x.size:Int):=qb
 go_region_held3 (λw'=>w'.cell? ⟨w.heap.size,2,N⟩=M (I (n:Int)))
  (first|assumption|(simp[*];done)|(rw[cH jx];rfl))
  (first|(go_at_call 190;refine(HP.o _ ?_ ?_ ?_).mono ?_;(focus(exact ku.o.bl (Below.refl _ _).drew));(focus(simpa using gj));(focus(exact du.o));rintro e w2 ⟨rfl,ag,ji,jx⟩))
 all_goals
  obtain⟨d2,e2,_,_⟩:=ji.cell2;have B5:Hd (Bx B w2 m (r++[x.extract 0 z]) cd pl st lk):=ji;exact qks
theorem work_rest(B m:X)(r:L By)(x:By)(cd:Z)(pl st lk:Int)(t:By)(n:X)(w:E)(hM:Bx B w m (r++[x]) cd pl st lk)(hB:B<=w.heap.size)(vq:0<=pl)(ja:pl<=2000)(hn:n<=2000)(h2:r.length+1<=50)(hx:x.size<=2000)(z:X)(hmin:min (n:Int) (x.size:Int)=(z:Int))(hpc:(x.extract z x.size).size<=2000):Calls prog 189 #[D (p_ m),G #[I 4,S t,I n]] w λe w'=>e=H (F true)/\KB B m w w'/\Bx B w' m (r++[x.extract z x.size]) cd (pl+1) st lk:=by
 have fc:Bw w (w.alloc (O #[I 4,S t,I n] 143)):=aN _ _
 have sj:=hM.cell2.2.2.1
 have fa:=hM.bl fc
 obtain⟨c2,f2,pn,jj⟩:=fa.cell2
 have d9:B<=(w.alloc (O #[I 4,S t,I n] 143)).heap.size:=qh
 have HP:Hd (∀W:E,Bx B W m r cd pl st lk->B<=W.heap.size->W.heap[w.heap.size]?=M (O #[I 4,S t,I n] 143 (0,0))->Calls prog 190 #[D (p_ m),S (x.extract z x.size)] W λe w'=>e=H (F true)/\KB B m W w'/\Bx B w' m (r++[x.extract z x.size]) cd pl st lk/\w'.heap[w.heap.size]?=M (O #[I 4,S t,I n] 143 (0,0))):=λW h1 h2 h3=>put_keep w.heap.size _ B m r cd pl st lk (x.extract z x.size) W h1 h2 hpc qb h3 qb
 have HT:Hd (Calls prog 188 #[D (p_ m)] (w.alloc (O #[I 4,S t,I n] 143)) λe w'=>e=H (S x)/\KB B m (w.alloc (O #[I 4,S t,I n] 143)) w'/\Bx B w' m r cd pl st lk/\∀b,b≠m->w'.heap[b]?=(w.alloc (O #[I 4,S t,I n] 143)).heap[b]?):=Cg B m r x cd pl st lk _ fa d9 qb
 have HBA:Hd (Bw w (w.alloc (O #[I 4,S t,I n] 143))):=fc
 clear hM fa fc hpc
 go_enter func189,ntmps189
 go_wp2_with (first|(go_at_call 188;refine(HT.o).mono ?_;rintro e w1 ⟨rfl,af,jn,cq⟩))
 have gj:B<=w1.heap.size:=Nat.le_trans d9 af.size
 have Ge:w1.heap[w.heap.size]?=M (O #[I 4,S t,I n] 143 (0,0)):=by rw[cq w.heap.size qb,Bf]
 have cn:=cK Ge 2
 have du:Hd (w1.heap[w.heap.size]?=M (O #[I 4,S t,I n] 143 (0,0))):=Ge
 have ku:Hd (Bx B w1 m r cd pl st lk):=jn
 have bg:z<=x.size:=qb
 have bv:z<=n:=qb
 clear cq jn HT Ge
 have hn0:(0:Int)<=(n:Int):=qb
 have hnI:(z:Int)<=(x.size:Int):=qb
 go_region_held3 (λw'=>w'.cell? ⟨w.heap.size,2,N⟩=M (I (n:Int)))
  (first|assumption|(simp[*];done)|(rw[cH jx];rfl))
  (first|(go_at_call 190;refine(HP.o _ ?_ ?_ ?_).mono ?_;(focus(exact ku.o.bl (Below.refl _ _).drew));(focus(simpa using gj));(focus(exact du.o));rintro e w2 ⟨rfl,ag,ji,jx⟩))
 all_goals
  obtain⟨d2,e2,_,_⟩:=ji.cell2;have B5:Hd (Bx B w2 m (r++[x.extract z x.size]) cd pl st lk):=ji;exact qks
theorem work_word(B m:X)(r:L By)(x:By)(cd:Z)(pl st lk:Int)(t:By)(n:X)(w:E)(hM:Bx B w m (r++[x]) cd pl st lk)(hB:B<=w.heap.size)(vq:0<=pl)(ja:pl<=2000)(hn:n<=2000)(h2:r.length+1<=50)(hx:x.size<=2000)(hpc:(Kr x n).size<=2000):Calls prog 189 #[D (p_ m),G #[I 5,S t,I n]] w λe w'=>e=H (F true)/\KB B m w w'/\Bx B w' m (r++[Kr x n]) cd (pl+1) st lk:=by
 have fc:Bw w (w.alloc (O #[I 5,S t,I n] 143)):=aN _ _
 have sj:=hM.cell2.2.2.1
 have fa:=hM.bl fc
 obtain⟨c2,f2,pn,jj⟩:=fa.cell2
 have d9:B<=(w.alloc (O #[I 5,S t,I n] 143)).heap.size:=qh
 go_enter func189,ntmps189
 go_wp2_with fail
 go_region_with (first|(go_at_call 198;refine(wordAt_any x n _ hx hn).mono ?_;rintro e w9 ⟨rfl,rfl⟩)|(go_at_call 188;refine(Cg B m (r) x cd pl st lk _ ?_ ?_ ?_).mono ?_;(focus(exact fa));(focus(exact d9));(focus(first|omega|(simp;omega)));rintro e w1 ⟨rfl,af,jn,cq⟩;have gj:B<=w1.heap.size:=(Nat.le_trans d9 af.size);obtain⟨dd1,ee1,_,_⟩:=jn.cell2;have cn:w1.cell? ⟨w.heap.size,2,N⟩=M (I (n:Int)):=(by rw[World.cell?_of_block (cq w.heap.size qb)];simp[go_sem]);clear cq)|(go_at_call 190;refine(Gh B m (r) cd pl st lk (Kr x n) _ ?_ ?_ hpc ?_).mono ?_;(focus(exact jn));(focus(exact gj));(focus(first|omega|(simp;omega)));rintro e w2 ⟨rfl,ag,ji⟩;have nj:B<=w2.heap.size:=(Nat.le_trans gj ag.size);obtain⟨dd2,ee2,_,_⟩:=ji.cell2))
 all_goals
  go_wp2;go_ret;exact⟨rfl,(((KB.old fc hB).drew.trans af).trans ag).setM 2 jj _,ji.place _⟩
theorem work_same(B m:X)(r:L By)(x y:By)(cd:Z)(pl st lk:Int)(t:By)(n:X)(w:E)(hM:Bx B w m (r++[x]++[y]) cd pl st lk)(hB:B<=w.heap.size)(vq:0<=pl)(ja:pl<=2000)(hn:n<=2000)(h2:r.length+2<=50)(hx:x.size<=2000)(hy:y.size<=2000)(hf:(Cl (x.toList == y.toList)).size<=2000):Calls prog 189 #[D (p_ m),G #[I 6,S t,I n]] w λe w'=>e=H (F true)/\KB B m w w'/\Bx B w' m (r++[Cl (x.toList == y.toList)]) cd (pl+1) st lk:=by
 have fc:Bw w (w.alloc (O #[I 6,S t,I n] 143)):=aN _ _
 have sj:=hM.cell2.2.2.1
 have fa:=hM.bl fc
 obtain⟨c2,f2,pn,jj⟩:=fa.cell2
 have d9:B<=(w.alloc (O #[I 6,S t,I n] 143)).heap.size:=qh
 go_enter func189,ntmps189
 go_wp2_with fail
 go_region_with (first|(go_at_call 188;refine(Cg B m (r) x cd pl st lk _ ?_ ?_ ?_).mono ?_;(focus(exact jn));(focus(exact gj));(focus(first|omega|(simp;omega)));rintro e w2 ⟨rfl,ag,ji,iw⟩;have nj:B<=w2.heap.size:=(Nat.le_trans gj ag.size);obtain⟨dd2,ee2,_,_⟩:=ji.cell2;clear iw)|(go_at_call 188;refine(Cg B m (r++[x]) y cd pl st lk _ ?_ ?_ ?_).mono ?_;(focus(exact fa));(focus(exact d9));(focus(first|omega|(simp;omega)));rintro e w1 ⟨rfl,af,jn,cq⟩;have gj:B<=w1.heap.size:=(Nat.le_trans d9 af.size);obtain⟨dd1,ee1,_,_⟩:=jn.cell2;clear cq))
 all_goals
  go_wp2_with fail
  go_region_with (first|(go_at_call 179;refine(Qk _ _).mono ?_;rintro e w9 ⟨rfl,rfl⟩)|(go_at_call 190;refine(Gh B m (r) cd pl st lk (Cl (x.toList == y.toList)) _ ?_ ?_ hf ?_).mono ?_;(focus(exact ji));(focus(exact nj));(focus(first|omega|(simp;omega)));rintro e w3 ⟨rfl,ba,Y1⟩;have B8:B<=w3.heap.size:=(Nat.le_trans nj ba.size);obtain⟨dd3,ee3,_,_⟩:=Y1.cell2))
  all_goals
   go_wp2;go_ret;exact⟨rfl,(((KB.old fc hB).drew.trans af).trans (ag.trans ((KB.refl _ _ _).drew.trans ba))).setM 2 jj _,Y1.place _⟩
theorem Zq(B m:X)(r:L By)(x:By)(cd:Z)(pl st lk:Int)(t:By)(n:X)(w:E)(hM:Bx B w m (r++[x]) cd pl st lk)(hB:B<=w.heap.size)(vq:0<=pl)(ja:pl<=2000)(hn:n<=2000)(h2:r.length+2<=50)(hx:x.size<=2000):Calls prog 189 #[D (p_ m),G #[I 7,S t,I n]] w λe w'=>e=H (F true)/\KB B m w w'/\Bx B w' m (r++[x]++[x]) cd (pl+1) st lk:=by
 have fc:Bw w (w.alloc (O #[I 7,S t,I n] 143)):=aN _ _
 have sj:=hM.cell2.2.2.1
 have fa:=hM.bl fc
 obtain⟨c2,f2,pn,jj⟩:=fa.cell2
 have d9:B<=(w.alloc (O #[I 7,S t,I n] 143)).heap.size:=qh
 go_enter func189,ntmps189
 go_wp2_with (first|(go_at_call 188;refine(Cg B m (r) x cd pl st lk _ ?_ ?_ ?_).mono ?_;(focus(exact fa));(focus(exact d9));(focus(first|omega|(simp;omega)));rintro e w1 ⟨rfl,af,jn,cq⟩;have gj:B<=w1.heap.size:=(Nat.le_trans d9 af.size);obtain⟨dd1,ee1,_,_⟩:=jn.cell2;clear cq)|(go_at_call 190;refine(Gh B m (r++[x]) cd pl st lk (x) _ ?_ ?_ hx ?_).mono ?_;(focus(exact ji));(focus(exact nj));(focus(first|omega|(simp;omega)));rintro e w3 ⟨rfl,ba,Y1⟩;have B8:B<=w3.heap.size:=(Nat.le_trans nj ba.size);obtain⟨dd3,ee3,_,_⟩:=Y1.cell2)|(go_at_call 190;refine(Gh B m (r) cd pl st lk (x) _ ?_ ?_ hx ?_).mono ?_;(focus(exact jn));(focus(exact gj));(focus(first|omega|(simp;omega)));rintro e w2 ⟨rfl,ag,ji⟩;have nj:B<=w2.heap.size:=(Nat.le_trans gj ag.size);obtain⟨dd2,ee2,_,_⟩:=ji.cell2))
 go_ret
 exact⟨rfl,(((KB.old fc hB).trans af).trans (ag.trans ba)).setM 2 jj _,Y1.place _⟩
theorem Zr(B m:X)(r:L By)(x:By)(cd:Z)(pl st lk:Int)(t:By)(n:X)(w:E)(hM:Bx B w m (r++[x]) cd pl st lk)(hB:B<=w.heap.size)(vq:0<=pl)(ja:pl<=2000)(hn:n<=2000)(h2:r.length+1=50)(hx:x.size<=2000):Calls prog 189 #[D (p_ m),G #[I 7,S t,I n]] w λe w'=>e=H (F false)/\KB B m w w'/\Bx B w' m (r++[x]) cd pl st lk:=by
 have fc:Bw w (w.alloc (O #[I 7,S t,I n] 143)):=aN _ _
 have sj:=hM.cell2.2.2.1
 have fa:=hM.bl fc
 obtain⟨c2,f2,pn,jj⟩:=fa.cell2
 have d9:B<=(w.alloc (O #[I 7,S t,I n] 143)).heap.size:=qh
 go_enter func189,ntmps189
 go_wp2_with (first|(go_at_call 188;refine(Cg B m (r) x cd pl st lk _ ?_ ?_ ?_).mono ?_;(focus(exact fa));(focus(exact d9));(focus(first|omega|(simp;omega)));rintro e w1 ⟨rfl,af,jn,cq⟩;have gj:B<=w1.heap.size:=(Nat.le_trans d9 af.size);obtain⟨dd1,ee1,_,_⟩:=jn.cell2;clear cq)|(go_at_call 190;refine(put_no B m (r++[x]) cd pl st lk (x) _ ?_ ?_ ?_ ?_).mono ?_;(focus(exact ji));(focus(first|omega|(simp;omega)));(focus(first|omega|(simp;omega)));(focus(right;simp;omega));rintro e w3 ⟨rfl,rfl⟩)|(go_at_call 190;refine(Gh B m (r) cd pl st lk (x) _ ?_ ?_ hx ?_).mono ?_;(focus(exact jn));(focus(exact gj));(focus(first|omega|(simp;omega)));rintro e w2 ⟨rfl,ag,ji⟩;have nj:B<=w2.heap.size:=(Nat.le_trans gj ag.size);obtain⟨dd2,ee2,_,_⟩:=ji.cell2))
 go_ret
 exact⟨rfl,(((KB.old fc hB).trans af).trans ag),ji⟩
theorem work_swap(B m:X)(r:L By)(x y:By)(cd:Z)(pl st lk:Int)(t:By)(n:X)(w:E)(hM:Bx B w m (r++[x]++[y]) cd pl st lk)(hB:B<=w.heap.size)(vq:0<=pl)(ja:pl<=2000)(hn:n<=2000)(h2:r.length+2<=50)(hx:x.size<=2000)(hy:y.size<=2000):Calls prog 189 #[D (p_ m),G #[I 8,S t,I n]] w λe w'=>e=H (F true)/\KB B m w w'/\Bx B w' m (r++[y]++[x]) cd (pl+1) st lk:=by
 have fc:Bw w (w.alloc (O #[I 8,S t,I n] 143)):=aN _ _
 have fa:=hM.bl fc
 obtain⟨c2,f2,pn,jj⟩:=fa.cell2
 have d9:B<=(w.alloc (O #[I 8,S t,I n] 143)).heap.size:=qh
 have HBA:Hd (Bw w (w.alloc (O #[I 8,S t,I n] 143))):=fc
 have xu:Hd (Bx B (w.alloc (O #[I 8,S t,I n] 143)) m (r++[x]++[y]) cd pl st lk):=fa
 clear hM fa fc
 go_enter func189,ntmps189
 go_wp2_with fail
 go_region_held3 (λw'=>B<=w'.heap.size)
  (first|assumption|(simpa using d9)|exact Nat.le_trans gj ag.size|exact Nat.le_trans d9 (by simpa using af.size))
  (first|(go_at_call 188;refine(Cg B m (r) x cd pl st lk _ ?_ ?_ ?_).mono ?_;(focus(exact ku.o));(focus(exact gj));(focus(omega));rintro e w2 ⟨rfl,ag,ji,iw⟩;have B5:Hd (Bx B w2 m r cd pl st lk):=ji;clear ji iw)|(go_at_call 188;refine(Cg B m (r++[x]) y cd pl st lk _ ?_ ?_ ?_).mono ?_;(focus(exact xu.o.bl (Below.refl _ _).drew));(focus(simpa using d9));(focus(simp;omega));rintro e w1 ⟨rfl,af,jn,cq⟩;have gj:B<=w1.heap.size:=(Nat.le_trans d9 (by simpa using af.size));have ku:Hd (Bx B w1 m (r++[x]) cd pl st lk):=jn;clear jn cq))
 have nj:B<=w2.heap.size:=Nat.le_trans gj ag.size
 have be:KB B m w w2:=((KB.old HBA.o hB).drew.trans af).trans ag
 clear af ag xu ku
 go_wp2_with fail
 refine(Gh B m r cd pl st lk y _ B5.o nj hy qb).mono ?_
 rintro e w3 ⟨rfl,ba,Y1⟩
 have HM4:Hd (Bx B w3 m (r++[y]) cd pl st lk):=Y1
 have B8:B<=w3.heap.size:=Nat.le_trans nj ba.size
 have ij:=be.trans ba
 clear Y1 B5 ba be
 go_wp2_with fail
 refine(Gh B m (r++[y]) cd pl st lk x _ HM4.o B8 hx qh).mono ?_
 rintro e w4 ⟨rfl,co,hM5⟩
 obtain⟨d2,e2,_,_⟩:=hM5.cell2
 have HM5:Hd (Bx B w4 m (r++[y]++[x]) cd pl st lk):=hM5
 have ii:=ij.trans co
 clear hM5 HM4 co ij
 go_wp2
 go_ret
 exact⟨rfl,ii.setM 2 jj _,HM5.o.place _⟩
section
theorem Jt(x:By)(a b:X):(x.extract a b).size<=x.size:=by rw[ByteArray.size_extract];omega
theorem Pg(s:By):∀(d n st i:X),s.size-i<=d->(Bh s n st i).size<=s.size
 | 0,n,st,i,h=>by
  rw[Ym qb];split
  ·exact Jt _ _ _
  ·exact Nat.zero_le _
 | d+1,n,st,i,h=>by
  by_cases hi:i<s.size
  ·by_cases hg:Qo s[i]=true
   ·by_cases de:st<i
    ·by_cases hn:n=0
     ·subst hn;rw[Yl hi hg de];exact Jt _ _ _
     ·rw[Yk hi hg de hn];exact Pg s d _ _ _ qb
    ·rw[Yj hi hg de];exact Pg s d _ _ _ qb
   ·rw[pf_in hi (by simpa using hg)];exact Pg s d _ _ _ qb
  ·rw[Ym hi];split
   ·exact Jt _ _ _
   ·exact Nat.zero_le _
theorem Ua(b:Bool):(Cl b).size=1:=by cases b<;>rfl
theorem split0(l:L By):Bl l 0=l:=by simp[Bl]
theorem Jn{l:L By}(h:1<=l.length):l=Bl l 1++[Bq l]:=by
 unfold Bl Bq
 have e:l.take (l.length-1+1)=l.take (l.length-1)++[l[l.length-1]]:=List.take_succ_eq_append_getElem qb
 rw[gG,Ix (show l.length-1<l.length from qb),Option.getD_some,<- e,List.take_of_length_le qb]
theorem split2{l:L By}(h:2<=l.length):l=Bl l 2++[Iy l]++[Bq l]:=by
 have h1:=Jn (l:=l) qb
 have e:l.take (l.length-2+1)=l.take (l.length-2)++[l[l.length-2]]:=List.take_succ_eq_append_getElem qb
 have h2:Bl l 1=Bl l 2++[Iy l]:=by
  unfold Bl Iy;rw[gG,Ix (show l.length-2<l.length from qb),Option.getD_some,<- e];congr 1;omega
 rw[<- h2];exact h1
theorem Bj(l:L By)(k:X):(Bl l k).length=l.length-k:=by simp[Bl]
theorem Gx{l:L By}(h:1<=l.length):Bq l∈l:=by
 unfold Bq
 rw[gG,Ix (show l.length-1<l.length from qb),Option.getD_some]
 exact List.getElem_mem _
theorem Xy{l:L By}(h:2<=l.length):Iy l∈l:=by
 unfold Iy
 rw[gG,Ix (show l.length-2<l.length from qb),Option.getD_some]
 exact List.getElem_mem _
def Su(o:X)(t:By)(n:X)(l:L By):Prop:=50<(Bl l (Ax o)).length+(Cr o t n (Bq l) (Iy l)).length\/∃x∈Cr o t n (Bq l) (Iy l),2000<x.size
def Cj(o:X)(t:By)(n:X)(l:L By)(B m:X)(cd:Z)(pl:X)(st lk:Int)(w:E)(e:Ending)(w':E):Prop:=
 KB B m w w'/\((e=H (F true)/\¬ Su o t n l/\Bx B w' m (Bl l (Ax o)++Cr o t n (Bq l) (Iy l)) cd (Ev o n pl (Bq l):X) st lk)\/(e=H (F false)/\Su o t n l/\∃ss,Bx B w' m ss cd pl st lk))
variable (B m:X) (l:L By) (cd:Z) (pl:X) (st lk:Int) (t:By) (n:X) (w:E)
theorem Eg{o n pl:X}{a:By}(h:o≠10)(h2:o≠11):Ev o n pl a=pl+1:=by simp[Ev,h,h2]
theorem work_1(hM:Bx B w m l cd pl st lk)(hB:B<=w.heap.size)(ja:pl<=200)(hn:n<=2000)(dh:l.length<=50)(cz:∀x∈l,x.size<=2000)(ht:t.size<=2000):Calls prog 189 #[D (p_ m),G #[I 1,S t,I n]] w λe w'=>Cj 1 t n l B m cd pl st lk w e w':=by
 unfold Cj Su
 rw[show Ax 1=0 from rfl,split0]
 by_cases h:l.length<50
 ·refine(Zo B m l cd pl st lk t n w hM hB ht h qb qb).mono λe w' ⟨h1,h2,h3⟩=>⟨h2,Or.inl ⟨h1,?_,by rw[Eg qd qd];exact h3⟩⟩;simp[Cr];omega
 ·refine(Zp B m l cd pl st lk t n w hM hB qb qb hn ht qb).mono λe w' ⟨h1,h2,h3⟩=>⟨h2,Or.inr ⟨h1,?_,_,h3⟩⟩;simp[Cr];omega
theorem work_2(hM:Bx B w m l cd pl st lk)(hB:B<=w.heap.size)(ja:pl<=200)(hn:n<=2000)(dh:l.length<=50)(cz:∀x∈l,x.size<=2000)(fe:2<=l.length):Calls prog 189 #[D (p_ m),G #[I 2,S t,I n]] w λe w'=>Cj 2 t n l B m cd pl st lk w e w':=by
 have hs:=split2 fe
 have hr:=Bj l 2
 have hx:=cz _ (Gx (show 1<=l.length from qb))
 have hy:=cz _ (Xy fe)
 unfold Cj Su
 rw[show Ax 2=2 from rfl]
 rw[hs]at hM
 revert hM hr hx hy
 generalize Bl l 2=r
 generalize Bq l=y
 generalize Iy l=x
 intro hM hr hx hy
 have hc:(x++y).size=x.size+y.size:=ByteArray.size_append
 by_cases h:(x++y).size<=2000
 ·refine(Zs B m r x y cd pl st lk t n w hM hB qb qb hn qb hy hx h).mono λe w' ⟨h1,h2,h3⟩=>⟨h2,Or.inl ⟨h1,?_,by rw[Eg qd qd];exact h3⟩⟩;simp[Cr];omega
 ·refine(Zt B m r x y cd pl st lk t n w hM hB qb qb hn qb hy hx qb qb).mono λe w' ⟨h1,h2,h3⟩=>⟨h2,Or.inr ⟨h1,?_,_,h3⟩⟩;simp[Cr];omega
theorem work_3(hM:Bx B w m l cd pl st lk)(hB:B<=w.heap.size)(ja:pl<=200)(hn:n<=2000)(dh:l.length<=50)(cz:∀x∈l,x.size<=2000)(fe:1<=l.length):Calls prog 189 #[D (p_ m),G #[I 3,S t,I n]] w λe w'=>Cj 3 t n l B m cd pl st lk w e w':=by
 have hs:=Jn fe
 have hr:=Bj l 1
 have hx:=cz _ (Gx fe)
 unfold Cj Su
 rw[show Ax 3=1 from rfl]
 rw[hs]at hM
 revert hM hr hx
 generalize Bl l 1=r
 generalize Bq l=x
 intro hM hr hx
 have hpc:=Jt x 0 (min n x.size)
 refine(work_cut B m r x cd pl st lk t n w hM hB qb qb hn qb hx (min n x.size) qb qb).mono λe w' ⟨h1,h2,h3⟩=>⟨h2,Or.inl ⟨h1,?_,by rw[Eg qd qd];exact h3⟩⟩
 exact qdf
theorem work_4(hM:Bx B w m l cd pl st lk)(hB:B<=w.heap.size)(ja:pl<=200)(hn:n<=2000)(dh:l.length<=50)(cz:∀x∈l,x.size<=2000)(fe:1<=l.length):Calls prog 189 #[D (p_ m),G #[I 4,S t,I n]] w λe w'=>Cj 4 t n l B m cd pl st lk w e w':=by
 have hs:=Jn fe
 have hr:=Bj l 1
 have hx:=cz _ (Gx fe)
 unfold Cj Su
 rw[show Ax 4=1 from rfl]
 rw[hs]at hM
 revert hM hr hx
 generalize Bl l 1=r
 generalize Bq l=x
 intro hM hr hx
 have hpc:=Jt x (min n x.size) x.size
 refine(work_rest B m r x cd pl st lk t n w hM hB qb qb hn qb hx (min n x.size) qb qb).mono λe w' ⟨h1,h2,h3⟩=>⟨h2,Or.inl ⟨h1,?_,by rw[Eg qd qd];exact h3⟩⟩
 exact qdf
theorem work_5(hM:Bx B w m l cd pl st lk)(hB:B<=w.heap.size)(ja:pl<=200)(hn:n<=2000)(dh:l.length<=50)(cz:∀x∈l,x.size<=2000)(fe:1<=l.length):Calls prog 189 #[D (p_ m),G #[I 5,S t,I n]] w λe w'=>Cj 5 t n l B m cd pl st lk w e w':=by
 have hs:=Jn fe
 have hr:=Bj l 1
 have hx:=cz _ (Gx fe)
 unfold Cj Su
 rw[show Ax 5=1 from rfl]
 rw[hs]at hM
 revert hM hr hx
 generalize Bl l 1=r
 generalize Bq l=x
 intro hM hr hx
 have hpc:(Kr x n).size<=x.size:=Pg x x.size n 0 0 qb
 refine(work_word B m r x cd pl st lk t n w hM hB qb qb hn qb hx qb).mono λe w' ⟨h1,h2,h3⟩=>⟨h2,Or.inl ⟨h1,?_,by rw[Eg qd qd];exact h3⟩⟩
 exact qdf
theorem work_6(hM:Bx B w m l cd pl st lk)(hB:B<=w.heap.size)(ja:pl<=200)(hn:n<=2000)(dh:l.length<=50)(cz:∀x∈l,x.size<=2000)(fe:2<=l.length):Calls prog 189 #[D (p_ m),G #[I 6,S t,I n]] w λe w'=>Cj 6 t n l B m cd pl st lk w e w':=by
 have hs:=split2 fe
 have hr:=Bj l 2
 have hx:=cz _ (Gx (show 1<=l.length from qb))
 have hy:=cz _ (Xy fe)
 unfold Cj Su
 rw[show Ax 6=2 from rfl]
 rw[hs]at hM
 revert hM hr hx hy
 generalize Bl l 2=r
 generalize Bq l=y
 generalize Iy l=x
 intro hM hr hx hy
 have hf:=Ua (x.toList == y.toList)
 refine(work_same B m r x y cd pl st lk t n w hM hB qb qb hn qb hy hx qb).mono λe w' ⟨h1,h2,h3⟩=>⟨h2,Or.inl ⟨h1,?_,by rw[Eg qd qd];exact h3⟩⟩
 exact qdf
theorem work_7(hM:Bx B w m l cd pl st lk)(hB:B<=w.heap.size)(ja:pl<=200)(hn:n<=2000)(dh:l.length<=50)(cz:∀x∈l,x.size<=2000)(fe:1<=l.length):Calls prog 189 #[D (p_ m),G #[I 7,S t,I n]] w λe w'=>Cj 7 t n l B m cd pl st lk w e w':=by
 have hs:=Jn fe
 have hr:=Bj l 1
 have hx:=cz _ (Gx fe)
 unfold Cj Su
 rw[show Ax 7=1 from rfl]
 rw[hs]at hM
 revert hM hr hx
 generalize Bl l 1=r
 generalize Bq l=x
 intro hM hr hx
 by_cases h:r.length+2<=50
 ·refine(Zq B m r x cd pl st lk t n w hM hB qb qb hn h hx).mono λe w' ⟨h1,h2,h3⟩=>⟨h2,Or.inl ⟨h1,?_,by rw[Eg qd qd];simpa [Cr] using h3⟩⟩;simp[Cr];omega
 ·refine(Zr B m r x cd pl st lk t n w hM hB qb qb hn qb hx).mono λe w' ⟨h1,h2,h3⟩=>⟨h2,Or.inr ⟨h1,?_,_,h3⟩⟩;simp[Cr];omega
theorem work_8(hM:Bx B w m l cd pl st lk)(hB:B<=w.heap.size)(ja:pl<=200)(hn:n<=2000)(dh:l.length<=50)(cz:∀x∈l,x.size<=2000)(fe:2<=l.length):Calls prog 189 #[D (p_ m),G #[I 8,S t,I n]] w λe w'=>Cj 8 t n l B m cd pl st lk w e w':=by
 have hs:=split2 fe
 have hr:=Bj l 2
 have hx:=cz _ (Gx (show 1<=l.length from qb))
 have hy:=cz _ (Xy fe)
 unfold Cj Su
 rw[show Ax 8=2 from rfl]
 rw[hs]at hM
 revert hM hr hx hy
 generalize Bl l 2=r
 generalize Bq l=y
 generalize Iy l=x
 intro hM hr hx hy
 refine(work_swap B m r x y cd pl st lk t n w hM hB qb qb hn qb hy hx).mono λe w' ⟨h1,h2,h3⟩=>⟨h2,Or.inl ⟨h1,?_,by rw[Eg qd qd];simpa [Cr] using h3⟩⟩
 simp[Cr];omega
theorem work_9(hM:Bx B w m l cd pl st lk)(hB:B<=w.heap.size)(ja:pl<=200)(hn:n<=2000)(dh:l.length<=50)(cz:∀x∈l,x.size<=2000)(fe:1<=l.length):Calls prog 189 #[D (p_ m),G #[I 9,S t,I n]] w λe w'=>Cj 9 t n l B m cd pl st lk w e w':=by
 have hs:=Jn fe
 have hr:=Bj l 1
 have hx:=cz _ (Gx fe)
 unfold Cj Su
 rw[show Ax 9=1 from rfl]
 rw[hs]at hM
 revert hM hr hx
 generalize Bl l 1=r
 generalize Bq l=x
 intro hM hr hx
 refine(work_drop B m r x cd pl st lk t n w hM hB qb qb hn qb).mono λe w' ⟨h1,h2,h3⟩=>⟨h2,Or.inl ⟨h1,?_,by rw[Eg qd qd];simpa [Cr] using h3⟩⟩
 simp[Cr];omega
theorem work_10(hM:Bx B w m l cd pl st lk)(hB:B<=w.heap.size)(ja:pl<=200)(hn:n<=2000)(dh:l.length<=50)(cz:∀x∈l,x.size<=2000):Calls prog 189 #[D (p_ m),G #[I 10,S t,I n]] w λe w'=>Cj 10 t n l B m cd pl st lk w e w':=by
 unfold Cj Su
 rw[show Ax 10=0 from rfl,split0]
 refine(work_jump B m l cd pl st lk t n w hM hB qb qb hn).mono λe w' ⟨h1,h2,h3⟩=>⟨h2,Or.inl ⟨h1,?_,by simpa [Cr,Ev] using h3⟩⟩
 simp[Cr];omega
theorem work_11(hM:Bx B w m l cd pl st lk)(hB:B<=w.heap.size)(ja:pl<=200)(hn:n<=2000)(dh:l.length<=50)(cz:∀x∈l,x.size<=2000)(fe:1<=l.length):Calls prog 189 #[D (p_ m),G #[I 11,S t,I n]] w λe w'=>Cj 11 t n l B m cd pl st lk w e w':=by
 have hs:=Jn fe
 have hr:=Bj l 1
 have hx:=cz _ (Gx fe)
 unfold Cj Su
 rw[show Ax 11=1 from rfl]
 rw[hs]at hM
 revert hM hr hx
 generalize Bl l 1=r
 generalize Bq l=x
 intro hM hr hx
 by_cases hx1:x.toList.isEmpty=true
 ·refine(Uv B m r x cd pl st lk t n w hM hB qb qb hn qb hx1).mono λe w' ⟨h1,h2,h3⟩=>⟨h2,Or.inl ⟨h1,?_,by simpa [Cr,Ev,Ls,hx1] using h3⟩⟩;simp[Cr];omega
 ·have hx1':x.toList.isEmpty=false:=by simpa using hx1
  by_cases hx2:(x.toList == [48])=true
  ·refine(Uu B m r x cd pl st lk t n w hM hB qb qb hn qb hx1' hx2).mono λe w' ⟨h1,h2,h3⟩=>⟨h2,Or.inl ⟨h1,?_,by
    (have e1:Ls x=true:=by simp only[Ls,hx2,Bool.or_true]);simpa [Cr,Ev,e1] using h3⟩⟩
   simp[Cr];omega
  ·have hx2':(x.toList == [48])=false:=by simpa using hx2
   refine(Ut B m r x cd pl st lk t n w hM hB qb qb hn qb hx1' hx2').mono λe w' ⟨h1,h2,h3⟩=>⟨h2,Or.inl ⟨h1,?_,by
    (have e1:Ls x=false:=by simp only[Ls,hx1',hx2',Bool.or_false]);simpa [Cr,Ev,e1] using h3⟩⟩
   simp[Cr];omega
theorem work_any(o:X)(hM:Bx B w m l cd pl st lk)(hB:B<=w.heap.size)(ja:pl<=200)(hn:n<=2000)(dh:l.length<=50)(cz:∀x∈l,x.size<=2000)(ht:t.size<=2000)(h1:1<=o)(h2:o<=11)(fe:Ax o<=l.length):Calls prog 189 #[D (p_ m),G #[I (o:Int),S t,I n]] w λe w'=>Cj o t n l B m cd pl st lk w e w':=by
 rcases(show o=1\/o=2\/o=3\/o=4\/o=5\/o=6\/o=7\/o=8\/o=9\/o=10\/o=11 from qb)with rfl|rfl|rfl|rfl|rfl|rfl|rfl|rfl|rfl|rfl|rfl
 ·exact work_1 B m l cd pl st lk t n w hM hB ja hn dh cz ht
 ·exact work_2 B m l cd pl st lk t n w hM hB ja hn dh cz fe
 ·exact work_3 B m l cd pl st lk t n w hM hB ja hn dh cz fe
 ·exact work_4 B m l cd pl st lk t n w hM hB ja hn dh cz fe
 ·exact work_5 B m l cd pl st lk t n w hM hB ja hn dh cz fe
 ·exact work_6 B m l cd pl st lk t n w hM hB ja hn dh cz fe
 ·exact work_7 B m l cd pl st lk t n w hM hB ja hn dh cz fe
 ·exact work_8 B m l cd pl st lk t n w hM hB ja hn dh cz fe
 ·exact work_9 B m l cd pl st lk t n w hM hB ja hn dh cz fe
 ·exact work_10 B m l cd pl st lk t n w hM hB ja hn dh cz
 ·exact work_11 B m l cd pl st lk t n w hM hB ja hn dh cz fe
end
theorem Kd.belowB(h:Kd w)(hb:Below B w w')(hB:2<B):Kd w':=λo ho=>
 ⟨(hb.cell (p:=⟨0,_,N⟩) (Nat.lt_of_le_of_lt (Nat.zero_le _) hB)).trans (h o ho).1,(hb.cell (p:=⟨0,_,N⟩) (Nat.lt_of_le_of_lt (Nat.zero_le _) hB)).trans (h o ho).2.1,(hb.cell (p:=⟨0,_,N⟩) (Nat.lt_of_le_of_lt (Nat.zero_le _) hB)).trans (h o ho).2.2⟩
theorem Bx.looks{lk:Int}(h:Bx B w m ss cd pl st lk)(p:Int):Bx B (w.setCell ⟨m,4,N⟩ (I p)) m ss cd pl st p:=by
 obtain⟨hB,v,hm,ho⟩:=h
 refine⟨hB,v,?_,?_⟩
 ·exact qdj
 ·have hne:=hm.ne' ho;refine⟨ho.1,?_⟩
  rcases ho.2 with h0|⟨g,cap,cur,hv,hg,hh,r⟩
  ·exact Or.inl h0
  ·refine Or.inr ⟨g,cap,cur,hv,hg,?_,r⟩;rw[hC w ⟨m,4,N⟩ _ g qck];exact hh
theorem Bx.cells{lk:Int}(h:Bx B w m ss cd pl st lk):w.cell? ⟨m,3,N⟩=M (I st)/\w.cell? ⟨m,4,N⟩=M (I lk)/\w.frozen? ⟨m,4,N⟩=false/\m<w.heap.size/\B<=m:=by
 obtain⟨hB,v,hm,ho⟩:=h
 exact⟨qbb,qbb,fH hm 4,hm.lt,hB⟩
theorem Bx.turn{lk:Int}{b:X}(h:Bx B w m ss cd pl st lk/\∃cs,w.heap[b]?=M (O cs 192 (0,0)))(j:X)(x:Z):Bx B (w.setCell ⟨b,j,N⟩ x) m ss cd pl st lk/\∃cs,(w.setCell ⟨b,j,N⟩ x).heap[b]?=M (O cs 192 (0,0)):=by
 obtain⟨⟨hB,v,hm,ho⟩,cs,hb⟩:=h
 have hmb:m≠b:=by
  rintro rfl;unfold Fm at hm;rw[hm]at hb;simp at hb
 refine⟨⟨hB,v,?_,ho.1,?_⟩,_,jB hb x⟩
 ·unfold Fm at *;rw[hC w ⟨b,j,N⟩ _ m hmb];exact hm
 ·rcases ho.2 with h0|⟨g,cap,cur,hv,hg,hh,r⟩
  ·exact Or.inl h0
  ·refine Or.inr ⟨g,cap,cur,hv,hg,?_,r⟩
   have o8:g≠b:=by
    rintro rfl;rw[hh]at hb;simp at hb
   rw[hC w ⟨b,j,N⟩ _ g o8];exact hh
theorem Wu(B m:X)(r:L By)(x:By)(cd:Z)(pl st lk:Int)(ask:Bool)(w:E)(hM:Bx B w m (r++[x]) cd pl st lk)(hB:B<=w.heap.size)(h2:r.length<50)(hx:x.size<=2000)(hn:Ar x)(hl0:0<=lk)(ws:lk<200):Calls prog 187 #[D (p_ m),F ask] w λe w'=>e=H (Bb false 0 ⟨#[]⟩ ask x st)/\KB B m w w'/\Bx B w' m r cd pl st (lk+1):=by
 have ig:=Cs hn
 have d1:(lk == 200)=false:=qh
 go_enter func187,ntmps187
 go_wp2_with fail
 have sj:=hM.cells.2.2.2.1
 have fc:Bw w (w.alloc (O #[F false,I 0,ze,F false,ze,I 0] 192)):=aN _ _
 refine(Cg B m r x cd pl st lk _ (hM.bl fc) qh h2).mono ?_
 rintro e w1 ⟨rfl,af,fa,cq⟩
 have aw:w1.heap[w.heap.size]?=M (O #[F false,I 0,ze,F false,ze,I 0] 192 (0,0)):=by
  rw[cq _ qb,Bf]
 obtain⟨k0,k1,k2,k3,k4,k5⟩:=Xd aw
 have f0:=fZ aw
 obtain⟨c3,c4,f4,_,jj⟩:=fa.cells
 have hne:m≠w.heap.size:=qb
 have hne':w.heap.size≠m:=qb
 have HM:Hd (Bx B (w1.setCell ⟨m,4,N⟩ (I (lk+1))) m r cd pl st (lk+1)/\∃cs,(w1.setCell ⟨m,4,N⟩ (I (lk+1))).heap[w.heap.size]?=M (O cs 192 (0,0))):=⟨fa.looks _,_,by rw[hC w1 ⟨m,4,N⟩ _ _ hne'];exact aw⟩
 have HB:Hd (KB B m w w1):=(KB.old fc hB).trans af
 clear fa cq aw hM fc af sj
 go_wp2_with (first|(go_at_call 126;refine(Df x _ qb).mono ?_;rintro e w9 ⟨rfl,rfl⟩))
 exact bR (v:=Bb false 0 ⟨#[]⟩ ask x st) qfr rfl ⟨rfl,((((((HB.o.setM 4 jj _).setN 0 hB _).setN 1 hB _).setN 2 hB _).setN 3 hB _).setN 4 hB _).setN 5 hB _,(Bx.turn (Bx.turn (Bx.turn (Bx.turn (Bx.turn (Bx.turn HM.o 0 _) 1 _) 2 _) 3 _) 4 _) 5 _).1⟩
theorem Lj.belowB(h:Lj w)(hb:Below B w w')(hB:2<B):Lj w':=by
 unfold Lj Lib.TabIs World.var? at *
 rw[show prog.globalNamed "internal/strconv.uint64pow10"=M 2 from qi]at *
 simp only[Option.bind_some]at *
 rw[hb.block 2 qb]
 exact h
theorem look_bad(B m:X)(r:L By)(x:By)(cd:Z)(pl st lk:Int)(ask:Bool)(w:E)(hM:Bx B w m (r++[x]) cd pl st lk)(hB:B<=w.heap.size)(h2:r.length<50)(hx:x.size<=2000)(hP:Lj w)(bh:2<B)(vq:0<=pl)(ja:pl<=2000)(hn:¬ Ar x):Calls prog 187 #[D (p_ m),F ask] w λe w'=>e=H (Bb true 2 ⟨(Lib.decDigits pl.toNat).toArray⟩ false ⟨#[]⟩ st)/\KB B m w w':=by
 have ig:=Cn hn
 generalize hq:(⟨(Lib.decDigits pl.toNat).toArray⟩:By)=q
 go_enter func187,ntmps187
 go_wp2_with fail
 have sj:=hM.cells.2.2.2.1
 have fc:Bw w (w.alloc (O #[F false,I 0,ze,F false,ze,I 0] 192)):=aN _ _
 refine(Cg B m r x cd pl st lk _ (hM.bl fc) qh h2).mono ?_
 rintro e w1 ⟨rfl,af,fa,cq⟩
 have aw:w1.heap[w.heap.size]?=M (O #[F false,I 0,ze,F false,ze,I 0] 192 (0,0)):=by
  rw[cq _ qb,Bf]
 have HB:Hd (KB B m w w1):=(KB.old fc hB).trans af
 have HP:Hd (Lj w1):=hP.belowB HB.o.bl bh
 have E8:w.heap.size<w1.heap.size:=by
  exact qkt
 obtain⟨c3,c4,f4,_,jj⟩:=fa.cells
 obtain⟨_,v,up,_⟩:=fa
 clear cq hM fc af sj hP
 go_wp2_with (first|(go_at_call 126;refine(Df x _ qb).mono ?_;rintro e w9 ⟨rfl,rfl⟩))
 refine(Np m v cd pl st lk _ up HP.o vq ja).mono ?_
 rintro e w2 ⟨rfl,ag⟩
 rw[hq]
 have sy:w2.heap[w.heap.size]?=M (O #[F false,I 0,ze,F false,ze,I 0] 192 (0,0)):=by
  rw[ag.block _ E8];exact aw
 obtain⟨k0,k1,k2,k3,k4,k5⟩:=Xd sy
 have f0:=fZ sy
 have fw:Hd (KB B m w w2):=HB.o.trans (KB.old ag qb)
 clear aw sy ag up c3 c4 f4
 unfold Bb
 go_wp2
 exact bR (v:=Bb true 2 q false ⟨#[]⟩ st) qfr rfl ⟨rfl,(((((fw.o.setN 0 hB _).setN 1 hB _).setN 2 hB _).setN 3 hB _).setN 4 hB _).setN 5 hB _⟩
theorem Tv(B m:X)(r:L By)(x:By)(cd:Z)(pl st lk:Int)(ask:Bool)(w:E)(hM:Bx B w m (r++[x]) cd pl st lk)(hB:B<=w.heap.size)(h2:r.length<50)(hx:x.size<=2000)(hP:Lj w)(bh:2<B)(vq:0<=pl)(ja:pl<=2000)(hn:Ar x)(hl:lk=200):Calls prog 187 #[D (p_ m),F ask] w λe w'=>e=H (Bb true 3 ⟨#[]⟩ false ⟨#[]⟩ st)/\KB B m w w':=by
 have ig:=Cs hn
 subst hl
 go_enter func187,ntmps187
 go_wp2_with fail
 have sj:=hM.cells.2.2.2.1
 have fc:Bw w (w.alloc (O #[F false,I 0,ze,F false,ze,I 0] 192)):=aN _ _
 refine(Cg B m r x cd pl st 200 _ (hM.bl fc) qh h2).mono ?_
 rintro e w1 ⟨rfl,af,fa,cq⟩
 have aw:w1.heap[w.heap.size]?=M (O #[F false,I 0,ze,F false,ze,I 0] 192 (0,0)):=by
  rw[cq _ qb,Bf]
 have HB:Hd (KB B m w w1):=(KB.old fc hB).trans af
 have HP:Hd (Lj w1):=hP.belowB HB.o.bl bh
 have E8:w.heap.size<w1.heap.size:=by
  exact qkt
 obtain⟨c3,c4,f4,_,jj⟩:=fa.cells
 obtain⟨_,v,up,_⟩:=fa
 clear cq hM fc af sj hP
 go_wp2_with (first|(go_at_call 126;refine(Df x _ qb).mono ?_;rintro e w9 ⟨rfl,rfl⟩))
 refine(Jr m v cd pl st 200 3 ⟨#[]⟩ _ up).mono ?_
 rintro e w2 ⟨rfl,ag⟩
 have sy:w2.heap[w.heap.size]?=M (O #[F false,I 0,ze,F false,ze,I 0] 192 (0,0)):=by
  rw[ag.block _ E8];exact aw
 obtain⟨k0,k1,k2,k3,k4,k5⟩:=Xd sy
 have f0:=fZ sy
 have fw:Hd (KB B m w w2):=HB.o.trans (KB.old ag qb)
 clear aw sy ag up c3 c4 f4
 unfold Bb
 go_wp2
 exact bR (v:=Bb true 3 ⟨#[]⟩ false ⟨#[]⟩ st) qfr rfl ⟨rfl,(((((fw.o.setN 0 hB _).setN 1 hB _).setN 2 hB _).setN 3 hB _).setN 4 hB _).setN 5 hB _⟩
end Go.Proofs.YtbkkjodaaijimaaGreatDoor
