import Derived.Test.YtoakjccojifagaaGreatDoorTNWork2
namespace Go.Proofs.YtoakjccojifagaaGreatDoor
open _root_.Go.Proofs.Tryz Go.RowKit
open Option renaming some->M,none->N
open Value renaming string->S,bool->F,agg->G,pointer->D
open Obj renaming cells->O
open Go renaming Value->Z,World->E
open Ending renaming returned->H
open _root_ renaming List->L,Nat->X
set_option linter.unusedVariables false
set_option maxHeartbeats 8000000
set_option maxRecDepth 100000
set_option linter.unusedSimpArgs false
variable {B m:X} {w w':E} {ss:L By} {cd:Z} {pl st:Int}
theorem put_keep(b:X)(cs:Array Z)(B m:X)(ss:L By)(cd:Z)(pl st lk:Int)(t:By)(w:E)(hM:Cc B w m ss cd pl st lk)(hB:B<=w.heap.size)(h1:t.size<=2000)(h2:ss.length<50)(hbk:w.heap[b]?=M (O cs 139 (0,0)))(F0:b≠m):Calls prog 174 #[D (p_ m),S t] w λe w'=>e=H (F true)/\KB B m w w'/\Cc B w' m (ss++[t]) cd pl st lk/\w'.heap[b]?=M (O cs 139 (0,0)):=
 (Gm B m ss cd pl st lk t w hM hB h1 h2).mono λe w' ⟨k1,k2,k3⟩=>⟨k1,k2,k3,k2.keep b cs 139 qd F0 hbk⟩
theorem work_cut(B m:X)(r:L By)(x:By)(cd:Z)(pl st lk:Int)(t:By)(n:X)(w:E)(hM:Cc B w m (r++[x]) cd pl st lk)(hB:B<=w.heap.size)(yk:0<=pl)(kd:pl<=2000)(hn:n<=2000)(h2:r.length+1<=50)(hx:x.size<=2000)(z:X)(hmin:min (n:Int) (x.size:Int)=(z:Int))(hpc:(x.extract 0 z).size<=2000):Calls prog 173 #[D (p_ m),G #[I 3,S t,I n]] w λe w'=>e=H (F true)/\KB B m w w'/\Cc B w' m (r++[x.extract 0 z]) cd (pl+1) st lk:=by
 have fk:Bw w (w.alloc (O #[I 3,S t,I n] 139)):=aN _ _
 have G8:=hM.cell2.2.2.1
 have fg:=hM.bl fk
 obtain⟨c2,f2,zm,kh⟩:=fg.cell2
 have fm:B<=(w.alloc (O #[I 3,S t,I n] 139)).heap.size:=qh
 have HP:Hd (∀W:E,Cc B W m r cd pl st lk->B<=W.heap.size->W.heap[w.heap.size]?=M (O #[I 3,S t,I n] 139 (0,0))->Calls prog 174 #[D (p_ m),S (x.extract 0 z)] W λe w'=>e=H (F true)/\KB B m W w'/\Cc B w' m (r++[x.extract 0 z]) cd pl st lk/\w'.heap[w.heap.size]?=M (O #[I 3,S t,I n] 139 (0,0))):=λW h1 h2 h3=>put_keep w.heap.size _ B m r cd pl st lk (x.extract 0 z) W h1 h2 hpc qb h3 qb
 have HT:Hd (Calls prog 172 #[D (p_ m)] (w.alloc (O #[I 3,S t,I n] 139)) λe w'=>e=H (S x)/\KB B m (w.alloc (O #[I 3,S t,I n] 139)) w'/\Cc B w' m r cd pl st lk/\∀b,b≠m->w'.heap[b]?=(w.alloc (O #[I 3,S t,I n] 139)).heap[b]?):=Cm B m r x cd pl st lk _ fg fm qb
 have HBA:Hd (Bw w (w.alloc (O #[I 3,S t,I n] 139))):=fk
 clear hM fg fk hpc
 go_enter func173,ntmps173
 go_wp2_with (first|(go_at_call 172;refine(HT.o).mono ?_;rintro e w1 ⟨rfl,af,ko,cq⟩))
 have ik:B<=w1.heap.size:=Nat.le_trans fm af.size
 have L2:w1.heap[w.heap.size]?=M (O #[I 3,S t,I n] 139 (0,0)):=by rw[cq w.heap.size qb,Bg]
 have cn:=cK L2 2
 have fa:Hd (w1.heap[w.heap.size]?=M (O #[I 3,S t,I n] 139 (0,0))):=L2
 have mi:Hd (Cc B w1 m r cd pl st lk):=ko
 have bm:z<=x.size:=qb
 clear cq ko HT L2
 have hnI:(z:Int)<=(x.size:Int):=qb
 go_region_held3 (λw'=>w'.cell? ⟨w.heap.size,2,N⟩=M (I (n:Int)))
  (first|assumption|(simp[*];done)|(rw[cH km];rfl))
  (first|(go_at_call 174;refine(HP.o _ ?_ ?_ ?_).mono ?_;(focus(exact mi.o.bl (Below.refl _ _).drew));(focus(simpa using ik));(focus(exact fa.o));rintro e w2 ⟨rfl,ag,ke,km⟩))
 all_goals
  obtain⟨d2,e2,_,_⟩:=ke.cell2;have Gt:Hd (Cc B w2 m (r++[x.extract 0 z]) cd pl st lk):=ke;exact qle
theorem work_rest(B m:X)(r:L By)(x:By)(cd:Z)(pl st lk:Int)(t:By)(n:X)(w:E)(hM:Cc B w m (r++[x]) cd pl st lk)(hB:B<=w.heap.size)(yk:0<=pl)(kd:pl<=2000)(hn:n<=2000)(h2:r.length+1<=50)(hx:x.size<=2000)(z:X)(hmin:min (n:Int) (x.size:Int)=(z:Int))(hpc:(x.extract z x.size).size<=2000):Calls prog 173 #[D (p_ m),G #[I 4,S t,I n]] w λe w'=>e=H (F true)/\KB B m w w'/\Cc B w' m (r++[x.extract z x.size]) cd (pl+1) st lk:=by
 have fk:Bw w (w.alloc (O #[I 4,S t,I n] 139)):=aN _ _
 have G8:=hM.cell2.2.2.1
 have fg:=hM.bl fk
 obtain⟨c2,f2,zm,kh⟩:=fg.cell2
 have fm:B<=(w.alloc (O #[I 4,S t,I n] 139)).heap.size:=qh
 have HP:Hd (∀W:E,Cc B W m r cd pl st lk->B<=W.heap.size->W.heap[w.heap.size]?=M (O #[I 4,S t,I n] 139 (0,0))->Calls prog 174 #[D (p_ m),S (x.extract z x.size)] W λe w'=>e=H (F true)/\KB B m W w'/\Cc B w' m (r++[x.extract z x.size]) cd pl st lk/\w'.heap[w.heap.size]?=M (O #[I 4,S t,I n] 139 (0,0))):=λW h1 h2 h3=>put_keep w.heap.size _ B m r cd pl st lk (x.extract z x.size) W h1 h2 hpc qb h3 qb
 have HT:Hd (Calls prog 172 #[D (p_ m)] (w.alloc (O #[I 4,S t,I n] 139)) λe w'=>e=H (S x)/\KB B m (w.alloc (O #[I 4,S t,I n] 139)) w'/\Cc B w' m r cd pl st lk/\∀b,b≠m->w'.heap[b]?=(w.alloc (O #[I 4,S t,I n] 139)).heap[b]?):=Cm B m r x cd pl st lk _ fg fm qb
 have HBA:Hd (Bw w (w.alloc (O #[I 4,S t,I n] 139))):=fk
 clear hM fg fk hpc
 go_enter func173,ntmps173
 go_wp2_with (first|(go_at_call 172;refine(HT.o).mono ?_;rintro e w1 ⟨rfl,af,ko,cq⟩))
 have ik:B<=w1.heap.size:=Nat.le_trans fm af.size
 have L2:w1.heap[w.heap.size]?=M (O #[I 4,S t,I n] 139 (0,0)):=by rw[cq w.heap.size qb,Bg]
 have cn:=cK L2 2
 have fa:Hd (w1.heap[w.heap.size]?=M (O #[I 4,S t,I n] 139 (0,0))):=L2
 have mi:Hd (Cc B w1 m r cd pl st lk):=ko
 have bm:z<=x.size:=qb
 clear cq ko HT L2
 have hnI:(z:Int)<=(x.size:Int):=qb
 go_region_held3 (λw'=>w'.cell? ⟨w.heap.size,2,N⟩=M (I (n:Int)))
  (first|assumption|(simp[*];done)|(rw[cH km];rfl))
  (first|(go_at_call 174;refine(HP.o _ ?_ ?_ ?_).mono ?_;(focus(exact mi.o.bl (Below.refl _ _).drew));(focus(simpa using ik));(focus(exact fa.o));rintro e w2 ⟨rfl,ag,ke,km⟩))
 all_goals
  obtain⟨d2,e2,_,_⟩:=ke.cell2;have Gt:Hd (Cc B w2 m (r++[x.extract z x.size]) cd pl st lk):=ke;exact qle
theorem work_word(B m:X)(r:L By)(x:By)(cd:Z)(pl st lk:Int)(t:By)(n:X)(w:E)(hM:Cc B w m (r++[x]) cd pl st lk)(hB:B<=w.heap.size)(yk:0<=pl)(kd:pl<=2000)(hn:n<=2000)(h2:r.length+1<=50)(hx:x.size<=2000)(hpc:(Kx x n).size<=2000):Calls prog 173 #[D (p_ m),G #[I 5,S t,I n]] w λe w'=>e=H (F true)/\KB B m w w'/\Cc B w' m (r++[Kx x n]) cd (pl+1) st lk:=by
 have fk:Bw w (w.alloc (O #[I 5,S t,I n] 139)):=aN _ _
 have G8:=hM.cell2.2.2.1
 have fg:=hM.bl fk
 obtain⟨c2,f2,zm,kh⟩:=fg.cell2
 have fm:B<=(w.alloc (O #[I 5,S t,I n] 139)).heap.size:=qh
 go_enter func173,ntmps173
 go_wp2_with fail
 go_region_with (first|(go_at_call 183;refine(wordAt_any x n _ hx hn).mono ?_;rintro e w9 ⟨rfl,rfl⟩)|(go_at_call 172;refine(Cm B m (r) x cd pl st lk _ ?_ ?_ ?_).mono ?_;(focus(exact fg));(focus(exact fm));(focus(first|omega|(simp;omega)));rintro e w1 ⟨rfl,af,ko,cq⟩;have ik:B<=w1.heap.size:=(Nat.le_trans fm af.size);obtain⟨dd1,ee1,_,_⟩:=ko.cell2;have cn:w1.cell? ⟨w.heap.size,2,N⟩=M (I (n:Int)):=(by rw[World.cell?_of_block (cq w.heap.size qb)];simp[go_sem]);clear cq)|(go_at_call 174;refine(Gm B m (r) cd pl st lk (Kx x n) _ ?_ ?_ hpc ?_).mono ?_;(focus(exact ko));(focus(exact ik));(focus(first|omega|(simp;omega)));rintro e w2 ⟨rfl,ag,ke⟩;have ou:B<=w2.heap.size:=(Nat.le_trans ik ag.size);obtain⟨dd2,ee2,_,_⟩:=ke.cell2))
 all_goals
  go_wp2;go_ret;exact⟨rfl,(((KB.old fk hB).drew.trans af).trans ag).setM 2 kh _,ke.place _⟩
theorem work_same(B m:X)(r:L By)(x y:By)(cd:Z)(pl st lk:Int)(t:By)(n:X)(w:E)(hM:Cc B w m (r++[x]++[y]) cd pl st lk)(hB:B<=w.heap.size)(yk:0<=pl)(kd:pl<=2000)(hn:n<=2000)(h2:r.length+2<=50)(hx:x.size<=2000)(hy:y.size<=2000)(hf:(Cq (x.toList == y.toList)).size<=2000):Calls prog 173 #[D (p_ m),G #[I 6,S t,I n]] w λe w'=>e=H (F true)/\KB B m w w'/\Cc B w' m (r++[Cq (x.toList == y.toList)]) cd (pl+1) st lk:=by
 have fk:Bw w (w.alloc (O #[I 6,S t,I n] 139)):=aN _ _
 have fg:=hM.bl fk
 obtain⟨c2,f2,zm,kh⟩:=fg.cell2
 have fm:B<=(w.alloc (O #[I 6,S t,I n] 139)).heap.size:=qh
 go_enter func173,ntmps173
 go_wp2_with fail
 go_region_with (first|(go_at_call 172;refine(Cm B m (r) x cd pl st lk _ ?_ ?_ ?_).mono ?_;(focus(exact ko));(focus(exact ik));(focus(first|omega|(simp;omega)));rintro e w2 ⟨rfl,ag,ke,io⟩;have ou:B<=w2.heap.size:=(Nat.le_trans ik ag.size);obtain⟨dd2,ee2,_,_⟩:=ke.cell2;clear io)|(go_at_call 172;refine(Cm B m (r++[x]) y cd pl st lk _ ?_ ?_ ?_).mono ?_;(focus(exact fg));(focus(exact fm));(focus(first|omega|(simp;omega)));rintro e w1 ⟨rfl,af,ko,cq⟩;have ik:B<=w1.heap.size:=(Nat.le_trans fm af.size);obtain⟨dd1,ee1,_,_⟩:=ko.cell2;clear cq))
 all_goals
  go_wp2_with fail
  go_region_with (first|(go_at_call 158;refine(Qz _ _).mono ?_;rintro e w9 ⟨rfl,rfl⟩)|(go_at_call 174;refine(Gm B m (r) cd pl st lk (Cq (x.toList == y.toList)) _ ?_ ?_ hf ?_).mono ?_;(focus(exact ke));(focus(exact ou));(focus(first|omega|(simp;omega)));rintro e w3 ⟨rfl,au,hM4⟩;have G7:B<=w3.heap.size:=(Nat.le_trans ou au.size);obtain⟨dd3,ee3,_,_⟩:=hM4.cell2))
  all_goals
   go_wp2;go_ret;exact⟨rfl,(((KB.old fk hB).drew.trans af).trans (ag.trans ((KB.refl _ _ _).drew.trans au))).setM 2 kh _,hM4.place _⟩
theorem Qai(B m:X)(r:L By)(x:By)(cd:Z)(pl st lk:Int)(t:By)(n:X)(w:E)(hM:Cc B w m (r++[x]) cd pl st lk)(hB:B<=w.heap.size)(yk:0<=pl)(kd:pl<=2000)(hn:n<=2000)(h2:r.length+2<=50)(hx:x.size<=2000):Calls prog 173 #[D (p_ m),G #[I 7,S t,I n]] w λe w'=>e=H (F true)/\KB B m w w'/\Cc B w' m (r++[x]++[x]) cd (pl+1) st lk:=by
 have fk:Bw w (w.alloc (O #[I 7,S t,I n] 139)):=aN _ _
 have fg:=hM.bl fk
 obtain⟨c2,f2,zm,kh⟩:=fg.cell2
 have fm:B<=(w.alloc (O #[I 7,S t,I n] 139)).heap.size:=qh
 go_enter func173,ntmps173
 go_wp2_with (first|(go_at_call 172;refine(Cm B m (r) x cd pl st lk _ ?_ ?_ ?_).mono ?_;(focus(exact fg));(focus(exact fm));(focus(first|omega|(simp;omega)));rintro e w1 ⟨rfl,af,ko,cq⟩;have ik:B<=w1.heap.size:=(Nat.le_trans fm af.size);obtain⟨dd1,ee1,_,_⟩:=ko.cell2;clear cq)|(go_at_call 174;refine(Gm B m (r++[x]) cd pl st lk (x) _ ?_ ?_ hx ?_).mono ?_;(focus(exact ke));(focus(exact ou));(focus(first|omega|(simp;omega)));rintro e w3 ⟨rfl,au,hM4⟩;have G7:B<=w3.heap.size:=(Nat.le_trans ou au.size);obtain⟨dd3,ee3,_,_⟩:=hM4.cell2)|(go_at_call 174;refine(Gm B m (r) cd pl st lk (x) _ ?_ ?_ hx ?_).mono ?_;(focus(exact ko));(focus(exact ik));(focus(first|omega|(simp;omega)));rintro e w2 ⟨rfl,ag,ke⟩;have ou:B<=w2.heap.size:=(Nat.le_trans ik ag.size);obtain⟨dd2,ee2,_,_⟩:=ke.cell2))
 go_ret
 exact⟨rfl,(((KB.old fk hB).trans af).trans (ag.trans au)).setM 2 kh _,hM4.place _⟩
theorem Qaj(B m:X)(r:L By)(x:By)(cd:Z)(pl st lk:Int)(t:By)(n:X)(w:E)(hM:Cc B w m (r++[x]) cd pl st lk)(hB:B<=w.heap.size)(yk:0<=pl)(kd:pl<=2000)(hn:n<=2000)(h2:r.length+1=50)(hx:x.size<=2000):Calls prog 173 #[D (p_ m),G #[I 7,S t,I n]] w λe w'=>e=H (F false)/\KB B m w w'/\Cc B w' m (r++[x]) cd pl st lk:=by
 have fk:Bw w (w.alloc (O #[I 7,S t,I n] 139)):=aN _ _
 have fg:=hM.bl fk
 obtain⟨c2,f2,zm,kh⟩:=fg.cell2
 have fm:B<=(w.alloc (O #[I 7,S t,I n] 139)).heap.size:=qh
 go_enter func173,ntmps173
 go_wp2_with (first|(go_at_call 172;refine(Cm B m (r) x cd pl st lk _ ?_ ?_ ?_).mono ?_;(focus(exact fg));(focus(exact fm));(focus(first|omega|(simp;omega)));rintro e w1 ⟨rfl,af,ko,cq⟩;have ik:B<=w1.heap.size:=(Nat.le_trans fm af.size);obtain⟨dd1,ee1,_,_⟩:=ko.cell2;clear cq)|(go_at_call 174;refine(put_no B m (r++[x]) cd pl st lk (x) _ ?_ ?_ ?_ ?_).mono ?_;(focus(exact ke));(focus(first|omega|(simp;omega)));(focus(first|omega|(simp;omega)));(focus(right;simp;omega));rintro e w3 ⟨rfl,rfl⟩)|(go_at_call 174;refine(Gm B m (r) cd pl st lk (x) _ ?_ ?_ hx ?_).mono ?_;(focus(exact ko));(focus(exact ik));(focus(first|omega|(simp;omega)));rintro e w2 ⟨rfl,ag,ke⟩;have ou:B<=w2.heap.size:=(Nat.le_trans ik ag.size);obtain⟨dd2,ee2,_,_⟩:=ke.cell2))
 go_ret
 exact⟨rfl,(((KB.old fk hB).trans af).trans ag),ke⟩
theorem work_swap(B m:X)(r:L By)(x y:By)(cd:Z)(pl st lk:Int)(t:By)(n:X)(w:E)(hM:Cc B w m (r++[x]++[y]) cd pl st lk)(hB:B<=w.heap.size)(yk:0<=pl)(kd:pl<=2000)(hn:n<=2000)(h2:r.length+2<=50)(hx:x.size<=2000)(hy:y.size<=2000):Calls prog 173 #[D (p_ m),G #[I 8,S t,I n]] w λe w'=>e=H (F true)/\KB B m w w'/\Cc B w' m (r++[y]++[x]) cd (pl+1) st lk:=by
 have fk:Bw w (w.alloc (O #[I 8,S t,I n] 139)):=aN _ _
 have fg:=hM.bl fk
 obtain⟨c2,f2,zm,kh⟩:=fg.cell2
 have fm:B<=(w.alloc (O #[I 8,S t,I n] 139)).heap.size:=qh
 have HBA:Hd (Bw w (w.alloc (O #[I 8,S t,I n] 139))):=fk
 have A5:Hd (Cc B (w.alloc (O #[I 8,S t,I n] 139)) m (r++[x]++[y]) cd pl st lk):=fg
 clear hM fg fk
 go_enter func173,ntmps173
 go_wp2_with fail
 go_region_held3 (λw'=>B<=w'.heap.size)
  (first|assumption|(simpa using fm)|exact Nat.le_trans ik ag.size|exact Nat.le_trans fm (by simpa using af.size))
  (first|(go_at_call 172;refine(Cm B m (r) x cd pl st lk _ ?_ ?_ ?_).mono ?_;(focus(exact mi.o));(focus(exact ik));(focus(omega));rintro e w2 ⟨rfl,ag,ke,io⟩;have Gt:Hd (Cc B w2 m r cd pl st lk):=ke;clear ke io)|(go_at_call 172;refine(Cm B m (r++[x]) y cd pl st lk _ ?_ ?_ ?_).mono ?_;(focus(exact A5.o.bl (Below.refl _ _).drew));(focus(simpa using fm));(focus(simp;omega));rintro e w1 ⟨rfl,af,ko,cq⟩;have ik:B<=w1.heap.size:=(Nat.le_trans fm (by simpa using af.size));have mi:Hd (Cc B w1 m (r++[x]) cd pl st lk):=ko;clear ko cq))
 have ou:B<=w2.heap.size:=Nat.le_trans ik ag.size
 have bg:KB B m w w2:=((KB.old HBA.o hB).drew.trans af).trans ag
 clear af ag A5 mi
 go_wp2_with fail
 refine(Gm B m r cd pl st lk y _ Gt.o ou hy qb).mono ?_
 rintro e w3 ⟨rfl,au,hM4⟩
 have HM4:Hd (Cc B w3 m (r++[y]) cd pl st lk):=hM4
 have G7:B<=w3.heap.size:=Nat.le_trans ou au.size
 have ip:=bg.trans au
 clear hM4 Gt au bg
 go_wp2_with fail
 refine(Gm B m (r++[y]) cd pl st lk x _ HM4.o G7 hx qh).mono ?_
 rintro e w4 ⟨rfl,ce,hM5⟩
 obtain⟨d2,e2,_,_⟩:=hM5.cell2
 have HM5:Hd (Cc B w4 m (r++[y]++[x]) cd pl st lk):=hM5
 have jn:=ip.trans ce
 clear hM5 HM4 ce ip
 go_wp2
 go_ret
 exact⟨rfl,jn.setM 2 kh _,HM5.o.place _⟩
section
theorem Kd(x:By)(a b:X):(x.extract a b).size<=x.size:=by rw[ByteArray.size_extract];omega
theorem Py(s:By):∀(d n st i:X),s.size-i<=d->(Bi s n st i).size<=s.size
 | 0,n,st,i,h=>by
  rw[Zf qb];split
  ·exact Kd _ _ _
  ·exact Nat.zero_le _
 | d+1,n,st,i,h=>by
  by_cases hi:i<s.size
  ·by_cases hg:Re s[i]=true
   ·by_cases cw:st<i
    ·by_cases hn:n=0
     ·subst hn;rw[Ze hi hg cw];exact Kd _ _ _
     ·rw[Zd hi hg cw hn];exact Py s d _ _ _ qb
    ·rw[Zc hi hg cw];exact Py s d _ _ _ qb
   ·rw[pf_in hi (by simpa using hg)];exact Py s d _ _ _ qb
  ·rw[Zf hi];split
   ·exact Kd _ _ _
   ·exact Nat.zero_le _
theorem Ux(b:Bool):(Cq b).size=1:=by cases b<;>rfl
theorem split0(l:L By):Bo l 0=l:=by simp[Bo]
theorem Jy{l:L By}(h:1<=l.length):l=Bo l 1++[Bu l]:=by
 unfold Bo Bu
 have e:l.take (l.length-1+1)=l.take (l.length-1)++[l[l.length-1]]:=List.take_succ_eq_append_getElem qb
 rw[gG,Jr (show l.length-1<l.length from qb),Option.getD_some,<- e,List.take_of_length_le qb]
theorem split2{l:L By}(h:2<=l.length):l=Bo l 2++[Jh l]++[Bu l]:=by
 have h1:=Jy (l:=l) qb
 have e:l.take (l.length-2+1)=l.take (l.length-2)++[l[l.length-2]]:=List.take_succ_eq_append_getElem qb
 have h2:Bo l 1=Bo l 2++[Jh l]:=by
  unfold Bo Jh;rw[gG,Jr (show l.length-2<l.length from qb),Option.getD_some,<- e];congr 1;omega
 rw[<- h2];exact h1
theorem Bk(l:L By)(k:X):(Bo l k).length=l.length-k:=by simp[Bo]
theorem Hg{l:L By}(h:1<=l.length):Bu l∈l:=by
 unfold Bu
 rw[gG,Jr (show l.length-1<l.length from qb),Option.getD_some]
 exact List.getElem_mem _
theorem Yr{l:L By}(h:2<=l.length):Jh l∈l:=by
 unfold Jh
 rw[gG,Jr (show l.length-2<l.length from qb),Option.getD_some]
 exact List.getElem_mem _
def Tr(o:X)(t:By)(n:X)(l:L By):Prop:=50<(Bo l (Aw o)).length+(Da o t n (Bu l) (Jh l)).length\/∃x∈Da o t n (Bu l) (Jh l),2000<x.size
def Cp(o:X)(t:By)(n:X)(l:L By)(B m:X)(cd:Z)(pl:X)(st lk:Int)(w:E)(e:Ending)(w':E):Prop:=
 KB B m w w'/\((e=H (F true)/\¬ Tr o t n l/\Cc B w' m (Bo l (Aw o)++Da o t n (Bu l) (Jh l)) cd (Ey o n pl (Bu l):X) st lk)\/(e=H (F false)/\Tr o t n l/\∃ss,Cc B w' m ss cd pl st lk))
variable (B m:X) (l:L By) (cd:Z) (pl:X) (st lk:Int) (t:By) (n:X) (w:E)
theorem Ej{o n pl:X}{a:By}(h:o≠10)(h2:o≠11):Ey o n pl a=pl+1:=by simp[Ey,h,h2]
theorem work_1(hM:Cc B w m l cd pl st lk)(hB:B<=w.heap.size)(kd:pl<=200)(hn:n<=2000)(dr:l.length<=50)(cz:∀x∈l,x.size<=2000)(ht:t.size<=2000):Calls prog 173 #[D (p_ m),G #[I 1,S t,I n]] w λe w'=>Cp 1 t n l B m cd pl st lk w e w':=by
 unfold Cp Tr
 rw[show Aw 1=0 from rfl,split0]
 by_cases h:l.length<50
 ·refine(Qag B m l cd pl st lk t n w hM hB ht h qb qb).mono λe w' ⟨h1,h2,h3⟩=>⟨h2,Or.inl ⟨h1,?_,by rw[Ej qd qd];exact h3⟩⟩;simp[Da];omega
 ·refine(Qah B m l cd pl st lk t n w hM hB qb qb hn ht qb).mono λe w' ⟨h1,h2,h3⟩=>⟨h2,Or.inr ⟨h1,?_,_,h3⟩⟩;simp[Da];omega
theorem work_2(hM:Cc B w m l cd pl st lk)(hB:B<=w.heap.size)(kd:pl<=200)(hn:n<=2000)(dr:l.length<=50)(cz:∀x∈l,x.size<=2000)(fl:2<=l.length):Calls prog 173 #[D (p_ m),G #[I 2,S t,I n]] w λe w'=>Cp 2 t n l B m cd pl st lk w e w':=by
 have hs:=split2 fl
 have hr:=Bk l 2
 have hx:=cz _ (Hg (show 1<=l.length from qb))
 have hy:=cz _ (Yr fl)
 unfold Cp Tr
 rw[show Aw 2=2 from rfl]
 rw[hs]at hM
 revert hM hr hx hy
 generalize Bo l 2=r
 generalize Bu l=y
 generalize Jh l=x
 intro hM hr hx hy
 have hc:(x++y).size=x.size+y.size:=ByteArray.size_append
 by_cases h:(x++y).size<=2000
 ·refine(Qak B m r x y cd pl st lk t n w hM hB qb qb hn qb hy hx h).mono λe w' ⟨h1,h2,h3⟩=>⟨h2,Or.inl ⟨h1,?_,by rw[Ej qd qd];exact h3⟩⟩;simp[Da];omega
 ·refine(Qal B m r x y cd pl st lk t n w hM hB qb qb hn qb hy hx qb qb).mono λe w' ⟨h1,h2,h3⟩=>⟨h2,Or.inr ⟨h1,?_,_,h3⟩⟩;simp[Da];omega
theorem work_3(hM:Cc B w m l cd pl st lk)(hB:B<=w.heap.size)(kd:pl<=200)(hn:n<=2000)(dr:l.length<=50)(cz:∀x∈l,x.size<=2000)(fl:1<=l.length):Calls prog 173 #[D (p_ m),G #[I 3,S t,I n]] w λe w'=>Cp 3 t n l B m cd pl st lk w e w':=by
 have hs:=Jy fl
 have hr:=Bk l 1
 have hx:=cz _ (Hg fl)
 unfold Cp Tr
 rw[show Aw 3=1 from rfl]
 rw[hs]at hM
 revert hM hr hx
 generalize Bo l 1=r
 generalize Bu l=x
 intro hM hr hx
 have hpc:=Kd x 0 (min n x.size)
 refine(work_cut B m r x cd pl st lk t n w hM hB qb qb hn qb hx (min n x.size) qb qb).mono λe w' ⟨h1,h2,h3⟩=>⟨h2,Or.inl ⟨h1,?_,by rw[Ej qd qd];exact h3⟩⟩
 exact qdn
theorem work_4(hM:Cc B w m l cd pl st lk)(hB:B<=w.heap.size)(kd:pl<=200)(hn:n<=2000)(dr:l.length<=50)(cz:∀x∈l,x.size<=2000)(fl:1<=l.length):Calls prog 173 #[D (p_ m),G #[I 4,S t,I n]] w λe w'=>Cp 4 t n l B m cd pl st lk w e w':=by
 have hs:=Jy fl
 have hr:=Bk l 1
 have hx:=cz _ (Hg fl)
 unfold Cp Tr
 rw[show Aw 4=1 from rfl]
 rw[hs]at hM
 revert hM hr hx
 generalize Bo l 1=r
 generalize Bu l=x
 intro hM hr hx
 have hpc:=Kd x (min n x.size) x.size
 refine(work_rest B m r x cd pl st lk t n w hM hB qb qb hn qb hx (min n x.size) qb qb).mono λe w' ⟨h1,h2,h3⟩=>⟨h2,Or.inl ⟨h1,?_,by rw[Ej qd qd];exact h3⟩⟩
 exact qdn
theorem work_5(hM:Cc B w m l cd pl st lk)(hB:B<=w.heap.size)(kd:pl<=200)(hn:n<=2000)(dr:l.length<=50)(cz:∀x∈l,x.size<=2000)(fl:1<=l.length):Calls prog 173 #[D (p_ m),G #[I 5,S t,I n]] w λe w'=>Cp 5 t n l B m cd pl st lk w e w':=by
 have hs:=Jy fl
 have hr:=Bk l 1
 have hx:=cz _ (Hg fl)
 unfold Cp Tr
 rw[show Aw 5=1 from rfl]
 rw[hs]at hM
 revert hM hr hx
 generalize Bo l 1=r
 generalize Bu l=x
 intro hM hr hx
 have hpc:(Kx x n).size<=x.size:=Py x x.size n 0 0 qb
 refine(work_word B m r x cd pl st lk t n w hM hB qb qb hn qb hx qb).mono λe w' ⟨h1,h2,h3⟩=>⟨h2,Or.inl ⟨h1,?_,by rw[Ej qd qd];exact h3⟩⟩
 exact qdn
theorem work_6(hM:Cc B w m l cd pl st lk)(hB:B<=w.heap.size)(kd:pl<=200)(hn:n<=2000)(dr:l.length<=50)(cz:∀x∈l,x.size<=2000)(fl:2<=l.length):Calls prog 173 #[D (p_ m),G #[I 6,S t,I n]] w λe w'=>Cp 6 t n l B m cd pl st lk w e w':=by
 have hs:=split2 fl
 have hr:=Bk l 2
 have hx:=cz _ (Hg (show 1<=l.length from qb))
 have hy:=cz _ (Yr fl)
 unfold Cp Tr
 rw[show Aw 6=2 from rfl]
 rw[hs]at hM
 revert hM hr hx hy
 generalize Bo l 2=r
 generalize Bu l=y
 generalize Jh l=x
 intro hM hr hx hy
 have hf:=Ux (x.toList == y.toList)
 refine(work_same B m r x y cd pl st lk t n w hM hB qb qb hn qb hy hx qb).mono λe w' ⟨h1,h2,h3⟩=>⟨h2,Or.inl ⟨h1,?_,by rw[Ej qd qd];exact h3⟩⟩
 exact qdn
theorem work_7(hM:Cc B w m l cd pl st lk)(hB:B<=w.heap.size)(kd:pl<=200)(hn:n<=2000)(dr:l.length<=50)(cz:∀x∈l,x.size<=2000)(fl:1<=l.length):Calls prog 173 #[D (p_ m),G #[I 7,S t,I n]] w λe w'=>Cp 7 t n l B m cd pl st lk w e w':=by
 have hs:=Jy fl
 have hr:=Bk l 1
 have hx:=cz _ (Hg fl)
 unfold Cp Tr
 rw[show Aw 7=1 from rfl]
 rw[hs]at hM
 revert hM hr hx
 generalize Bo l 1=r
 generalize Bu l=x
 intro hM hr hx
 by_cases h:r.length+2<=50
 ·refine(Qai B m r x cd pl st lk t n w hM hB qb qb hn h hx).mono λe w' ⟨h1,h2,h3⟩=>⟨h2,Or.inl ⟨h1,?_,by rw[Ej qd qd];simpa [Da] using h3⟩⟩;simp[Da];omega
 ·refine(Qaj B m r x cd pl st lk t n w hM hB qb qb hn qb hx).mono λe w' ⟨h1,h2,h3⟩=>⟨h2,Or.inr ⟨h1,?_,_,h3⟩⟩;simp[Da];omega
theorem work_8(hM:Cc B w m l cd pl st lk)(hB:B<=w.heap.size)(kd:pl<=200)(hn:n<=2000)(dr:l.length<=50)(cz:∀x∈l,x.size<=2000)(fl:2<=l.length):Calls prog 173 #[D (p_ m),G #[I 8,S t,I n]] w λe w'=>Cp 8 t n l B m cd pl st lk w e w':=by
 have hs:=split2 fl
 have hr:=Bk l 2
 have hx:=cz _ (Hg (show 1<=l.length from qb))
 have hy:=cz _ (Yr fl)
 unfold Cp Tr
 rw[show Aw 8=2 from rfl]
 rw[hs]at hM
 revert hM hr hx hy
 generalize Bo l 2=r
 generalize Bu l=y
 generalize Jh l=x
 intro hM hr hx hy
 refine(work_swap B m r x y cd pl st lk t n w hM hB qb qb hn qb hy hx).mono λe w' ⟨h1,h2,h3⟩=>⟨h2,Or.inl ⟨h1,?_,by rw[Ej qd qd];simpa [Da] using h3⟩⟩
 simp[Da];omega
theorem work_9(hM:Cc B w m l cd pl st lk)(hB:B<=w.heap.size)(kd:pl<=200)(hn:n<=2000)(dr:l.length<=50)(cz:∀x∈l,x.size<=2000)(fl:1<=l.length):Calls prog 173 #[D (p_ m),G #[I 9,S t,I n]] w λe w'=>Cp 9 t n l B m cd pl st lk w e w':=by
 have hs:=Jy fl
 have hr:=Bk l 1
 have hx:=cz _ (Hg fl)
 unfold Cp Tr
 rw[show Aw 9=1 from rfl]
 rw[hs]at hM
 revert hM hr hx
 generalize Bo l 1=r
 generalize Bu l=x
 intro hM hr hx
 refine(work_drop B m r x cd pl st lk t n w hM hB qb qb hn qb).mono λe w' ⟨h1,h2,h3⟩=>⟨h2,Or.inl ⟨h1,?_,by rw[Ej qd qd];simpa [Da] using h3⟩⟩
 simp[Da];omega
theorem work_10(hM:Cc B w m l cd pl st lk)(hB:B<=w.heap.size)(kd:pl<=200)(hn:n<=2000)(dr:l.length<=50)(cz:∀x∈l,x.size<=2000):Calls prog 173 #[D (p_ m),G #[I 10,S t,I n]] w λe w'=>Cp 10 t n l B m cd pl st lk w e w':=by
 unfold Cp Tr
 rw[show Aw 10=0 from rfl,split0]
 refine(work_jump B m l cd pl st lk t n w hM hB qb qb hn).mono λe w' ⟨h1,h2,h3⟩=>⟨h2,Or.inl ⟨h1,?_,by simpa [Da,Ey] using h3⟩⟩
 simp[Da];omega
theorem work_11(hM:Cc B w m l cd pl st lk)(hB:B<=w.heap.size)(kd:pl<=200)(hn:n<=2000)(dr:l.length<=50)(cz:∀x∈l,x.size<=2000)(fl:1<=l.length):Calls prog 173 #[D (p_ m),G #[I 11,S t,I n]] w λe w'=>Cp 11 t n l B m cd pl st lk w e w':=by
 have hs:=Jy fl
 have hr:=Bk l 1
 have hx:=cz _ (Hg fl)
 unfold Cp Tr
 rw[show Aw 11=1 from rfl]
 rw[hs]at hM
 revert hM hr hx
 generalize Bo l 1=r
 generalize Bu l=x
 intro hM hr hx
 by_cases hx1:x.toList.isEmpty=true
 ·refine(Vs B m r x cd pl st lk t n w hM hB qb qb hn qb hx1).mono λe w' ⟨h1,h2,h3⟩=>⟨h2,Or.inl ⟨h1,?_,by simpa [Da,Ey,Mb,hx1] using h3⟩⟩;simp[Da];omega
 ·have hx1':x.toList.isEmpty=false:=by simpa using hx1
  by_cases hx2:(x.toList == [48])=true
  ·refine(Vr B m r x cd pl st lk t n w hM hB qb qb hn qb hx1' hx2).mono λe w' ⟨h1,h2,h3⟩=>⟨h2,Or.inl ⟨h1,?_,by
    (have e1:Mb x=true:=by simp only[Mb,hx2,Bool.or_true]);simpa [Da,Ey,e1] using h3⟩⟩
   simp[Da];omega
  ·have hx2':(x.toList == [48])=false:=by simpa using hx2
   refine(Vq B m r x cd pl st lk t n w hM hB qb qb hn qb hx1' hx2').mono λe w' ⟨h1,h2,h3⟩=>⟨h2,Or.inl ⟨h1,?_,by
    (have e1:Mb x=false:=by simp only[Mb,hx1',hx2',Bool.or_false]);simpa [Da,Ey,e1] using h3⟩⟩
   simp[Da];omega
theorem work_any(o:X)(hM:Cc B w m l cd pl st lk)(hB:B<=w.heap.size)(kd:pl<=200)(hn:n<=2000)(dr:l.length<=50)(cz:∀x∈l,x.size<=2000)(ht:t.size<=2000)(h1:1<=o)(h2:o<=11)(fl:Aw o<=l.length):Calls prog 173 #[D (p_ m),G #[I (o:Int),S t,I n]] w λe w'=>Cp o t n l B m cd pl st lk w e w':=by
 rcases(show o=1\/o=2\/o=3\/o=4\/o=5\/o=6\/o=7\/o=8\/o=9\/o=10\/o=11 from qb)with rfl|rfl|rfl|rfl|rfl|rfl|rfl|rfl|rfl|rfl|rfl
 ·exact work_1 B m l cd pl st lk t n w hM hB kd hn dr cz ht
 ·exact work_2 B m l cd pl st lk t n w hM hB kd hn dr cz fl
 ·exact work_3 B m l cd pl st lk t n w hM hB kd hn dr cz fl
 ·exact work_4 B m l cd pl st lk t n w hM hB kd hn dr cz fl
 ·exact work_5 B m l cd pl st lk t n w hM hB kd hn dr cz fl
 ·exact work_6 B m l cd pl st lk t n w hM hB kd hn dr cz fl
 ·exact work_7 B m l cd pl st lk t n w hM hB kd hn dr cz fl
 ·exact work_8 B m l cd pl st lk t n w hM hB kd hn dr cz fl
 ·exact work_9 B m l cd pl st lk t n w hM hB kd hn dr cz fl
 ·exact work_10 B m l cd pl st lk t n w hM hB kd hn dr cz
 ·exact work_11 B m l cd pl st lk t n w hM hB kd hn dr cz fl
end
theorem Kk.belowB(h:Kk w)(hb:Below B w w')(hB:2<B):Kk w':=λo ho=>
 ⟨(hb.cell (p:=⟨0,_,N⟩) (Nat.lt_of_le_of_lt (Nat.zero_le _) hB)).trans (h o ho).1,(hb.cell (p:=⟨0,_,N⟩) (Nat.lt_of_le_of_lt (Nat.zero_le _) hB)).trans (h o ho).2.1,(hb.cell (p:=⟨0,_,N⟩) (Nat.lt_of_le_of_lt (Nat.zero_le _) hB)).trans (h o ho).2.2⟩
theorem Cc.looks{lk:Int}(h:Cc B w m ss cd pl st lk)(p:Int):Cc B (w.setCell ⟨m,4,N⟩ (I p)) m ss cd pl st p:=by
 obtain⟨hB,v,hm,ho⟩:=h
 refine⟨hB,v,?_,?_⟩
 ·exact qdy
 ·have hne:=hm.ne' ho;refine⟨ho.1,?_⟩
  rcases ho.2 with h0|⟨g,cap,cur,hv,hg,hh,r⟩
  ·exact Or.inl h0
  ·refine Or.inr ⟨g,cap,cur,hv,hg,?_,r⟩;rw[Dj w ⟨m,4,N⟩ _ g qcp];exact hh
theorem Cc.cells{lk:Int}(h:Cc B w m ss cd pl st lk):w.cell? ⟨m,3,N⟩=M (I st)/\w.cell? ⟨m,4,N⟩=M (I lk)/\w.frozen? ⟨m,4,N⟩=false/\m<w.heap.size/\B<=m:=by
 obtain⟨hB,v,hm,ho⟩:=h
 exact⟨qba,qba,fH hm 4,hm.lt,hB⟩
theorem Cc.turn{lk:Int}{b:X}(h:Cc B w m ss cd pl st lk/\∃cs,w.heap[b]?=M (O cs 194 (0,0)))(j:X)(x:Z):Cc B (w.setCell ⟨b,j,N⟩ x) m ss cd pl st lk/\∃cs,(w.setCell ⟨b,j,N⟩ x).heap[b]?=M (O cs 194 (0,0)):=by
 obtain⟨⟨hB,v,hm,ho⟩,cs,hb⟩:=h
 have hmb:m≠b:=by
  rintro rfl;unfold Fo at hm;rw[hm]at hb;simp at hb
 refine⟨⟨hB,v,?_,ho.1,?_⟩,_,jB hb x⟩
 ·unfold Fo at *;rw[Dj w ⟨b,j,N⟩ _ m hmb];exact hm
 ·rcases ho.2 with h0|⟨g,cap,cur,hv,hg,hh,r⟩
  ·exact Or.inl h0
  ·refine Or.inr ⟨g,cap,cur,hv,hg,?_,r⟩
   have wf:g≠b:=by
    rintro rfl;rw[hh]at hb;simp at hb
   rw[Dj w ⟨b,j,N⟩ _ g wf];exact hh
theorem Xn(B m:X)(r:L By)(x:By)(cd:Z)(pl st lk:Int)(ask:Bool)(w:E)(hM:Cc B w m (r++[x]) cd pl st lk)(hB:B<=w.heap.size)(h2:r.length<50)(hx:x.size<=2000)(hn:Ar x)(hl0:0<=lk)(ww:lk<200):Calls prog 171 #[D (p_ m),F ask] w λe w'=>e=H (Bc false 0 ⟨#[]⟩ ask x st)/\KB B m w w'/\Cc B w' m r cd pl st (lk+1):=by
 have li:=Db hn
 have d1:(lk == 200)=false:=qh
 go_enter func171,ntmps171
 go_wp2_with fail
 have G8:=hM.cells.2.2.2.1
 have fk:Bw w (w.alloc (O #[F false,I 0,ze,F false,ze,I 0] 194)):=aN _ _
 refine(Cm B m r x cd pl st lk _ (hM.bl fk) qh h2).mono ?_
 rintro e w1 ⟨rfl,af,fg,cq⟩
 have aw:w1.heap[w.heap.size]?=M (O #[F false,I 0,ze,F false,ze,I 0] 194 (0,0)):=by
  rw[cq _ qb,Bg]
 obtain⟨k0,k1,k2,k3,k4,k5⟩:=Xw aw
 have f0:=fZ aw
 obtain⟨c3,c4,f4,_,kh⟩:=fg.cells
 have hne':w.heap.size≠m:=qb
 have HM:Hd (Cc B (w1.setCell ⟨m,4,N⟩ (I (lk+1))) m r cd pl st (lk+1)/\∃cs,(w1.setCell ⟨m,4,N⟩ (I (lk+1))).heap[w.heap.size]?=M (O cs 194 (0,0))):=⟨fg.looks _,_,by rw[Dj w1 ⟨m,4,N⟩ _ _ hne'];exact aw⟩
 have HB:Hd (KB B m w w1):=(KB.old fk hB).trans af
 clear fg cq aw hM fk af G8
 go_wp2_with (first|(go_at_call 83;refine(Dm x _ qb).mono ?_;rintro e w9 ⟨rfl,rfl⟩))
 exact bR (v:=Bc false 0 ⟨#[]⟩ ask x st) qgm rfl ⟨rfl,((((((HB.o.setM 4 kh _).setN 0 hB _).setN 1 hB _).setN 2 hB _).setN 3 hB _).setN 4 hB _).setN 5 hB _,(Cc.turn (Cc.turn (Cc.turn (Cc.turn (Cc.turn (Cc.turn HM.o 0 _) 1 _) 2 _) 3 _) 4 _) 5 _).1⟩
theorem Lq.belowB(h:Lq w)(hb:Below B w w')(hB:2<B):Lq w':=by
 unfold Lq Lib.TabIs World.var? at *
 rw[show prog.globalNamed "internal/strconv.uint64pow10"=M 2 from qi]at *
 simp only[Option.bind_some]at *
 rw[hb.block 2 qb]
 exact h
theorem look_bad(B m:X)(r:L By)(x:By)(cd:Z)(pl st lk:Int)(ask:Bool)(w:E)(hM:Cc B w m (r++[x]) cd pl st lk)(hB:B<=w.heap.size)(h2:r.length<50)(hx:x.size<=2000)(hP:Lq w)(bj:2<B)(yk:0<=pl)(kd:pl<=2000)(hn:¬ Ar x):Calls prog 171 #[D (p_ m),F ask] w λe w'=>e=H (Bc true 2 ⟨(Lib.decDigits pl.toNat).toArray⟩ false ⟨#[]⟩ st)/\KB B m w w':=by
 have li:=Cs hn
 generalize hq:(⟨(Lib.decDigits pl.toNat).toArray⟩:By)=q
 go_enter func171,ntmps171
 go_wp2_with fail
 have G8:=hM.cells.2.2.2.1
 have fk:Bw w (w.alloc (O #[F false,I 0,ze,F false,ze,I 0] 194)):=aN _ _
 refine(Cm B m r x cd pl st lk _ (hM.bl fk) qh h2).mono ?_
 rintro e w1 ⟨rfl,af,fg,cq⟩
 have aw:w1.heap[w.heap.size]?=M (O #[F false,I 0,ze,F false,ze,I 0] 194 (0,0)):=by
  rw[cq _ qb,Bg]
 have HB:Hd (KB B m w w1):=(KB.old fk hB).trans af
 have HP:Hd (Lq w1):=hP.belowB HB.o.bl bj
 have O5:w.heap.size<w1.heap.size:=by
  exact qlf
 obtain⟨c3,c4,f4,_,kh⟩:=fg.cells
 obtain⟨_,v,we,_⟩:=fg
 clear cq hM fk af G8 hP
 go_wp2_with (first|(go_at_call 83;refine(Dm x _ qb).mono ?_;rintro e w9 ⟨rfl,rfl⟩))
 refine(Nq m v cd pl st lk _ we HP.o yk kd).mono ?_
 rintro e w2 ⟨rfl,ag⟩
 rw[hq]
 have uw:w2.heap[w.heap.size]?=M (O #[F false,I 0,ze,F false,ze,I 0] 194 (0,0)):=by
  rw[ag.block _ O5];exact aw
 obtain⟨k0,k1,k2,k3,k4,k5⟩:=Xw uw
 have f0:=fZ uw
 have fj:Hd (KB B m w w2):=HB.o.trans (KB.old ag qb)
 clear aw uw ag we c3 c4 f4
 unfold Bc
 go_wp2
 exact bR (v:=Bc true 2 q false ⟨#[]⟩ st) qgm rfl ⟨rfl,(((((fj.o.setN 0 hB _).setN 1 hB _).setN 2 hB _).setN 3 hB _).setN 4 hB _).setN 5 hB _⟩
theorem Us(B m:X)(r:L By)(x:By)(cd:Z)(pl st lk:Int)(ask:Bool)(w:E)(hM:Cc B w m (r++[x]) cd pl st lk)(hB:B<=w.heap.size)(h2:r.length<50)(hx:x.size<=2000)(hP:Lq w)(bj:2<B)(yk:0<=pl)(kd:pl<=2000)(hn:Ar x)(hl:lk=200):Calls prog 171 #[D (p_ m),F ask] w λe w'=>e=H (Bc true 3 ⟨#[]⟩ false ⟨#[]⟩ st)/\KB B m w w':=by
 have li:=Db hn
 subst hl
 go_enter func171,ntmps171
 go_wp2_with fail
 have G8:=hM.cells.2.2.2.1
 have fk:Bw w (w.alloc (O #[F false,I 0,ze,F false,ze,I 0] 194)):=aN _ _
 refine(Cm B m r x cd pl st 200 _ (hM.bl fk) qh h2).mono ?_
 rintro e w1 ⟨rfl,af,fg,cq⟩
 have aw:w1.heap[w.heap.size]?=M (O #[F false,I 0,ze,F false,ze,I 0] 194 (0,0)):=by
  rw[cq _ qb,Bg]
 have HB:Hd (KB B m w w1):=(KB.old fk hB).trans af
 have HP:Hd (Lq w1):=hP.belowB HB.o.bl bj
 have O5:w.heap.size<w1.heap.size:=by
  exact qlf
 obtain⟨c3,c4,f4,_,kh⟩:=fg.cells
 obtain⟨_,v,we,_⟩:=fg
 clear cq hM fk af G8 hP
 go_wp2_with (first|(go_at_call 83;refine(Dm x _ qb).mono ?_;rintro e w9 ⟨rfl,rfl⟩))
 refine(Kb m v cd pl st 200 3 ⟨#[]⟩ _ we).mono ?_
 rintro e w2 ⟨rfl,ag⟩
 have uw:w2.heap[w.heap.size]?=M (O #[F false,I 0,ze,F false,ze,I 0] 194 (0,0)):=by
  rw[ag.block _ O5];exact aw
 obtain⟨k0,k1,k2,k3,k4,k5⟩:=Xw uw
 have f0:=fZ uw
 have fj:Hd (KB B m w w2):=HB.o.trans (KB.old ag qb)
 clear aw uw ag we c3 c4 f4
 unfold Bc
 go_wp2
 exact bR (v:=Bc true 3 ⟨#[]⟩ false ⟨#[]⟩ st) qgm rfl ⟨rfl,(((((fj.o.setN 0 hB _).setN 1 hB _).setN 2 hB _).setN 3 hB _).setN 4 hB _).setN 5 hB _⟩
end Go.Proofs.YtoakjccojifagaaGreatDoor
