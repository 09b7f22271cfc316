import Derived.Test.YtnflkpmmfpfhlaaGreatDoorTNWork2
namespace Go.Proofs.YtnflkpmmfpfhlaaGreatDoor
open _root_.Go.Proofs.Tryz Go.RowKit
open Option renaming some->M,none->N
open Value renaming string->S,bool->F,agg->G,pointer->D
open Obj renaming cells->O
open Go renaming Value->Z,World->E
open Ending renaming returned->H
open _root_ renaming List->L,Nat->X
set_option linter.unusedVariables false
set_option maxHeartbeats 8000000
set_option maxRecDepth 100000
set_option linter.unusedSimpArgs false
variable {B m:X} {w w':E} {ss:L By} {cd:Z} {pl st:Int}
theorem put_keep(b:X)(cs:Array Z)(B m:X)(ss:L By)(cd:Z)(pl st lk:Int)(t:By)(w:E)(hM:Cl B w m ss cd pl st lk)(hB:B<=w.heap.size)(h1:t.size<=2000)(h2:ss.length<50)(hbk:w.heap[b]?=M (O cs 174 (0,0)))(F2:b≠m):Calls prog 180 #[D (p_ m),S t] w λe w'=>e=H (F true)/\KB B m w w'/\Cl B w' m (ss++[t]) cd pl st lk/\w'.heap[b]?=M (O cs 174 (0,0)):=
 (Gu B m ss cd pl st lk t w hM hB h1 h2).mono λe w' ⟨k1,k2,k3⟩=>⟨k1,k2,k3,k2.keep b cs 174 qh F2 hbk⟩
theorem work_cut(B m:X)(r:L By)(x:By)(cd:Z)(pl st lk:Int)(t:By)(n:X)(w:E)(hM:Cl B w m (r++[x]) cd pl st lk)(hB:B<=w.heap.size)(yo:0<=pl)(jx:pl<=2000)(hn:n<=2000)(h2:r.length+1<=50)(hx:x.size<=2000)(z:X)(hmin:min (n:Int) (x.size:Int)=(z:Int))(hpc:(x.extract 0 z).size<=2000):Calls prog 179 #[D (p_ m),G #[I 3,S t,I n]] w λe w'=>e=H (F true)/\KB B m w w'/\Cl B w' m (r++[x.extract 0 z]) cd (pl+1) st lk:=by
 have fh:Bw w (w.alloc (O #[I 3,S t,I n] 174)):=aN _ _
 have Id:=hM.cell2.2.2.1
 have ff:=hM.bl fh
 obtain⟨c2,f2,zq,jz⟩:=ff.cell2
 have fg:B<=(w.alloc (O #[I 3,S t,I n] 174)).heap.size:=qj
 have HP:Hd (∀W:E,Cl B W m r cd pl st lk->B<=W.heap.size->W.heap[w.heap.size]?=M (O #[I 3,S t,I n] 174 (0,0))->Calls prog 180 #[D (p_ m),S (x.extract 0 z)] W λe w'=>e=H (F true)/\KB B m W w'/\Cl B w' m (r++[x.extract 0 z]) cd pl st lk/\w'.heap[w.heap.size]?=M (O #[I 3,S t,I n] 174 (0,0))):=λW h1 h2 h3=>put_keep w.heap.size _ B m r cd pl st lk (x.extract 0 z) W h1 h2 hpc qg h3 qg
 have HT:Hd (Calls prog 178 #[D (p_ m)] (w.alloc (O #[I 3,S t,I n] 174)) λe w'=>e=H (S x)/\KB B m (w.alloc (O #[I 3,S t,I n] 174)) w'/\Cl B w' m r cd pl st lk/\∀b,b≠m->w'.heap[b]?=(w.alloc (O #[I 3,S t,I n] 174)).heap[b]?):=Cm B m r x cd pl st lk _ ff fg qg
 have HBA:=Ab fh
 clear hM ff fh hpc
 go_enter func179,ntmps179
 go_wp2_with (first|(go_at_call 178;refine(HT.o).mono ?_;rintro e w1 ⟨rfl,ag,kj,cu⟩))
 have ir:=Nat.le_trans fg ag.size
 have M8:w1.heap[w.heap.size]?=M (O #[I 3,S t,I n] 174 (0,0)):=by rw[cu w.heap.size qg,Bf]
 have cn:=cK M8 2
 have fb:=Ab M8
 have lz:=Ab kj
 have bi:z<=x.size:=qg
 clear cu kj HT M8
 have hnI:(z:Int)<=(x.size:Int):=qg
 go_region_held3 (λw'=>w'.cell? ⟨w.heap.size,2,N⟩=M (I (n:Int)))
  (first|assumption|(simp[*];done)|(rw[cH jg];rfl))
  (first|(go_at_call 180;refine(HP.o _ ?_ ?_ ?_).mono ?_;(focus(exact lz.o.bl (Below.refl _ _).drew));(focus(simpa using ir));(focus(exact fb.o));rintro e w2 ⟨rfl,af,jy,jg⟩))
 all_goals
  obtain⟨d2,e2,_,_⟩:=jy.cell2;have G5:=Ab jy;exact qls
theorem work_rest(B m:X)(r:L By)(x:By)(cd:Z)(pl st lk:Int)(t:By)(n:X)(w:E)(hM:Cl B w m (r++[x]) cd pl st lk)(hB:B<=w.heap.size)(yo:0<=pl)(jx:pl<=2000)(hn:n<=2000)(h2:r.length+1<=50)(hx:x.size<=2000)(z:X)(hmin:min (n:Int) (x.size:Int)=(z:Int))(hpc:(x.extract z x.size).size<=2000):Calls prog 179 #[D (p_ m),G #[I 4,S t,I n]] w λe w'=>e=H (F true)/\KB B m w w'/\Cl B w' m (r++[x.extract z x.size]) cd (pl+1) st lk:=by
 have fh:Bw w (w.alloc (O #[I 4,S t,I n] 174)):=aN _ _
 have Id:=hM.cell2.2.2.1
 have ff:=hM.bl fh
 obtain⟨c2,f2,zq,jz⟩:=ff.cell2
 have fg:B<=(w.alloc (O #[I 4,S t,I n] 174)).heap.size:=qj
 have HP:Hd (∀W:E,Cl B W m r cd pl st lk->B<=W.heap.size->W.heap[w.heap.size]?=M (O #[I 4,S t,I n] 174 (0,0))->Calls prog 180 #[D (p_ m),S (x.extract z x.size)] W λe w'=>e=H (F true)/\KB B m W w'/\Cl B w' m (r++[x.extract z x.size]) cd pl st lk/\w'.heap[w.heap.size]?=M (O #[I 4,S t,I n] 174 (0,0))):=λW h1 h2 h3=>put_keep w.heap.size _ B m r cd pl st lk (x.extract z x.size) W h1 h2 hpc qg h3 qg
 have HT:Hd (Calls prog 178 #[D (p_ m)] (w.alloc (O #[I 4,S t,I n] 174)) λe w'=>e=H (S x)/\KB B m (w.alloc (O #[I 4,S t,I n] 174)) w'/\Cl B w' m r cd pl st lk/\∀b,b≠m->w'.heap[b]?=(w.alloc (O #[I 4,S t,I n] 174)).heap[b]?):=Cm B m r x cd pl st lk _ ff fg qg
 have HBA:=Ab fh
 clear hM ff fh hpc
 go_enter func179,ntmps179
 go_wp2_with (first|(go_at_call 178;refine(HT.o).mono ?_;rintro e w1 ⟨rfl,ag,kj,cu⟩))
 have ir:=Nat.le_trans fg ag.size
 have M8:w1.heap[w.heap.size]?=M (O #[I 4,S t,I n] 174 (0,0)):=by rw[cu w.heap.size qg,Bf]
 have cn:=cK M8 2
 have fb:=Ab M8
 have lz:=Ab kj
 have bi:z<=x.size:=qg
 clear cu kj HT M8
 have hnI:(z:Int)<=(x.size:Int):=qg
 go_region_held3 (λw'=>w'.cell? ⟨w.heap.size,2,N⟩=M (I (n:Int)))
  (first|assumption|(simp[*];done)|(rw[cH jg];rfl))
  (first|(go_at_call 180;refine(HP.o _ ?_ ?_ ?_).mono ?_;(focus(exact lz.o.bl (Below.refl _ _).drew));(focus(simpa using ir));(focus(exact fb.o));rintro e w2 ⟨rfl,af,jy,jg⟩))
 all_goals
  obtain⟨d2,e2,_,_⟩:=jy.cell2;have G5:=Ab jy;exact qls
theorem work_word(B m:X)(r:L By)(x:By)(cd:Z)(pl st lk:Int)(t:By)(n:X)(w:E)(hM:Cl B w m (r++[x]) cd pl st lk)(hB:B<=w.heap.size)(yo:0<=pl)(jx:pl<=2000)(hn:n<=2000)(h2:r.length+1<=50)(hx:x.size<=2000)(hpc:(Lb x n).size<=2000):Calls prog 179 #[D (p_ m),G #[I 5,S t,I n]] w λe w'=>e=H (F true)/\KB B m w w'/\Cl B w' m (r++[Lb x n]) cd (pl+1) st lk:=by
 have fh:Bw w (w.alloc (O #[I 5,S t,I n] 174)):=aN _ _
 have Id:=hM.cell2.2.2.1
 have ff:=hM.bl fh
 obtain⟨c2,f2,zq,jz⟩:=ff.cell2
 have fg:B<=(w.alloc (O #[I 5,S t,I n] 174)).heap.size:=qj
 go_enter func179,ntmps179
 go_wp2_with fail
 go_region_with (first|(go_at_call 188;refine(wordAt_any x n _ hx hn).mono ?_;rintro e w9 ⟨rfl,rfl⟩)|(go_at_call 178;refine(Cm B m (r) x cd pl st lk _ ?_ ?_ ?_).mono ?_;(focus(exact ff));(focus(exact fg));(focus(first|omega|(simp;omega)));rintro e w1 ⟨rfl,ag,kj,cu⟩;have ir:B<=w1.heap.size:=(Nat.le_trans fg ag.size);obtain⟨dd1,ee1,_,_⟩:=kj.cell2;have cn:w1.cell? ⟨w.heap.size,2,N⟩=M (I (n:Int)):=(by rw[World.cell?_of_block (cu w.heap.size qg)];simp[go_sem]);clear cu)|(go_at_call 180;refine(Gu B m (r) cd pl st lk (Lb x n) _ ?_ ?_ hpc ?_).mono ?_;(focus(exact kj));(focus(exact ir));(focus(first|omega|(simp;omega)));rintro e w2 ⟨rfl,af,jy⟩;have o6:B<=w2.heap.size:=(Nat.le_trans ir af.size);obtain⟨dd2,ee2,_,_⟩:=jy.cell2))
 all_goals
  go_wp2;go_ret;exact⟨rfl,(((KB.old fh hB).drew.trans ag).trans af).setM 2 jz _,jy.place _⟩
theorem work_same(B m:X)(r:L By)(x y:By)(cd:Z)(pl st lk:Int)(t:By)(n:X)(w:E)(hM:Cl B w m (r++[x]++[y]) cd pl st lk)(hB:B<=w.heap.size)(yo:0<=pl)(jx:pl<=2000)(hn:n<=2000)(h2:r.length+2<=50)(hx:x.size<=2000)(hy:y.size<=2000)(hf:(Cz (x.toList == y.toList)).size<=2000):Calls prog 179 #[D (p_ m),G #[I 6,S t,I n]] w λe w'=>e=H (F true)/\KB B m w w'/\Cl B w' m (r++[Cz (x.toList == y.toList)]) cd (pl+1) st lk:=by
 have fh:Bw w (w.alloc (O #[I 6,S t,I n] 174)):=aN _ _
 have ff:=hM.bl fh
 obtain⟨c2,f2,zq,jz⟩:=ff.cell2
 have fg:B<=(w.alloc (O #[I 6,S t,I n] 174)).heap.size:=qj
 go_enter func179,ntmps179
 go_wp2_with fail
 go_region_with (first|(go_at_call 178;refine(Cm B m (r) x cd pl st lk _ ?_ ?_ ?_).mono ?_;(focus(exact kj));(focus(exact ir));(focus(first|omega|(simp;omega)));rintro e w2 ⟨rfl,af,jy,ib⟩;have o6:B<=w2.heap.size:=(Nat.le_trans ir af.size);obtain⟨dd2,ee2,_,_⟩:=jy.cell2;clear ib)|(go_at_call 178;refine(Cm B m (r++[x]) y cd pl st lk _ ?_ ?_ ?_).mono ?_;(focus(exact ff));(focus(exact fg));(focus(first|omega|(simp;omega)));rintro e w1 ⟨rfl,ag,kj,cu⟩;have ir:B<=w1.heap.size:=(Nat.le_trans fg ag.size);obtain⟨dd1,ee1,_,_⟩:=kj.cell2;clear cu))
 all_goals
  go_wp2_with fail
  go_region_with (first|(go_at_call 168;refine(Rn _ _).mono ?_;rintro e w9 ⟨rfl,rfl⟩)|(go_at_call 180;refine(Gu B m (r) cd pl st lk (Cz (x.toList == y.toList)) _ ?_ ?_ hf ?_).mono ?_;(focus(exact jy));(focus(exact o6));(focus(first|omega|(simp;omega)));rintro e w3 ⟨rfl,au,hM4⟩;have H8:B<=w3.heap.size:=(Nat.le_trans o6 au.size);obtain⟨dd3,ee3,_,_⟩:=hM4.cell2))
  all_goals
   go_wp2;go_ret;exact⟨rfl,(((KB.old fh hB).drew.trans ag).trans (af.trans ((KB.refl _ _ _).drew.trans au))).setM 2 jz _,hM4.place _⟩
theorem work_dup_ok(B m:X)(r:L By)(x:By)(cd:Z)(pl st lk:Int)(t:By)(n:X)(w:E)(hM:Cl B w m (r++[x]) cd pl st lk)(hB:B<=w.heap.size)(yo:0<=pl)(jx:pl<=2000)(hn:n<=2000)(h2:r.length+2<=50)(hx:x.size<=2000):Calls prog 179 #[D (p_ m),G #[I 7,S t,I n]] w λe w'=>e=H (F true)/\KB B m w w'/\Cl B w' m (r++[x]++[x]) cd (pl+1) st lk:=by
 have fh:Bw w (w.alloc (O #[I 7,S t,I n] 174)):=aN _ _
 have ff:=hM.bl fh
 obtain⟨c2,f2,zq,jz⟩:=ff.cell2
 have fg:B<=(w.alloc (O #[I 7,S t,I n] 174)).heap.size:=qj
 go_enter func179,ntmps179
 go_wp2_with (first|(go_at_call 178;refine(Cm B m (r) x cd pl st lk _ ?_ ?_ ?_).mono ?_;(focus(exact ff));(focus(exact fg));(focus(first|omega|(simp;omega)));rintro e w1 ⟨rfl,ag,kj,cu⟩;have ir:B<=w1.heap.size:=(Nat.le_trans fg ag.size);obtain⟨dd1,ee1,_,_⟩:=kj.cell2;clear cu)|(go_at_call 180;refine(Gu B m (r++[x]) cd pl st lk (x) _ ?_ ?_ hx ?_).mono ?_;(focus(exact jy));(focus(exact o6));(focus(first|omega|(simp;omega)));rintro e w3 ⟨rfl,au,hM4⟩;have H8:B<=w3.heap.size:=(Nat.le_trans o6 au.size);obtain⟨dd3,ee3,_,_⟩:=hM4.cell2)|(go_at_call 180;refine(Gu B m (r) cd pl st lk (x) _ ?_ ?_ hx ?_).mono ?_;(focus(exact kj));(focus(exact ir));(focus(first|omega|(simp;omega)));rintro e w2 ⟨rfl,af,jy⟩;have o6:B<=w2.heap.size:=(Nat.le_trans ir af.size);obtain⟨dd2,ee2,_,_⟩:=jy.cell2))
 go_ret
 exact⟨rfl,(((KB.old fh hB).trans ag).trans (af.trans au)).setM 2 jz _,hM4.place _⟩
theorem work_dup_no(B m:X)(r:L By)(x:By)(cd:Z)(pl st lk:Int)(t:By)(n:X)(w:E)(hM:Cl B w m (r++[x]) cd pl st lk)(hB:B<=w.heap.size)(yo:0<=pl)(jx:pl<=2000)(hn:n<=2000)(h2:r.length+1=50)(hx:x.size<=2000):Calls prog 179 #[D (p_ m),G #[I 7,S t,I n]] w λe w'=>e=H (F false)/\KB B m w w'/\Cl B w' m (r++[x]) cd pl st lk:=by
 have fh:Bw w (w.alloc (O #[I 7,S t,I n] 174)):=aN _ _
 have ff:=hM.bl fh
 obtain⟨c2,f2,zq,jz⟩:=ff.cell2
 have fg:B<=(w.alloc (O #[I 7,S t,I n] 174)).heap.size:=qj
 go_enter func179,ntmps179
 go_wp2_with (first|(go_at_call 178;refine(Cm B m (r) x cd pl st lk _ ?_ ?_ ?_).mono ?_;(focus(exact ff));(focus(exact fg));(focus(first|omega|(simp;omega)));rintro e w1 ⟨rfl,ag,kj,cu⟩;have ir:B<=w1.heap.size:=(Nat.le_trans fg ag.size);obtain⟨dd1,ee1,_,_⟩:=kj.cell2;clear cu)|(go_at_call 180;refine(put_no B m (r++[x]) cd pl st lk (x) _ ?_ ?_ ?_ ?_).mono ?_;(focus(exact jy));(focus(first|omega|(simp;omega)));(focus(first|omega|(simp;omega)));(focus(right;simp;omega));rintro e w3 ⟨rfl,rfl⟩)|(go_at_call 180;refine(Gu B m (r) cd pl st lk (x) _ ?_ ?_ hx ?_).mono ?_;(focus(exact kj));(focus(exact ir));(focus(first|omega|(simp;omega)));rintro e w2 ⟨rfl,af,jy⟩;have o6:B<=w2.heap.size:=(Nat.le_trans ir af.size);obtain⟨dd2,ee2,_,_⟩:=jy.cell2))
 go_ret
 exact⟨rfl,(((KB.old fh hB).trans ag).trans af),jy⟩
theorem work_swap(B m:X)(r:L By)(x y:By)(cd:Z)(pl st lk:Int)(t:By)(n:X)(w:E)(hM:Cl B w m (r++[x]++[y]) cd pl st lk)(hB:B<=w.heap.size)(yo:0<=pl)(jx:pl<=2000)(hn:n<=2000)(h2:r.length+2<=50)(hx:x.size<=2000)(hy:y.size<=2000):Calls prog 179 #[D (p_ m),G #[I 8,S t,I n]] w λe w'=>e=H (F true)/\KB B m w w'/\Cl B w' m (r++[y]++[x]) cd (pl+1) st lk:=by
 have fh:Bw w (w.alloc (O #[I 8,S t,I n] 174)):=aN _ _
 have ff:=hM.bl fh
 obtain⟨c2,f2,zq,jz⟩:=ff.cell2
 have fg:B<=(w.alloc (O #[I 8,S t,I n] 174)).heap.size:=qj
 have HBA:=Ab fh
 have A9:=Ab ff
 clear hM ff fh
 go_enter func179,ntmps179
 go_wp2_with fail
 go_region_held3 (λw'=>B<=w'.heap.size)
  (first|assumption|(simpa using fg)|exact Nat.le_trans ir af.size|exact Nat.le_trans fg (by simpa using ag.size))
  (first|(go_at_call 178;refine(Cm B m (r) x cd pl st lk _ ?_ ?_ ?_).mono ?_;(focus(exact lz.o));(focus(exact ir));(focus(omega));rintro e w2 ⟨rfl,af,jy,ib⟩;have G5:Hd (Cl B w2 m r cd pl st lk):=jy;clear jy ib)|(go_at_call 178;refine(Cm B m (r++[x]) y cd pl st lk _ ?_ ?_ ?_).mono ?_;(focus(exact A9.o.bl (Below.refl _ _).drew));(focus(simpa using fg));(focus(simp;omega));rintro e w1 ⟨rfl,ag,kj,cu⟩;have ir:B<=w1.heap.size:=(Nat.le_trans fg (by simpa using ag.size));have lz:Hd (Cl B w1 m (r++[x]) cd pl st lk):=kj;clear kj cu))
 have o6:=Nat.le_trans ir af.size
 have bg:KB B m w w2:=((KB.old HBA.o hB).drew.trans ag).trans af
 clear ag af A9 lz
 go_wp2_with fail
 refine(Gu B m r cd pl st lk y _ G5.o o6 hy qg).mono ?_
 rintro e w3 ⟨rfl,au,hM4⟩
 have HM4:=Ab hM4
 have H8:=Nat.le_trans o6 au.size
 have ig:=bg.trans au
 clear hM4 G5 au bg
 go_wp2_with fail
 refine(Gu B m (r++[y]) cd pl st lk x _ HM4.o H8 hx qj).mono ?_
 rintro e w4 ⟨rfl,bp,hM5⟩
 obtain⟨d2,e2,_,_⟩:=hM5.cell2
 have S5:=Ab hM5
 have jj:=ig.trans bp
 clear hM5 HM4 bp ig
 go_wp2
 go_ret
 exact⟨rfl,jj.setM 2 jz _,S5.o.place _⟩
section
theorem Kg(x:By)(a b:X):(x.extract a b).size<=x.size:=by rw[ByteArray.size_extract];omega
theorem Qj(s:By):∀(d n st i:X),s.size-i<=d->(Bn s n st i).size<=s.size
 | 0,n,st,i,h=>by
  rw[pf_end qg];split
  ·exact Kg _ _ _
  ·exact Nat.zero_le _
 | d+1,n,st,i,h=>by
  by_cases hi:i<s.size
  ·by_cases hg:Rr s[i]=true
   ·by_cases cr:st<i
    ·by_cases hn:n=0
     ·subst hn;rw[pf_gap0 hi hg cr];exact Kg _ _ _
     ·rw[pf_gapS hi hg cr hn];exact Qj s d _ _ _ qg
    ·rw[pf_none hi hg cr];exact Qj s d _ _ _ qg
   ·rw[pf_in hi (by simpa using hg)];exact Qj s d _ _ _ qg
  ·rw[pf_end hi];split
   ·exact Kg _ _ _
   ·exact Nat.zero_le _
theorem Vw(b:Bool):(Cz b).size=1:=by cases b<;>rfl
theorem split0(l:L By):Bq l 0=l:=by simp[Bq]
theorem Ka{l:L By}(h:1<=l.length):l=Bq l 1++[Cc l]:=by
 unfold Bq Cc
 have e:l.take (l.length-1+1)=l.take (l.length-1)++[l[l.length-1]]:=List.take_succ_eq_append_getElem qg
 rw[gG,Hq (show l.length-1<l.length from qg),Option.getD_some,<- e,List.take_of_length_le qg]
theorem split2{l:L By}(h:2<=l.length):l=Bq l 2++[Jp l]++[Cc l]:=by
 have h1:=Ka (l:=l) qg
 have e:l.take (l.length-2+1)=l.take (l.length-2)++[l[l.length-2]]:=List.take_succ_eq_append_getElem qg
 have h2:Bq l 1=Bq l 2++[Jp l]:=by
  unfold Bq Jp;rw[gG,Hq (show l.length-2<l.length from qg),Option.getD_some,<- e];congr 1;omega
 rw[<- h2];exact h1
theorem Bi(l:L By)(k:X):(Bq l k).length=l.length-k:=by simp[Bq]
theorem Hh{l:L By}(h:1<=l.length):Cc l∈l:=by
 unfold Cc
 rw[gG,Hq (show l.length-1<l.length from qg),Option.getD_some]
 exact List.getElem_mem _
theorem Zx{l:L By}(h:2<=l.length):Jp l∈l:=by
 unfold Jp
 rw[gG,Hq (show l.length-2<l.length from qg),Option.getD_some]
 exact List.getElem_mem _
def Um(o:X)(t:By)(n:X)(l:L By):Prop:=50<(Bq l (Aw o)).length+(Dd o t n (Cc l) (Jp l)).length\/∃x∈Dd o t n (Cc l) (Jp l),2000<x.size
def Cp(o:X)(t:By)(n:X)(l:L By)(B m:X)(cd:Z)(pl:X)(st lk:Int)(w:E)(e:Ending)(w':E):Prop:=
 KB B m w w'/\((e=H (F true)/\¬ Um o t n l/\Cl B w' m (Bq l (Aw o)++Dd o t n (Cc l) (Jp l)) cd (Fs o n pl (Cc l):X) st lk)\/(e=H (F false)/\Um o t n l/\∃ss,Cl B w' m ss cd pl st lk))
variable (B m:X) (l:L By) (cd:Z) (pl:X) (st lk:Int) (t:By) (n:X) (w:E)
theorem Em{o n pl:X}{a:By}(h:o≠10)(h2:o≠11):Fs o n pl a=pl+1:=by simp[Fs,h,h2]
theorem work_1(hM:Cl B w m l cd pl st lk)(hB:B<=w.heap.size)(jx:pl<=200)(hn:n<=2000)(dm:l.length<=50)(de:∀x∈l,x.size<=2000)(ht:t.size<=2000):Calls prog 179 #[D (p_ m),G #[I 1,S t,I n]] w λe w'=>Cp 1 t n l B m cd pl st lk w e w':=by
 unfold Cp Um
 rw[show Aw 1=0 from rfl,split0]
 by_cases h:l.length<50
 ·refine(work_lit_ok B m l cd pl st lk t n w hM hB ht h qg qg).mono λe w' ⟨h1,h2,h3⟩=>⟨h2,Or.inl ⟨h1,?_,by rw[Em qh qh];exact h3⟩⟩;simp[Dd];omega
 ·refine(work_lit_no B m l cd pl st lk t n w hM hB qg qg hn ht qg).mono λe w' ⟨h1,h2,h3⟩=>⟨h2,Or.inr ⟨h1,?_,_,h3⟩⟩;simp[Dd];omega
theorem work_2(hM:Cl B w m l cd pl st lk)(hB:B<=w.heap.size)(jx:pl<=200)(hn:n<=2000)(dm:l.length<=50)(de:∀x∈l,x.size<=2000)(fk:2<=l.length):Calls prog 179 #[D (p_ m),G #[I 2,S t,I n]] w λe w'=>Cp 2 t n l B m cd pl st lk w e w':=by
 have hs:=split2 fk
 have hr:=Bi l 2
 have hx:=de _ (Hh (show 1<=l.length from qg))
 have hy:=de _ (Zx fk)
 unfold Cp Um
 rw[show Aw 2=2 from rfl]
 rw[hs]at hM
 revert hM hr hx hy
 generalize Bq l 2=r
 generalize Cc l=y
 generalize Jp l=x
 intro hM hr hx hy
 have hc:(x++y).size=x.size+y.size:=ByteArray.size_append
 by_cases h:(x++y).size<=2000
 ·refine(work_cat_ok B m r x y cd pl st lk t n w hM hB qg qg hn qg hy hx h).mono λe w' ⟨h1,h2,h3⟩=>⟨h2,Or.inl ⟨h1,?_,by rw[Em qh qh];exact h3⟩⟩;simp[Dd];omega
 ·refine(work_cat_no B m r x y cd pl st lk t n w hM hB qg qg hn qg hy hx qg qg).mono λe w' ⟨h1,h2,h3⟩=>⟨h2,Or.inr ⟨h1,?_,_,h3⟩⟩;simp[Dd];omega
theorem work_3(hM:Cl B w m l cd pl st lk)(hB:B<=w.heap.size)(jx:pl<=200)(hn:n<=2000)(dm:l.length<=50)(de:∀x∈l,x.size<=2000)(fk:1<=l.length):Calls prog 179 #[D (p_ m),G #[I 3,S t,I n]] w λe w'=>Cp 3 t n l B m cd pl st lk w e w':=by
 have hs:=Ka fk
 have hr:=Bi l 1
 have hx:=de _ (Hh fk)
 unfold Cp Um
 rw[show Aw 3=1 from rfl]
 rw[hs]at hM
 revert hM hr hx
 generalize Bq l 1=r
 generalize Cc l=x
 intro hM hr hx
 have hpc:=Kg x 0 (min n x.size)
 refine(work_cut B m r x cd pl st lk t n w hM hB qg qg hn qg hx (min n x.size) qg qg).mono λe w' ⟨h1,h2,h3⟩=>⟨h2,Or.inl ⟨h1,?_,by rw[Em qh qh];exact h3⟩⟩
 exact qdm
theorem work_4(hM:Cl B w m l cd pl st lk)(hB:B<=w.heap.size)(jx:pl<=200)(hn:n<=2000)(dm:l.length<=50)(de:∀x∈l,x.size<=2000)(fk:1<=l.length):Calls prog 179 #[D (p_ m),G #[I 4,S t,I n]] w λe w'=>Cp 4 t n l B m cd pl st lk w e w':=by
 have hs:=Ka fk
 have hr:=Bi l 1
 have hx:=de _ (Hh fk)
 unfold Cp Um
 rw[show Aw 4=1 from rfl]
 rw[hs]at hM
 revert hM hr hx
 generalize Bq l 1=r
 generalize Cc l=x
 intro hM hr hx
 have hpc:=Kg x (min n x.size) x.size
 refine(work_rest B m r x cd pl st lk t n w hM hB qg qg hn qg hx (min n x.size) qg qg).mono λe w' ⟨h1,h2,h3⟩=>⟨h2,Or.inl ⟨h1,?_,by rw[Em qh qh];exact h3⟩⟩
 exact qdm
theorem work_5(hM:Cl B w m l cd pl st lk)(hB:B<=w.heap.size)(jx:pl<=200)(hn:n<=2000)(dm:l.length<=50)(de:∀x∈l,x.size<=2000)(fk:1<=l.length):Calls prog 179 #[D (p_ m),G #[I 5,S t,I n]] w λe w'=>Cp 5 t n l B m cd pl st lk w e w':=by
 have hs:=Ka fk
 have hr:=Bi l 1
 have hx:=de _ (Hh fk)
 unfold Cp Um
 rw[show Aw 5=1 from rfl]
 rw[hs]at hM
 revert hM hr hx
 generalize Bq l 1=r
 generalize Cc l=x
 intro hM hr hx
 have hpc:(Lb x n).size<=x.size:=Qj x x.size n 0 0 qg
 refine(work_word B m r x cd pl st lk t n w hM hB qg qg hn qg hx qg).mono λe w' ⟨h1,h2,h3⟩=>⟨h2,Or.inl ⟨h1,?_,by rw[Em qh qh];exact h3⟩⟩
 exact qdm
theorem work_6(hM:Cl B w m l cd pl st lk)(hB:B<=w.heap.size)(jx:pl<=200)(hn:n<=2000)(dm:l.length<=50)(de:∀x∈l,x.size<=2000)(fk:2<=l.length):Calls prog 179 #[D (p_ m),G #[I 6,S t,I n]] w λe w'=>Cp 6 t n l B m cd pl st lk w e w':=by
 have hs:=split2 fk
 have hr:=Bi l 2
 have hx:=de _ (Hh (show 1<=l.length from qg))
 have hy:=de _ (Zx fk)
 unfold Cp Um
 rw[show Aw 6=2 from rfl]
 rw[hs]at hM
 revert hM hr hx hy
 generalize Bq l 2=r
 generalize Cc l=y
 generalize Jp l=x
 intro hM hr hx hy
 have hf:=Vw (x.toList == y.toList)
 refine(work_same B m r x y cd pl st lk t n w hM hB qg qg hn qg hy hx qg).mono λe w' ⟨h1,h2,h3⟩=>⟨h2,Or.inl ⟨h1,?_,by rw[Em qh qh];exact h3⟩⟩
 exact qdm
theorem work_7(hM:Cl B w m l cd pl st lk)(hB:B<=w.heap.size)(jx:pl<=200)(hn:n<=2000)(dm:l.length<=50)(de:∀x∈l,x.size<=2000)(fk:1<=l.length):Calls prog 179 #[D (p_ m),G #[I 7,S t,I n]] w λe w'=>Cp 7 t n l B m cd pl st lk w e w':=by
 have hs:=Ka fk
 have hr:=Bi l 1
 have hx:=de _ (Hh fk)
 unfold Cp Um
 rw[show Aw 7=1 from rfl]
 rw[hs]at hM
 revert hM hr hx
 generalize Bq l 1=r
 generalize Cc l=x
 intro hM hr hx
 by_cases h:r.length+2<=50
 ·refine(work_dup_ok B m r x cd pl st lk t n w hM hB qg qg hn h hx).mono λe w' ⟨h1,h2,h3⟩=>⟨h2,Or.inl ⟨h1,?_,by rw[Em qh qh];simpa [Dd] using h3⟩⟩;simp[Dd];omega
 ·refine(work_dup_no B m r x cd pl st lk t n w hM hB qg qg hn qg hx).mono λe w' ⟨h1,h2,h3⟩=>⟨h2,Or.inr ⟨h1,?_,_,h3⟩⟩;simp[Dd];omega
theorem work_8(hM:Cl B w m l cd pl st lk)(hB:B<=w.heap.size)(jx:pl<=200)(hn:n<=2000)(dm:l.length<=50)(de:∀x∈l,x.size<=2000)(fk:2<=l.length):Calls prog 179 #[D (p_ m),G #[I 8,S t,I n]] w λe w'=>Cp 8 t n l B m cd pl st lk w e w':=by
 have hs:=split2 fk
 have hr:=Bi l 2
 have hx:=de _ (Hh (show 1<=l.length from qg))
 have hy:=de _ (Zx fk)
 unfold Cp Um
 rw[show Aw 8=2 from rfl]
 rw[hs]at hM
 revert hM hr hx hy
 generalize Bq l 2=r
 generalize Cc l=y
 generalize Jp l=x
 intro hM hr hx hy
 refine(work_swap B m r x y cd pl st lk t n w hM hB qg qg hn qg hy hx).mono λe w' ⟨h1,h2,h3⟩=>⟨h2,Or.inl ⟨h1,?_,by rw[Em qh qh];simpa [Dd] using h3⟩⟩
 simp[Dd];omega
theorem work_9(hM:Cl B w m l cd pl st lk)(hB:B<=w.heap.size)(jx:pl<=200)(hn:n<=2000)(dm:l.length<=50)(de:∀x∈l,x.size<=2000)(fk:1<=l.length):Calls prog 179 #[D (p_ m),G #[I 9,S t,I n]] w λe w'=>Cp 9 t n l B m cd pl st lk w e w':=by
 have hs:=Ka fk
 have hr:=Bi l 1
 have hx:=de _ (Hh fk)
 unfold Cp Um
 rw[show Aw 9=1 from rfl]
 rw[hs]at hM
 revert hM hr hx
 generalize Bq l 1=r
 generalize Cc l=x
 intro hM hr hx
 refine(work_drop B m r x cd pl st lk t n w hM hB qg qg hn qg).mono λe w' ⟨h1,h2,h3⟩=>⟨h2,Or.inl ⟨h1,?_,by rw[Em qh qh];simpa [Dd] using h3⟩⟩
 simp[Dd];omega
theorem work_10(hM:Cl B w m l cd pl st lk)(hB:B<=w.heap.size)(jx:pl<=200)(hn:n<=2000)(dm:l.length<=50)(de:∀x∈l,x.size<=2000):Calls prog 179 #[D (p_ m),G #[I 10,S t,I n]] w λe w'=>Cp 10 t n l B m cd pl st lk w e w':=by
 unfold Cp Um
 rw[show Aw 10=0 from rfl,split0]
 refine(work_jump B m l cd pl st lk t n w hM hB qg qg hn).mono λe w' ⟨h1,h2,h3⟩=>⟨h2,Or.inl ⟨h1,?_,by simpa [Dd,Fs] using h3⟩⟩
 simp[Dd];omega
theorem work_11(hM:Cl B w m l cd pl st lk)(hB:B<=w.heap.size)(jx:pl<=200)(hn:n<=2000)(dm:l.length<=50)(de:∀x∈l,x.size<=2000)(fk:1<=l.length):Calls prog 179 #[D (p_ m),G #[I 11,S t,I n]] w λe w'=>Cp 11 t n l B m cd pl st lk w e w':=by
 have hs:=Ka fk
 have hr:=Bi l 1
 have hx:=de _ (Hh fk)
 unfold Cp Um
 rw[show Aw 11=1 from rfl]
 rw[hs]at hM
 revert hM hr hx
 generalize Bq l 1=r
 generalize Cc l=x
 intro hM hr hx
 by_cases hx1:x.toList.isEmpty=true
 ·refine(Wq B m r x cd pl st lk t n w hM hB qg qg hn qg hx1).mono λe w' ⟨h1,h2,h3⟩=>⟨h2,Or.inl ⟨h1,?_,by simpa [Dd,Fs,Mg,hx1] using h3⟩⟩;simp[Dd];omega
 ·have hx1':x.toList.isEmpty=false:=by simpa using hx1
  by_cases hx2:(x.toList == [48])=true
  ·refine(Wp B m r x cd pl st lk t n w hM hB qg qg hn qg hx1' hx2).mono λe w' ⟨h1,h2,h3⟩=>⟨h2,Or.inl ⟨h1,?_,by
    (have e1:Mg x=true:=by simp only[Mg,hx2,Bool.or_true]);simpa [Dd,Fs,e1] using h3⟩⟩
   simp[Dd];omega
  ·have hx2':(x.toList == [48])=false:=by simpa using hx2
   refine(Wo B m r x cd pl st lk t n w hM hB qg qg hn qg hx1' hx2').mono λe w' ⟨h1,h2,h3⟩=>⟨h2,Or.inl ⟨h1,?_,by
    (have e1:Mg x=false:=by simp only[Mg,hx1',hx2',Bool.or_false]);simpa [Dd,Fs,e1] using h3⟩⟩
   simp[Dd];omega
theorem work_any(o:X)(hM:Cl B w m l cd pl st lk)(hB:B<=w.heap.size)(jx:pl<=200)(hn:n<=2000)(dm:l.length<=50)(de:∀x∈l,x.size<=2000)(ht:t.size<=2000)(h1:1<=o)(h2:o<=11)(fk:Aw o<=l.length):Calls prog 179 #[D (p_ m),G #[I (o:Int),S t,I n]] w λe w'=>Cp o t n l B m cd pl st lk w e w':=by
 rcases(show o=1\/o=2\/o=3\/o=4\/o=5\/o=6\/o=7\/o=8\/o=9\/o=10\/o=11 from qg)with rfl|rfl|rfl|rfl|rfl|rfl|rfl|rfl|rfl|rfl|rfl
 ·exact work_1 B m l cd pl st lk t n w hM hB jx hn dm de ht
 ·exact work_2 B m l cd pl st lk t n w hM hB jx hn dm de fk
 ·exact work_3 B m l cd pl st lk t n w hM hB jx hn dm de fk
 ·exact work_4 B m l cd pl st lk t n w hM hB jx hn dm de fk
 ·exact work_5 B m l cd pl st lk t n w hM hB jx hn dm de fk
 ·exact work_6 B m l cd pl st lk t n w hM hB jx hn dm de fk
 ·exact work_7 B m l cd pl st lk t n w hM hB jx hn dm de fk
 ·exact work_8 B m l cd pl st lk t n w hM hB jx hn dm de fk
 ·exact work_9 B m l cd pl st lk t n w hM hB jx hn dm de fk
 ·exact work_10 B m l cd pl st lk t n w hM hB jx hn dm de
 ·exact work_11 B m l cd pl st lk t n w hM hB jx hn dm de fk
end
theorem Mv.belowB(h:Mv w)(hb:Below B w w')(hB:2<B):Mv w':=λo ho=>
 ⟨(hb.cell (p:=⟨0,_,N⟩) (Nat.lt_of_le_of_lt (Nat.zero_le _) hB)).trans (h o ho).1,(hb.cell (p:=⟨0,_,N⟩) (Nat.lt_of_le_of_lt (Nat.zero_le _) hB)).trans (h o ho).2.1,(hb.cell (p:=⟨0,_,N⟩) (Nat.lt_of_le_of_lt (Nat.zero_le _) hB)).trans (h o ho).2.2⟩
theorem Cl.looks{lk:Int}(h:Cl B w m ss cd pl st lk)(p:Int):Cl B (w.setCell ⟨m,4,N⟩ (I p)) m ss cd pl st p:=by
 obtain⟨hB,v,hm,ho⟩:=h
 refine⟨hB,v,?_,?_⟩
 ·exact qdy
 ·have hne:=hm.ne' ho;refine⟨ho.1,?_⟩
  rcases ho.2 with h0|⟨g,cap,cur,hv,hg,hh,r⟩
  ·exact Or.inl h0
  ·refine Or.inr ⟨g,cap,cur,hv,hg,?_,r⟩;rw[Dm w ⟨m,4,N⟩ _ g qcs];exact hh
theorem Cl.cells{lk:Int}(h:Cl B w m ss cd pl st lk):w.cell? ⟨m,3,N⟩=M (I st)/\w.cell? ⟨m,4,N⟩=M (I lk)/\w.frozen? ⟨m,4,N⟩=false/\m<w.heap.size/\B<=m:=by
 obtain⟨hB,v,hm,ho⟩:=h
 exact⟨qbf,qbf,fH hm 4,hm.lt,hB⟩
theorem Cl.turn{lk:Int}{b:X}(h:Cl B w m ss cd pl st lk/\∃cs,w.heap[b]?=M (O cs 187 (0,0)))(j:X)(x:Z):Cl B (w.setCell ⟨b,j,N⟩ x) m ss cd pl st lk/\∃cs,(w.setCell ⟨b,j,N⟩ x).heap[b]?=M (O cs 187 (0,0)):=by
 obtain⟨⟨hB,v,hm,ho⟩,cs,hb⟩:=h
 have hmb:m≠b:=by
  rintro rfl;unfold Hp at hm;rw[hm]at hb;simp at hb
 refine⟨⟨hB,v,?_,ho.1,?_⟩,_,jB hb x⟩
 ·unfold Hp at *;rw[Dm w ⟨b,j,N⟩ _ m hmb];exact hm
 ·rcases ho.2 with h0|⟨g,cap,cur,hv,hg,hh,r⟩
  ·exact Or.inl h0
  ·refine Or.inr ⟨g,cap,cur,hv,hg,?_,r⟩
   have wz:g≠b:=by
    rintro rfl;rw[hh]at hb;simp at hb
   rw[Dm w ⟨b,j,N⟩ _ g wz];exact hh
theorem Yt(B m:X)(r:L By)(x:By)(cd:Z)(pl st lk:Int)(ask:Bool)(w:E)(hM:Cl B w m (r++[x]) cd pl st lk)(hB:B<=w.heap.size)(h2:r.length<50)(hx:x.size<=2000)(hn:Ao x)(hl0:0<=lk)(uu:lk<200):Calls prog 177 #[D (p_ m),F ask] w λe w'=>e=H (Bc false 0 ⟨#[]⟩ ask x st)/\KB B m w w'/\Cl B w' m r cd pl st (lk+1):=by
 have ll:=Dc hn
 have d1:(lk == 200)=false:=qj
 go_enter func177,ntmps177
 go_wp2_with fail
 have Id:=hM.cells.2.2.2.1
 have fh:Bw w (w.alloc (O #[F false,I 0,ze,F false,ze,I 0] 187)):=aN _ _
 refine(Cm B m r x cd pl st lk _ (hM.bl fh) qj h2).mono ?_
 rintro e w1 ⟨rfl,ag,ff,cu⟩
 have ba:w1.heap[w.heap.size]?=M (O #[F false,I 0,ze,F false,ze,I 0] 187 (0,0)):=by
  rw[cu _ qg,Bf]
 obtain⟨k0,k1,k2,k3,k4,k5⟩:=Zc ba
 have f0:=fZ ba
 obtain⟨c3,c4,f4,_,jz⟩:=ff.cells
 have hne':w.heap.size≠m:=qg
 have HM:Hd (Cl B (w1.setCell ⟨m,4,N⟩ (I (lk+1))) m r cd pl st (lk+1)/\∃cs,(w1.setCell ⟨m,4,N⟩ (I (lk+1))).heap[w.heap.size]?=M (O cs 187 (0,0))):=⟨ff.looks _,_,by rw[Dm w1 ⟨m,4,N⟩ _ _ hne'];exact ba⟩
 have HB:=Ab ((KB.old fh hB).trans ag)
 clear ff cu ba hM fh ag Id
 go_wp2_with (first|(go_at_call 96;refine(Dq x _ qg).mono ?_;rintro e w9 ⟨rfl,rfl⟩))
 exact bR (v:=Bc false 0 ⟨#[]⟩ ask x st) qgr rfl ⟨rfl,((((((HB.o.setM 4 jz _).setN 0 hB _).setN 1 hB _).setN 2 hB _).setN 3 hB _).setN 4 hB _).setN 5 hB _,(Cl.turn (Cl.turn (Cl.turn (Cl.turn (Cl.turn (Cl.turn HM.o 0 _) 1 _) 2 _) 3 _) 4 _) 5 _).1⟩
theorem Pg.belowB(h:Pg w)(hb:Below B w w')(hB:2<B):Pg w':=by
 unfold Pg Lib.TabIs World.var? at *
 rw[show prog.globalNamed "internal/strconv.uint64pow10"=M 2 from qk]at *
 simp only[Option.bind_some]at *
 rw[hb.block 2 qg]
 exact h
theorem look_bad(B m:X)(r:L By)(x:By)(cd:Z)(pl st lk:Int)(ask:Bool)(w:E)(hM:Cl B w m (r++[x]) cd pl st lk)(hB:B<=w.heap.size)(h2:r.length<50)(hx:x.size<=2000)(hP:Pg w)(bm:2<B)(yo:0<=pl)(jx:pl<=2000)(hn:¬ Ao x):Calls prog 177 #[D (p_ m),F ask] w λe w'=>e=H (Bc true 2 ⟨(Lib.decDigits pl.toNat).toArray⟩ false ⟨#[]⟩ st)/\KB B m w w':=by
 have ll:=Ct hn
 generalize hq:(⟨(Lib.decDigits pl.toNat).toArray⟩:By)=q
 go_enter func177,ntmps177
 go_wp2_with fail
 have Id:=hM.cells.2.2.2.1
 have fh:Bw w (w.alloc (O #[F false,I 0,ze,F false,ze,I 0] 187)):=aN _ _
 refine(Cm B m r x cd pl st lk _ (hM.bl fh) qj h2).mono ?_
 rintro e w1 ⟨rfl,ag,ff,cu⟩
 have ba:w1.heap[w.heap.size]?=M (O #[F false,I 0,ze,F false,ze,I 0] 187 (0,0)):=by
  rw[cu _ qg,Bf]
 have HB:=Ab ((KB.old fh hB).trans ag)
 have HP:=Ab (hP.belowB HB.o.bl bm)
 have Q1:w.heap.size<w1.heap.size:=by
  exact qlt
 obtain⟨c3,c4,f4,_,jz⟩:=ff.cells
 obtain⟨_,v,sd,_⟩:=ff
 clear cu hM fh ag Id hP
 go_wp2_with (first|(go_at_call 96;refine(Dq x _ qg).mono ?_;rintro e w9 ⟨rfl,rfl⟩))
 refine(Ny m v cd pl st lk _ sd HP.o yo jx).mono ?_
 rintro e w2 ⟨rfl,af⟩
 rw[hq]
 have vt:w2.heap[w.heap.size]?=M (O #[F false,I 0,ze,F false,ze,I 0] 187 (0,0)):=by
  rw[af.block _ Q1];exact ba
 obtain⟨k0,k1,k2,k3,k4,k5⟩:=Zc vt
 have f0:=fZ vt
 have dy:Hd (KB B m w w2):=HB.o.trans (KB.old af qg)
 clear ba vt af sd c3 c4 f4
 unfold Bc
 go_wp2
 exact bR (v:=Bc true 2 q false ⟨#[]⟩ st) qgr rfl ⟨rfl,(((((dy.o.setN 0 hB _).setN 1 hB _).setN 2 hB _).setN 3 hB _).setN 4 hB _).setN 5 hB _⟩
theorem Vo(B m:X)(r:L By)(x:By)(cd:Z)(pl st lk:Int)(ask:Bool)(w:E)(hM:Cl B w m (r++[x]) cd pl st lk)(hB:B<=w.heap.size)(h2:r.length<50)(hx:x.size<=2000)(hP:Pg w)(bm:2<B)(yo:0<=pl)(jx:pl<=2000)(hn:Ao x)(hl:lk=200):Calls prog 177 #[D (p_ m),F ask] w λe w'=>e=H (Bc true 3 ⟨#[]⟩ false ⟨#[]⟩ st)/\KB B m w w':=by
 have ll:=Dc hn
 subst hl
 go_enter func177,ntmps177
 go_wp2_with fail
 have Id:=hM.cells.2.2.2.1
 have fh:Bw w (w.alloc (O #[F false,I 0,ze,F false,ze,I 0] 187)):=aN _ _
 refine(Cm B m r x cd pl st 200 _ (hM.bl fh) qj h2).mono ?_
 rintro e w1 ⟨rfl,ag,ff,cu⟩
 have ba:w1.heap[w.heap.size]?=M (O #[F false,I 0,ze,F false,ze,I 0] 187 (0,0)):=by
  rw[cu _ qg,Bf]
 have HB:=Ab ((KB.old fh hB).trans ag)
 have HP:=Ab (hP.belowB HB.o.bl bm)
 have Q1:w.heap.size<w1.heap.size:=by
  exact qlt
 obtain⟨c3,c4,f4,_,jz⟩:=ff.cells
 obtain⟨_,v,sd,_⟩:=ff
 clear cu hM fh ag Id hP
 go_wp2_with (first|(go_at_call 96;refine(Dq x _ qg).mono ?_;rintro e w9 ⟨rfl,rfl⟩))
 refine(Kd m v cd pl st 200 3 ⟨#[]⟩ _ sd).mono ?_
 rintro e w2 ⟨rfl,af⟩
 have vt:w2.heap[w.heap.size]?=M (O #[F false,I 0,ze,F false,ze,I 0] 187 (0,0)):=by
  rw[af.block _ Q1];exact ba
 obtain⟨k0,k1,k2,k3,k4,k5⟩:=Zc vt
 have f0:=fZ vt
 have dy:Hd (KB B m w w2):=HB.o.trans (KB.old af qg)
 clear ba vt af sd c3 c4 f4
 unfold Bc
 go_wp2
 exact bR (v:=Bc true 3 ⟨#[]⟩ false ⟨#[]⟩ st) qgr rfl ⟨rfl,(((((dy.o.setN 0 hB _).setN 1 hB _).setN 2 hB _).setN 3 hB _).setN 4 hB _).setN 5 hB _⟩
end Go.Proofs.YtnflkpmmfpfhlaaGreatDoor
