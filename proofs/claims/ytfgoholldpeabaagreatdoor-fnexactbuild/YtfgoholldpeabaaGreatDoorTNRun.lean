import Derived.Test.YtfgoholldpeabaaGreatDoorTNWork2
namespace Go.Proofs.YtfgoholldpeabaaGreatDoor
open _root_.Go.Proofs.Tryz Go.RowKit
set_option linter.unusedVariables false
set_option maxHeartbeats 8000000
set_option maxRecDepth 100000
set_option linter.unusedSimpArgs false
variable {B m:Nat} {w w':World} {ss:List By} {cd:Value} {pl st:Int}
theorem Qat (b:Nat) (cs:Array Value) (B m:Nat) (ss:List By) (cd:Value) (pl st lk:Int) (t:By) (w:World) (hM:Cd B w m ss cd pl st lk) (hB:B<=w.heap.size) (h1:t.size<=2000) (h2:ss.length<50) (hbk:w.heap[b]?=some (.cells cs 128 (0,0))) (vv:b≠m) :
  Calls prog 175 #[.pointer (p_ m),.string t] w fun e w'=>e=.returned (.bool true)/\KB B m w w'/\Cd B w' m (ss++[t]) cd pl st lk/\w'.heap[b]?=some (.cells cs 128 (0,0)):=
 (Fw B m ss cd pl st lk t w hM hB h1 h2).mono fun e w' ⟨k1,k2,k3⟩=>⟨k1,k2,k3,k2.keep b cs 128 qd vv hbk⟩
theorem work_cut (B m:Nat) (r:List By) (x:By) (cd:Value) (pl st lk:Int) (t:By) (n:Nat) (w:World) (hM:Cd B w m (r++[x]) cd pl st lk) (hB:B<=w.heap.size) (ws:0<=pl) (jd:pl<=2000) (hn:n<=2000) (h2:r.length+1<=50) (hx:x.size<=2000) (z:Nat) (hmin:min (n:Int) (x.size:Int)=(z:Int)) (hpc:(x.extract 0 z).size<=2000) :
  Calls prog 174 #[.pointer (p_ m),.agg #[I 3,.string t,I n]] w fun e w'=>e=.returned (.bool true)/\KB B m w w'/\Cd B w' m (r++[x.extract 0 z]) cd (pl+1) st lk:=by
 have fe:Bw w (w.alloc (.cells #[I 3,.string t,I n] 128)):=aN _ _
 have ue:=hM.cell2.2.2.1
 have fb:=hM.bl fe
 obtain⟨c2,f2,wu,jr⟩:=fb.cell2
 have eg:B<=(w.alloc (.cells #[I 3,.string t,I n] 128)).heap.size:=qh
 have HP:Hd (∀ W:World,Cd B W m r cd pl st lk->B<=W.heap.size->W.heap[w.heap.size]?=some (.cells #[I 3,.string t,I n] 128 (0,0))->Calls prog 175 #[.pointer (p_ m),.string (x.extract 0 z)] W fun e w'=>e=.returned (.bool true)/\KB B m W w'/\Cd B w' m (r++[x.extract 0 z]) cd pl st lk/\w'.heap[w.heap.size]?=some (.cells #[I 3,.string t,I n] 128 (0,0))):=fun W h1 h2 h3=>Qat w.heap.size _ B m r cd pl st lk (x.extract 0 z) W h1 h2 hpc qb h3 qb
 have HT:Hd (Calls prog 173 #[.pointer (p_ m)] (w.alloc (.cells #[I 3,.string t,I n] 128)) fun e w'=>e=.returned (.string x)/\KB B m (w.alloc (.cells #[I 3,.string t,I n] 128)) w'/\Cd B w' m r cd pl st lk/\∀ b,b≠m->w'.heap[b]?=(w.alloc (.cells #[I 3,.string t,I n] 128)).heap[b]?):=Cg B m r x cd pl st lk _ fb eg qb
 have HBA:=hid fe
 clear hM fb fe hpc
 go_enter func174,ntmps174
 go_wp2_with (first|(go_at_call 173;refine(HT.o).mono ?_;rintro e w1 ⟨rfl,af,jv,ce⟩))
 have gp:=Nat.le_trans eg af.size
 have C0:w1.heap[w.heap.size]?=some (.cells #[I 3,.string t,I n] 128 (0,0)):=by rw[ce w.heap.size qb,Be]
 have cn:=cK C0 2
 have d6:=hid C0
 have l5:=hid jv
 have bh:z<=x.size:=qb
 have bv:z<=n:=qb
 clear ce jv HT C0
 have hn0:(0:Int)<=(n:Int):=qb
 have hnI:(z:Int)<=(x.size:Int):=qb
 go_region_held3 (fun w'=>w'.cell? ⟨w.heap.size,2,none⟩=some (I (n:Int)))
  (first|assumption|(simp[*];done)|(rw[cH kj];rfl))
  (first|(go_at_call 175;refine(HP.o _ ?_ ?_ ?_).mono ?_;(focus (exact l5.o.bl (Below.refl _ _).drew));(focus (simpa using gp));(focus (exact d6.o));rintro e w2 ⟨rfl,ag,jq,kj⟩))
 all_goals
  obtain⟨d2,e2,_,_⟩:=jq.cell2;have E5:=hid jq;exact qle
theorem work_rest (B m:Nat) (r:List By) (x:By) (cd:Value) (pl st lk:Int) (t:By) (n:Nat) (w:World) (hM:Cd B w m (r++[x]) cd pl st lk) (hB:B<=w.heap.size) (ws:0<=pl) (jd:pl<=2000) (hn:n<=2000) (h2:r.length+1<=50) (hx:x.size<=2000) (z:Nat) (hmin:min (n:Int) (x.size:Int)=(z:Int)) (hpc:(x.extract z x.size).size<=2000) :
  Calls prog 174 #[.pointer (p_ m),.agg #[I 4,.string t,I n]] w fun e w'=>e=.returned (.bool true)/\KB B m w w'/\Cd B w' m (r++[x.extract z x.size]) cd (pl+1) st lk:=by
 have fe:Bw w (w.alloc (.cells #[I 4,.string t,I n] 128)):=aN _ _
 have ue:=hM.cell2.2.2.1
 have fb:=hM.bl fe
 obtain⟨c2,f2,wu,jr⟩:=fb.cell2
 have eg:B<=(w.alloc (.cells #[I 4,.string t,I n] 128)).heap.size:=qh
 have HP:Hd (∀ W:World,Cd B W m r cd pl st lk->B<=W.heap.size->W.heap[w.heap.size]?=some (.cells #[I 4,.string t,I n] 128 (0,0))->Calls prog 175 #[.pointer (p_ m),.string (x.extract z x.size)] W fun e w'=>e=.returned (.bool true)/\KB B m W w'/\Cd B w' m (r++[x.extract z x.size]) cd pl st lk/\w'.heap[w.heap.size]?=some (.cells #[I 4,.string t,I n] 128 (0,0))):=fun W h1 h2 h3=>Qat w.heap.size _ B m r cd pl st lk (x.extract z x.size) W h1 h2 hpc qb h3 qb
 have HT:Hd (Calls prog 173 #[.pointer (p_ m)] (w.alloc (.cells #[I 4,.string t,I n] 128)) fun e w'=>e=.returned (.string x)/\KB B m (w.alloc (.cells #[I 4,.string t,I n] 128)) w'/\Cd B w' m r cd pl st lk/\∀ b,b≠m->w'.heap[b]?=(w.alloc (.cells #[I 4,.string t,I n] 128)).heap[b]?):=Cg B m r x cd pl st lk _ fb eg qb
 have HBA:=hid fe
 clear hM fb fe hpc
 go_enter func174,ntmps174
 go_wp2_with (first|(go_at_call 173;refine(HT.o).mono ?_;rintro e w1 ⟨rfl,af,jv,ce⟩))
 have gp:=Nat.le_trans eg af.size
 have C0:w1.heap[w.heap.size]?=some (.cells #[I 4,.string t,I n] 128 (0,0)):=by rw[ce w.heap.size qb,Be]
 have cn:=cK C0 2
 have d6:=hid C0
 have l5:=hid jv
 have bh:z<=x.size:=qb
 have bv:z<=n:=qb
 clear ce jv HT C0
 have hn0:(0:Int)<=(n:Int):=qb
 have hnI:(z:Int)<=(x.size:Int):=qb
 go_region_held3 (fun w'=>w'.cell? ⟨w.heap.size,2,none⟩=some (I (n:Int)))
  (first|assumption|(simp[*];done)|(rw[cH kj];rfl))
  (first|(go_at_call 175;refine(HP.o _ ?_ ?_ ?_).mono ?_;(focus (exact l5.o.bl (Below.refl _ _).drew));(focus (simpa using gp));(focus (exact d6.o));rintro e w2 ⟨rfl,ag,jq,kj⟩))
 all_goals
  obtain⟨d2,e2,_,_⟩:=jq.cell2;have E5:=hid jq;exact qle
theorem work_word (B m:Nat) (r:List By) (x:By) (cd:Value) (pl st lk:Int) (t:By) (n:Nat) (w:World) (hM:Cd B w m (r++[x]) cd pl st lk) (hB:B<=w.heap.size) (ws:0<=pl) (jd:pl<=2000) (hn:n<=2000) (h2:r.length+1<=50) (hx:x.size<=2000) (hpc:(Ke x n).size<=2000) :
  Calls prog 174 #[.pointer (p_ m),.agg #[I 5,.string t,I n]] w fun e w'=>e=.returned (.bool true)/\KB B m w w'/\Cd B w' m (r++[Ke x n]) cd (pl+1) st lk:=by
 have fe:Bw w (w.alloc (.cells #[I 5,.string t,I n] 128)):=aN _ _
 have ue:=hM.cell2.2.2.1
 have fb:=hM.bl fe
 obtain⟨c2,f2,wu,jr⟩:=fb.cell2
 have eg:B<=(w.alloc (.cells #[I 5,.string t,I n] 128)).heap.size:=qh
 go_enter func174,ntmps174
 go_wp2_with fail
 go_region_with (first|(go_at_call 183;refine(wordAt_any x n _ hx hn).mono ?_;rintro e w9 ⟨rfl,rfl⟩)|(go_at_call 173;refine(Cg B m (r) x cd pl st lk _ ?_ ?_ ?_).mono ?_;(focus (exact fb));(focus (exact eg));(focus (first|omega|(simp;omega)));rintro e w1 ⟨rfl,af,jv,ce⟩;have gp:B<=w1.heap.size:=(Nat.le_trans eg af.size);obtain⟨dd1,ee1,_,_⟩:=jv.cell2;have cn:w1.cell? ⟨w.heap.size,2,none⟩=some (I (n:Int)):=(by rw[World.cell?_of_block (ce w.heap.size qb)];simp[go_sem]);clear ce)|(go_at_call 175;refine(Fw B m (r) cd pl st lk (Ke x n) _ ?_ ?_ hpc ?_).mono ?_;(focus (exact jv));(focus (exact gp));(focus (first|omega|(simp;omega)));rintro e w2 ⟨rfl,ag,jq⟩;have oa:B<=w2.heap.size:=(Nat.le_trans gp ag.size);obtain⟨dd2,ee2,_,_⟩:=jq.cell2))
 all_goals
  go_wp2;go_ret;exact⟨rfl,(((KB.old fe hB).drew.trans af).trans ag).setM 2 jr _,jq.place _⟩
theorem work_same (B m:Nat) (r:List By) (x y:By) (cd:Value) (pl st lk:Int) (t:By) (n:Nat) (w:World) (hM:Cd B w m (r++[x]++[y]) cd pl st lk) (hB:B<=w.heap.size) (ws:0<=pl) (jd:pl<=2000) (hn:n<=2000) (h2:r.length+2<=50) (hx:x.size<=2000) (hy:y.size<=2000) (hf:(Co (x.toList == y.toList)).size<=2000) :
  Calls prog 174 #[.pointer (p_ m),.agg #[I 6,.string t,I n]] w fun e w'=>e=.returned (.bool true)/\KB B m w w'/\Cd B w' m (r++[Co (x.toList == y.toList)]) cd (pl+1) st lk:=by
 have fe:Bw w (w.alloc (.cells #[I 6,.string t,I n] 128)):=aN _ _
 have ue:=hM.cell2.2.2.1
 have fb:=hM.bl fe
 obtain⟨c2,f2,wu,jr⟩:=fb.cell2
 have eg:B<=(w.alloc (.cells #[I 6,.string t,I n] 128)).heap.size:=qh
 go_enter func174,ntmps174
 go_wp2_with fail
 go_region_with (first|(go_at_call 173;refine(Cg B m (r) x cd pl st lk _ ?_ ?_ ?_).mono ?_;(focus (exact jv));(focus (exact gp));(focus (first|omega|(simp;omega)));rintro e w2 ⟨rfl,ag,jq,gw⟩;have oa:B<=w2.heap.size:=(Nat.le_trans gp ag.size);obtain⟨dd2,ee2,_,_⟩:=jq.cell2;clear gw)|(go_at_call 173;refine(Cg B m (r++[x]) y cd pl st lk _ ?_ ?_ ?_).mono ?_;(focus (exact fb));(focus (exact eg));(focus (first|omega|(simp;omega)));rintro e w1 ⟨rfl,af,jv,ce⟩;have gp:B<=w1.heap.size:=(Nat.le_trans eg af.size);obtain⟨dd1,ee1,_,_⟩:=jv.cell2;clear ce))
 all_goals
  go_wp2_with fail
  go_region_with (first|(go_at_call 164;refine(Qj _ _).mono ?_;rintro e w9 ⟨rfl,rfl⟩)|(go_at_call 175;refine(Fw B m (r) cd pl st lk (Co (x.toList == y.toList)) _ ?_ ?_ hf ?_).mono ?_;(focus (exact jq));(focus (exact oa));(focus (first|omega|(simp;omega)));rintro e w3 ⟨rfl,aw,hM4⟩;have A3:B<=w3.heap.size:=(Nat.le_trans oa aw.size);obtain⟨dd3,ee3,_,_⟩:=hM4.cell2))
  all_goals
   go_wp2;go_ret;exact⟨rfl,(((KB.old fe hB).drew.trans af).trans (ag.trans ((KB.refl _ _ _).drew.trans aw))).setM 2 jr _,hM4.place _⟩
theorem Zy (B m:Nat) (r:List By) (x:By) (cd:Value) (pl st lk:Int) (t:By) (n:Nat) (w:World) (hM:Cd B w m (r++[x]) cd pl st lk) (hB:B<=w.heap.size) (ws:0<=pl) (jd:pl<=2000) (hn:n<=2000) (h2:r.length+2<=50) (hx:x.size<=2000) :
  Calls prog 174 #[.pointer (p_ m),.agg #[I 7,.string t,I n]] w fun e w'=>e=.returned (.bool true)/\KB B m w w'/\Cd B w' m (r++[x]++[x]) cd (pl+1) st lk:=by
 have fe:Bw w (w.alloc (.cells #[I 7,.string t,I n] 128)):=aN _ _
 have ue:=hM.cell2.2.2.1
 have fb:=hM.bl fe
 obtain⟨c2,f2,wu,jr⟩:=fb.cell2
 have eg:B<=(w.alloc (.cells #[I 7,.string t,I n] 128)).heap.size:=qh
 go_enter func174,ntmps174
 go_wp2_with (first|(go_at_call 173;refine(Cg B m (r) x cd pl st lk _ ?_ ?_ ?_).mono ?_;(focus (exact fb));(focus (exact eg));(focus (first|omega|(simp;omega)));rintro e w1 ⟨rfl,af,jv,ce⟩;have gp:B<=w1.heap.size:=(Nat.le_trans eg af.size);obtain⟨dd1,ee1,_,_⟩:=jv.cell2;clear ce)|(go_at_call 175;refine(Fw B m (r++[x]) cd pl st lk (x) _ ?_ ?_ hx ?_).mono ?_;(focus (exact jq));(focus (exact oa));(focus (first|omega|(simp;omega)));rintro e w3 ⟨rfl,aw,hM4⟩;have A3:B<=w3.heap.size:=(Nat.le_trans oa aw.size);obtain⟨dd3,ee3,_,_⟩:=hM4.cell2)|(go_at_call 175;refine(Fw B m (r) cd pl st lk (x) _ ?_ ?_ hx ?_).mono ?_;(focus (exact jv));(focus (exact gp));(focus (first|omega|(simp;omega)));rintro e w2 ⟨rfl,ag,jq⟩;have oa:B<=w2.heap.size:=(Nat.le_trans gp ag.size);obtain⟨dd2,ee2,_,_⟩:=jq.cell2))
 go_ret
 exact⟨rfl,(((KB.old fe hB).trans af).trans (ag.trans aw)).setM 2 jr _,hM4.place _⟩
theorem Zz (B m:Nat) (r:List By) (x:By) (cd:Value) (pl st lk:Int) (t:By) (n:Nat) (w:World) (hM:Cd B w m (r++[x]) cd pl st lk) (hB:B<=w.heap.size) (ws:0<=pl) (jd:pl<=2000) (hn:n<=2000) (h2:r.length+1=50) (hx:x.size<=2000) :
  Calls prog 174 #[.pointer (p_ m),.agg #[I 7,.string t,I n]] w fun e w'=>e=.returned (.bool false)/\KB B m w w'/\Cd B w' m (r++[x]) cd pl st lk:=by
 have fe:Bw w (w.alloc (.cells #[I 7,.string t,I n] 128)):=aN _ _
 have ue:=hM.cell2.2.2.1
 have fb:=hM.bl fe
 obtain⟨c2,f2,wu,jr⟩:=fb.cell2
 have eg:B<=(w.alloc (.cells #[I 7,.string t,I n] 128)).heap.size:=qh
 go_enter func174,ntmps174
 go_wp2_with (first|(go_at_call 173;refine(Cg B m (r) x cd pl st lk _ ?_ ?_ ?_).mono ?_;(focus (exact fb));(focus (exact eg));(focus (first|omega|(simp;omega)));rintro e w1 ⟨rfl,af,jv,ce⟩;have gp:B<=w1.heap.size:=(Nat.le_trans eg af.size);obtain⟨dd1,ee1,_,_⟩:=jv.cell2;clear ce)|(go_at_call 175;refine(put_no B m (r++[x]) cd pl st lk (x) _ ?_ ?_ ?_ ?_).mono ?_;(focus (exact jq));(focus (first|omega|(simp;omega)));(focus (first|omega|(simp;omega)));(focus (right;simp;omega));rintro e w3 ⟨rfl,rfl⟩)|(go_at_call 175;refine(Fw B m (r) cd pl st lk (x) _ ?_ ?_ hx ?_).mono ?_;(focus (exact jv));(focus (exact gp));(focus (first|omega|(simp;omega)));rintro e w2 ⟨rfl,ag,jq⟩;have oa:B<=w2.heap.size:=(Nat.le_trans gp ag.size);obtain⟨dd2,ee2,_,_⟩:=jq.cell2))
 go_ret
 exact⟨rfl,(((KB.old fe hB).trans af).trans ag),jq⟩
theorem work_swap (B m:Nat) (r:List By) (x y:By) (cd:Value) (pl st lk:Int) (t:By) (n:Nat) (w:World) (hM:Cd B w m (r++[x]++[y]) cd pl st lk) (hB:B<=w.heap.size) (ws:0<=pl) (jd:pl<=2000) (hn:n<=2000) (h2:r.length+2<=50) (hx:x.size<=2000) (hy:y.size<=2000) :
  Calls prog 174 #[.pointer (p_ m),.agg #[I 8,.string t,I n]] w fun e w'=>e=.returned (.bool true)/\KB B m w w'/\Cd B w' m (r++[y]++[x]) cd (pl+1) st lk:=by
 have fe:Bw w (w.alloc (.cells #[I 8,.string t,I n] 128)):=aN _ _
 have fb:=hM.bl fe
 obtain⟨c2,f2,wu,jr⟩:=fb.cell2
 have eg:B<=(w.alloc (.cells #[I 8,.string t,I n] 128)).heap.size:=qh
 have HBA:=hid fe
 have yu:=hid fb
 clear hM fb fe
 go_enter func174,ntmps174
 go_wp2_with fail
 go_region_held3 (fun w'=>B<=w'.heap.size)
  (first|assumption|(simpa using eg)|exact Nat.le_trans gp ag.size|exact Nat.le_trans eg (by simpa using af.size))
  (first|(go_at_call 173;refine(Cg B m (r) x cd pl st lk _ ?_ ?_ ?_).mono ?_;(focus (exact l5.o));(focus (exact gp));(focus (omega));rintro e w2 ⟨rfl,ag,jq,gw⟩;have E5:Hd (Cd B w2 m r cd pl st lk):=jq;clear jq gw)|(go_at_call 173;refine(Cg B m (r++[x]) y cd pl st lk _ ?_ ?_ ?_).mono ?_;(focus (exact yu.o.bl (Below.refl _ _).drew));(focus (simpa using eg));(focus (simp;omega));rintro e w1 ⟨rfl,af,jv,ce⟩;have gp:B<=w1.heap.size:=(Nat.le_trans eg (by simpa using af.size));have l5:Hd (Cd B w1 m (r++[x]) cd pl st lk):=jv;clear jv ce))
 have oa:=Nat.le_trans gp ag.size
 have be:KB B m w w2:=((KB.old HBA.o hB).drew.trans af).trans ag
 clear af ag yu l5
 go_wp2_with fail
 refine(Fw B m r cd pl st lk y _ E5.o oa hy qb).mono ?_
 rintro e w3 ⟨rfl,aw,hM4⟩
 have HM4:=hid hM4
 have A3:=Nat.le_trans oa aw.size
 have gy:=be.trans aw
 clear hM4 E5 aw be
 go_wp2_with fail
 refine(Fw B m (r++[y]) cd pl st lk x _ HM4.o A3 hx qh).mono ?_
 rintro e w4 ⟨rfl,cj,hM5⟩
 obtain⟨d2,e2,_,_⟩:=hM5.cell2
 have HM5:=hid hM5
 have ij:=gy.trans cj
 clear hM5 HM4 cj gy
 go_wp2
 go_ret
 exact⟨rfl,ij.setM 2 jr _,HM5.o.place _⟩
section
theorem Jn (x:By) (a b:Nat):(x.extract a b).size<=x.size:=by rw[ByteArray.size_extract];omega
theorem Ph (s:By):∀(d n st i:Nat),s.size-i<=d->(Bj s n st i).size<=s.size
 | 0,n,st,i,h=>by
  rw[Yq qb];split
  ·exact Jn _ _ _
  ·exact Nat.zero_le _
 | d+1,n,st,i,h=>by
  by_cases hi:i<s.size
  ·by_cases hg:Qo s[i]=true
   ·by_cases cz:st<i
    ·by_cases hn:n=0
     ·subst hn;rw[Yp hi hg cz];exact Jn _ _ _
     ·rw[Yo hi hg cz hn];exact Ph s d _ _ _ qb
    ·rw[Yn hi hg cz];exact Ph s d _ _ _ qb
   ·rw[pf_in hi (by simpa using hg)];exact Ph s d _ _ _ qb
  ·rw[Yq hi];split
   ·exact Jn _ _ _
   ·exact Nat.zero_le _
theorem Ue (b:Bool):(Co b).size=1:=by cases b<;>rfl
theorem split0 (l:List By):Bh l 0=l:=by simp[Bh]
theorem Jg {l:List By} (h:1<=l.length):l=Bh l 1++[Bp l]:=by
 unfold Bh Bp
 have e:l.take (l.length-1+1)=l.take (l.length-1)++[l[l.length-1]]:=List.take_succ_eq_append_getElem qb
 rw[gG,Iu (show l.length-1<l.length from qb),Option.getD_some,<- e,List.take_of_length_le qb]
theorem split2 {l:List By} (h:2<=l.length):l=Bh l 2++[Ij l]++[Bp l]:=by
 have h1:=Jg (l:=l) qb
 have e:l.take (l.length-2+1)=l.take (l.length-2)++[l[l.length-2]]:=List.take_succ_eq_append_getElem qb
 have h2:Bh l 1=Bh l 2++[Ij l]:=by
  unfold Bh Ij;rw[gG,Iu (show l.length-2<l.length from qb),Option.getD_some,<- e];congr 1;omega
 rw[<- h2];exact h1
theorem Bf (l:List By) (k:Nat):(Bh l k).length=l.length-k:=by simp[Bh]
theorem Gk {l:List By} (h:1<=l.length):Bp l∈l:=by
 unfold Bp
 rw[gG,Iu (show l.length-1<l.length from qb),Option.getD_some]
 exact List.getElem_mem _
theorem Yc {l:List By} (h:2<=l.length):Ij l∈l:=by
 unfold Ij
 rw[gG,Iu (show l.length-2<l.length from qb),Option.getD_some]
 exact List.getElem_mem _
def Ta (o:Nat) (t:By) (n:Nat) (l:List By):Prop:=50<(Bh l (Av o)).length+(Ct o t n (Bp l) (Ij l)).length\/∃ x∈Ct o t n (Bp l) (Ij l),2000<x.size
def Ci (o:Nat) (t:By) (n:Nat) (l:List By) (B m:Nat) (cd:Value) (pl:Nat) (st lk:Int) (w:World) (e:Ending) (w':World):Prop:=
 KB B m w w'/\((e=.returned (.bool true)/\¬ Ta o t n l/\Cd B w' m (Bh l (Av o)++Ct o t n (Bp l) (Ij l)) cd (Ex o n pl (Bp l):Nat) st lk)\/(e=.returned (.bool false)/\Ta o t n l/\∃ ss,Cd B w' m ss cd pl st lk))
variable (B m:Nat) (l:List By) (cd:Value) (pl:Nat) (st lk:Int) (t:By) (n:Nat) (w:World)
theorem Ed {o n pl:Nat} {a:By} (h:o≠10) (h2:o≠11):Ex o n pl a=pl+1:=by simp[Ex,h,h2]
theorem work_1 (hM:Cd B w m l cd pl st lk) (hB:B<=w.heap.size) (jd:pl<=200) (hn:n<=2000) (dh:l.length<=50) (de:∀ x∈l,x.size<=2000) (ht:t.size<=2000) :
  Calls prog 174 #[.pointer (p_ m),.agg #[I 1,.string t,I n]] w fun e w'=>Ci 1 t n l B m cd pl st lk w e w':=by
 unfold Ci Ta
 rw[show Av 1=0 from rfl,split0]
 by_cases h:l.length<50
 ·refine(Zw B m l cd pl st lk t n w hM hB ht h qb qb).mono fun e w' ⟨h1,h2,h3⟩=>⟨h2,Or.inl ⟨h1,?_,by rw[Ed qd qd];exact h3⟩⟩;simp[Ct];omega
 ·refine(Zx B m l cd pl st lk t n w hM hB qb qb hn ht qb).mono fun e w' ⟨h1,h2,h3⟩=>⟨h2,Or.inr ⟨h1,?_,_,h3⟩⟩;simp[Ct];omega
theorem work_2 (hM:Cd B w m l cd pl st lk) (hB:B<=w.heap.size) (jd:pl<=200) (hn:n<=2000) (dh:l.length<=50) (de:∀ x∈l,x.size<=2000) (ff:2<=l.length) :
  Calls prog 174 #[.pointer (p_ m),.agg #[I 2,.string t,I n]] w fun e w'=>Ci 2 t n l B m cd pl st lk w e w':=by
 have hs:=split2 ff
 have hr:=Bf l 2
 have hx:=de _ (Gk (show 1<=l.length from qb))
 have hy:=de _ (Yc ff)
 unfold Ci Ta
 rw[show Av 2=2 from rfl]
 rw[hs] at hM
 revert hM hr hx hy
 generalize Bh l 2=r
 generalize Bp l=y
 generalize Ij l=x
 intro hM hr hx hy
 have hc:(x++y).size=x.size+y.size:=ByteArray.size_append
 by_cases h:(x++y).size<=2000
 ·refine(Qaa B m r x y cd pl st lk t n w hM hB qb qb hn qb hy hx h).mono fun e w' ⟨h1,h2,h3⟩=>⟨h2,Or.inl ⟨h1,?_,by rw[Ed qd qd];exact h3⟩⟩;simp[Ct];omega
 ·refine(Qab B m r x y cd pl st lk t n w hM hB qb qb hn qb hy hx qb qb).mono fun e w' ⟨h1,h2,h3⟩=>⟨h2,Or.inr ⟨h1,?_,_,h3⟩⟩;simp[Ct];omega
theorem work_3 (hM:Cd B w m l cd pl st lk) (hB:B<=w.heap.size) (jd:pl<=200) (hn:n<=2000) (dh:l.length<=50) (de:∀ x∈l,x.size<=2000) (ff:1<=l.length) :
  Calls prog 174 #[.pointer (p_ m),.agg #[I 3,.string t,I n]] w fun e w'=>Ci 3 t n l B m cd pl st lk w e w':=by
 have hs:=Jg ff
 have hr:=Bf l 1
 have hx:=de _ (Gk ff)
 unfold Ci Ta
 rw[show Av 3=1 from rfl]
 rw[hs] at hM
 revert hM hr hx
 generalize Bh l 1=r
 generalize Bp l=x
 intro hM hr hx
 have hpc:=Jn x 0 (min n x.size)
 refine(work_cut B m r x cd pl st lk t n w hM hB qb qb hn qb hx (min n x.size) qb qb).mono fun e w' ⟨h1,h2,h3⟩=>⟨h2,Or.inl ⟨h1,?_,by rw[Ed qd qd];exact h3⟩⟩
 exact qdf
theorem work_4 (hM:Cd B w m l cd pl st lk) (hB:B<=w.heap.size) (jd:pl<=200) (hn:n<=2000) (dh:l.length<=50) (de:∀ x∈l,x.size<=2000) (ff:1<=l.length) :
  Calls prog 174 #[.pointer (p_ m),.agg #[I 4,.string t,I n]] w fun e w'=>Ci 4 t n l B m cd pl st lk w e w':=by
 have hs:=Jg ff
 have hr:=Bf l 1
 have hx:=de _ (Gk ff)
 unfold Ci Ta
 rw[show Av 4=1 from rfl]
 rw[hs] at hM
 revert hM hr hx
 generalize Bh l 1=r
 generalize Bp l=x
 intro hM hr hx
 have hpc:=Jn x (min n x.size) x.size
 refine(work_rest B m r x cd pl st lk t n w hM hB qb qb hn qb hx (min n x.size) qb qb).mono fun e w' ⟨h1,h2,h3⟩=>⟨h2,Or.inl ⟨h1,?_,by rw[Ed qd qd];exact h3⟩⟩
 exact qdf
theorem work_5 (hM:Cd B w m l cd pl st lk) (hB:B<=w.heap.size) (jd:pl<=200) (hn:n<=2000) (dh:l.length<=50) (de:∀ x∈l,x.size<=2000) (ff:1<=l.length) :
  Calls prog 174 #[.pointer (p_ m),.agg #[I 5,.string t,I n]] w fun e w'=>Ci 5 t n l B m cd pl st lk w e w':=by
 have hs:=Jg ff
 have hr:=Bf l 1
 have hx:=de _ (Gk ff)
 unfold Ci Ta
 rw[show Av 5=1 from rfl]
 rw[hs] at hM
 revert hM hr hx
 generalize Bh l 1=r
 generalize Bp l=x
 intro hM hr hx
 have hpc:(Ke x n).size<=x.size:=Ph x x.size n 0 0 qb
 refine(work_word B m r x cd pl st lk t n w hM hB qb qb hn qb hx qb).mono fun e w' ⟨h1,h2,h3⟩=>⟨h2,Or.inl ⟨h1,?_,by rw[Ed qd qd];exact h3⟩⟩
 exact qdf
theorem work_6 (hM:Cd B w m l cd pl st lk) (hB:B<=w.heap.size) (jd:pl<=200) (hn:n<=2000) (dh:l.length<=50) (de:∀ x∈l,x.size<=2000) (ff:2<=l.length) :
  Calls prog 174 #[.pointer (p_ m),.agg #[I 6,.string t,I n]] w fun e w'=>Ci 6 t n l B m cd pl st lk w e w':=by
 have hs:=split2 ff
 have hr:=Bf l 2
 have hx:=de _ (Gk (show 1<=l.length from qb))
 have hy:=de _ (Yc ff)
 unfold Ci Ta
 rw[show Av 6=2 from rfl]
 rw[hs] at hM
 revert hM hr hx hy
 generalize Bh l 2=r
 generalize Bp l=y
 generalize Ij l=x
 intro hM hr hx hy
 have hf:=Ue (x.toList == y.toList)
 refine(work_same B m r x y cd pl st lk t n w hM hB qb qb hn qb hy hx qb).mono fun e w' ⟨h1,h2,h3⟩=>⟨h2,Or.inl ⟨h1,?_,by rw[Ed qd qd];exact h3⟩⟩
 exact qdf
theorem work_7 (hM:Cd B w m l cd pl st lk) (hB:B<=w.heap.size) (jd:pl<=200) (hn:n<=2000) (dh:l.length<=50) (de:∀ x∈l,x.size<=2000) (ff:1<=l.length) :
  Calls prog 174 #[.pointer (p_ m),.agg #[I 7,.string t,I n]] w fun e w'=>Ci 7 t n l B m cd pl st lk w e w':=by
 have hs:=Jg ff
 have hr:=Bf l 1
 have hx:=de _ (Gk ff)
 unfold Ci Ta
 rw[show Av 7=1 from rfl]
 rw[hs] at hM
 revert hM hr hx
 generalize Bh l 1=r
 generalize Bp l=x
 intro hM hr hx
 by_cases h:r.length+2<=50
 ·refine(Zy B m r x cd pl st lk t n w hM hB qb qb hn h hx).mono fun e w' ⟨h1,h2,h3⟩=>⟨h2,Or.inl ⟨h1,?_,by rw[Ed qd qd];simpa [Ct] using h3⟩⟩;simp[Ct];omega
 ·refine(Zz B m r x cd pl st lk t n w hM hB qb qb hn qb hx).mono fun e w' ⟨h1,h2,h3⟩=>⟨h2,Or.inr ⟨h1,?_,_,h3⟩⟩;simp[Ct];omega
theorem work_8 (hM:Cd B w m l cd pl st lk) (hB:B<=w.heap.size) (jd:pl<=200) (hn:n<=2000) (dh:l.length<=50) (de:∀ x∈l,x.size<=2000) (ff:2<=l.length) :
  Calls prog 174 #[.pointer (p_ m),.agg #[I 8,.string t,I n]] w fun e w'=>Ci 8 t n l B m cd pl st lk w e w':=by
 have hs:=split2 ff
 have hr:=Bf l 2
 have hx:=de _ (Gk (show 1<=l.length from qb))
 have hy:=de _ (Yc ff)
 unfold Ci Ta
 rw[show Av 8=2 from rfl]
 rw[hs] at hM
 revert hM hr hx hy
 generalize Bh l 2=r
 generalize Bp l=y
 generalize Ij l=x
 intro hM hr hx hy
 refine(work_swap B m r x y cd pl st lk t n w hM hB qb qb hn qb hy hx).mono fun e w' ⟨h1,h2,h3⟩=>⟨h2,Or.inl ⟨h1,?_,by rw[Ed qd qd];simpa [Ct] using h3⟩⟩
 simp[Ct];omega
theorem work_9 (hM:Cd B w m l cd pl st lk) (hB:B<=w.heap.size) (jd:pl<=200) (hn:n<=2000) (dh:l.length<=50) (de:∀ x∈l,x.size<=2000) (ff:1<=l.length) :
  Calls prog 174 #[.pointer (p_ m),.agg #[I 9,.string t,I n]] w fun e w'=>Ci 9 t n l B m cd pl st lk w e w':=by
 have hs:=Jg ff
 have hr:=Bf l 1
 have hx:=de _ (Gk ff)
 unfold Ci Ta
 rw[show Av 9=1 from rfl]
 rw[hs] at hM
 revert hM hr hx
 generalize Bh l 1=r
 generalize Bp l=x
 intro hM hr hx
 refine(work_drop B m r x cd pl st lk t n w hM hB qb qb hn qb).mono fun e w' ⟨h1,h2,h3⟩=>⟨h2,Or.inl ⟨h1,?_,by rw[Ed qd qd];simpa [Ct] using h3⟩⟩
 simp[Ct];omega
theorem work_10 (hM:Cd B w m l cd pl st lk) (hB:B<=w.heap.size) (jd:pl<=200) (hn:n<=2000) (dh:l.length<=50) (de:∀ x∈l,x.size<=2000) :
  Calls prog 174 #[.pointer (p_ m),.agg #[I 10,.string t,I n]] w fun e w'=>Ci 10 t n l B m cd pl st lk w e w':=by
 unfold Ci Ta
 rw[show Av 10=0 from rfl,split0]
 refine(work_jump B m l cd pl st lk t n w hM hB qb qb hn).mono fun e w' ⟨h1,h2,h3⟩=>⟨h2,Or.inl ⟨h1,?_,by simpa [Ct,Ex] using h3⟩⟩
 simp[Ct];omega
theorem work_11 (hM:Cd B w m l cd pl st lk) (hB:B<=w.heap.size) (jd:pl<=200) (hn:n<=2000) (dh:l.length<=50) (de:∀ x∈l,x.size<=2000) (ff:1<=l.length) :
  Calls prog 174 #[.pointer (p_ m),.agg #[I 11,.string t,I n]] w fun e w'=>Ci 11 t n l B m cd pl st lk w e w':=by
 have hs:=Jg ff
 have hr:=Bf l 1
 have hx:=de _ (Gk ff)
 unfold Ci Ta
 rw[show Av 11=1 from rfl]
 rw[hs] at hM
 revert hM hr hx
 generalize Bh l 1=r
 generalize Bp l=x
 intro hM hr hx
 by_cases hx1:x.toList.isEmpty=true
 ·refine(Uy B m r x cd pl st lk t n w hM hB qb qb hn qb hx1).mono fun e w' ⟨h1,h2,h3⟩=>⟨h2,Or.inl ⟨h1,?_,by simpa [Ct,Ex,Lj,hx1] using h3⟩⟩;simp[Ct];omega
 ·have hx1':x.toList.isEmpty=false:=by simpa using hx1
  by_cases hx2:(x.toList == [48])=true
  ·refine(Ux B m r x cd pl st lk t n w hM hB qb qb hn qb hx1' hx2).mono fun e w' ⟨h1,h2,h3⟩=>⟨h2,Or.inl ⟨h1,?_,by
    (have e1:Lj x=true:=by simp only[Lj,hx2,Bool.or_true]);simpa [Ct,Ex,e1] using h3⟩⟩
   simp[Ct];omega
  ·have hx2':(x.toList == [48])=false:=by simpa using hx2
   refine(Uw B m r x cd pl st lk t n w hM hB qb qb hn qb hx1' hx2').mono fun e w' ⟨h1,h2,h3⟩=>⟨h2,Or.inl ⟨h1,?_,by
    (have e1:Lj x=false:=by simp only[Lj,hx1',hx2',Bool.or_false]);simpa [Ct,Ex,e1] using h3⟩⟩
   simp[Ct];omega
theorem work_any (o:Nat) (hM:Cd B w m l cd pl st lk) (hB:B<=w.heap.size) (jd:pl<=200) (hn:n<=2000) (dh:l.length<=50) (de:∀ x∈l,x.size<=2000) (ht:t.size<=2000) (h1:1<=o) (h2:o<=11) (ff:Av o<=l.length) :
  Calls prog 174 #[.pointer (p_ m),.agg #[I (o:Int),.string t,I n]] w fun e w'=>Ci o t n l B m cd pl st lk w e w':=by
 rcases (show o=1\/o=2\/o=3\/o=4\/o=5\/o=6\/o=7\/o=8\/o=9\/o=10\/o=11 from qb) with rfl|rfl|rfl|rfl|rfl|rfl|rfl|rfl|rfl|rfl|rfl
 ·exact work_1 B m l cd pl st lk t n w hM hB jd hn dh de ht
 ·exact work_2 B m l cd pl st lk t n w hM hB jd hn dh de ff
 ·exact work_3 B m l cd pl st lk t n w hM hB jd hn dh de ff
 ·exact work_4 B m l cd pl st lk t n w hM hB jd hn dh de ff
 ·exact work_5 B m l cd pl st lk t n w hM hB jd hn dh de ff
 ·exact work_6 B m l cd pl st lk t n w hM hB jd hn dh de ff
 ·exact work_7 B m l cd pl st lk t n w hM hB jd hn dh de ff
 ·exact work_8 B m l cd pl st lk t n w hM hB jd hn dh de ff
 ·exact work_9 B m l cd pl st lk t n w hM hB jd hn dh de ff
 ·exact work_10 B m l cd pl st lk t n w hM hB jd hn dh de
 ·exact work_11 B m l cd pl st lk t n w hM hB jd hn dh de ff
end
theorem Lr.belowB (h:Lr w) (hb:Below B w w') (hB:2<B):Lr w':=fun o ho=>
 ⟨(hb.cell (p:=⟨0,_,none⟩) (Nat.lt_of_le_of_lt (Nat.zero_le _) hB)).trans (h o ho).1,(hb.cell (p:=⟨0,_,none⟩) (Nat.lt_of_le_of_lt (Nat.zero_le _) hB)).trans (h o ho).2.1,(hb.cell (p:=⟨0,_,none⟩) (Nat.lt_of_le_of_lt (Nat.zero_le _) hB)).trans (h o ho).2.2⟩
theorem Cd.looks {lk:Int} (h:Cd B w m ss cd pl st lk) (p:Int):Cd B (w.setCell ⟨m,4,none⟩ (I p)) m ss cd pl st p:=by
 obtain⟨hB,v,hm,ho⟩:=h
 refine⟨hB,v,?_,?_⟩
 ·exact qdl
 ·have hne:=hm.ne' ho;refine⟨ho.1,?_⟩
  rcases ho.2 with h0|⟨g,cap,cur,hv,hg,hh,r⟩
  ·exact Or.inl h0
  ·refine Or.inr ⟨g,cap,cur,hv,hg,?_,r⟩;rw[hC w ⟨m,4,none⟩ _ g qcl];exact hh
theorem Cd.cells {lk:Int} (h:Cd B w m ss cd pl st lk):w.cell? ⟨m,3,none⟩=some (I st)/\w.cell? ⟨m,4,none⟩=some (I lk)/\w.frozen? ⟨m,4,none⟩=false/\m<w.heap.size/\B<=m:=by
 obtain⟨hB,v,hm,ho⟩:=h
 exact⟨qba,qba,fH hm 4,hm.lt,hB⟩
theorem Cd.turn {lk:Int} {b:Nat} (h:Cd B w m ss cd pl st lk/\∃ cs,w.heap[b]?=some (.cells cs 165 (0,0))) (j:Nat) (x:Value) :
  Cd B (w.setCell ⟨b,j,none⟩ x) m ss cd pl st lk/\∃ cs,(w.setCell ⟨b,j,none⟩ x).heap[b]?=some (.cells cs 165 (0,0)):=by
 obtain⟨⟨hB,v,hm,ho⟩,cs,hb⟩:=h
 have hmb:m≠b:=by
  rintro rfl;unfold Fj at hm;rw[hm] at hb;simp at hb
 refine⟨⟨hB,v,?_,ho.1,?_⟩,_,jB hb x⟩
 ·unfold Fj at *;rw[hC w ⟨b,j,none⟩ _ m hmb];exact hm
 ·rcases ho.2 with h0|⟨g,cap,cur,hv,hg,hh,r⟩
  ·exact Or.inl h0
  ·refine Or.inr ⟨g,cap,cur,hv,hg,?_,r⟩
   have vt:g≠b:=by
    rintro rfl;rw[hh] at hb;simp at hb
   rw[hC w ⟨b,j,none⟩ _ g vt];exact hh
theorem Wz (B m:Nat) (r:List By) (x:By) (cd:Value) (pl st lk:Int) (ask:Bool) (w:World) (hM:Cd B w m (r++[x]) cd pl st lk) (hB:B<=w.heap.size) (h2:r.length<50) (hx:x.size<=2000) (hn:Am x) (hl0:0<=lk) (wg:lk<200) :
  Calls prog 172 #[.pointer (p_ m),.bool ask] w fun e w'=>e=.returned (Az false 0 ⟨#[]⟩ ask x st)/\KB B m w w'/\Cd B w' m r cd pl st (lk+1):=by
 have ip:=Cu hn
 have d1:(lk == 200)=false:=qh
 go_enter func172,ntmps172
 go_wp2_with fail
 have ue:=hM.cells.2.2.2.1
 have fe:Bw w (w.alloc (.cells #[.bool false,I 0,ze,.bool false,ze,I 0] 165)):=aN _ _
 refine(Cg B m r x cd pl st lk _ (hM.bl fe) qh h2).mono ?_
 rintro e w1 ⟨rfl,af,fb,ce⟩
 have au:w1.heap[w.heap.size]?=some (.cells #[.bool false,I 0,ze,.bool false,ze,I 0] 165 (0,0)):=by
  rw[ce _ qb,Be]
 obtain⟨k0,k1,k2,k3,k4,k5⟩:=Zo au
 have f0:=fZ au
 obtain⟨c3,c4,f4,_,jr⟩:=fb.cells
 have hne:m≠w.heap.size:=qb
 have hne':w.heap.size≠m:=qb
 have HM:Hd (Cd B (w1.setCell ⟨m,4,none⟩ (I (lk+1))) m r cd pl st (lk+1)/\∃ cs,(w1.setCell ⟨m,4,none⟩ (I (lk+1))).heap[w.heap.size]?=some (.cells cs 165 (0,0))):=⟨fb.looks _,_,by rw[hC w1 ⟨m,4,none⟩ _ _ hne'];exact au⟩
 have HB:=hid ((KB.old fe hB).trans af)
 clear fb ce au hM fe af ue
 go_wp2_with (first|(go_at_call 106;refine(Dg x _ qb).mono ?_;rintro e w9 ⟨rfl,rfl⟩))
 exact bR (v:=Az false 0 ⟨#[]⟩ ask x st) qfz rfl ⟨rfl,((((((HB.o.setM 4 jr _).setN 0 hB _).setN 1 hB _).setN 2 hB _).setN 3 hB _).setN 4 hB _).setN 5 hB _,(Cd.turn (Cd.turn (Cd.turn (Cd.turn (Cd.turn (Cd.turn HM.o 0 _) 1 _) 2 _) 3 _) 4 _) 5 _).1⟩
theorem Mb.belowB (h:Mb w) (hb:Below B w w') (hB:2<B):Mb w':=by
 unfold Mb Lib.TabIs World.var? at *
 rw[show prog.globalNamed "internal/strconv.uint64pow10"=some 2 from qi] at *
 simp only[Option.bind_some] at *
 rw[hb.block 2 qb]
 exact h
theorem Qbf (B m:Nat) (r:List By) (x:By) (cd:Value) (pl st lk:Int) (ask:Bool) (w:World) (hM:Cd B w m (r++[x]) cd pl st lk) (hB:B<=w.heap.size) (h2:r.length<50) (hx:x.size<=2000) (hP:Mb w) (bg:2<B) (ws:0<=pl) (jd:pl<=2000) (hn:¬ Am x) :
  Calls prog 172 #[.pointer (p_ m),.bool ask] w fun e w'=>e=.returned (Az true 2 ⟨(Lib.decDigits pl.toNat).toArray⟩ false ⟨#[]⟩ st)/\KB B m w w':=by
 have ip:=Ck hn
 generalize hq:(⟨(Lib.decDigits pl.toNat).toArray⟩:By)=q
 go_enter func172,ntmps172
 go_wp2_with fail
 have ue:=hM.cells.2.2.2.1
 have fe:Bw w (w.alloc (.cells #[.bool false,I 0,ze,.bool false,ze,I 0] 165)):=aN _ _
 refine(Cg B m r x cd pl st lk _ (hM.bl fe) qh h2).mono ?_
 rintro e w1 ⟨rfl,af,fb,ce⟩
 have au:w1.heap[w.heap.size]?=some (.cells #[.bool false,I 0,ze,.bool false,ze,I 0] 165 (0,0)):=by
  rw[ce _ qb,Be]
 have HB:=hid ((KB.old fe hB).trans af)
 have HP:=hid (hP.belowB HB.o.bl bg)
 have G7:w.heap.size<w1.heap.size:=by
  exact qlf
 obtain⟨c3,c4,f4,_,jr⟩:=fb.cells
 obtain⟨_,v,vr,_⟩:=fb
 clear ce hM fe af ue hP
 go_wp2_with (first|(go_at_call 106;refine(Dg x _ qb).mono ?_;rintro e w9 ⟨rfl,rfl⟩))
 refine(Nc m v cd pl st lk _ vr HP.o ws jd).mono ?_
 rintro e w2 ⟨rfl,ag⟩
 rw[hq]
 have pw:w2.heap[w.heap.size]?=some (.cells #[.bool false,I 0,ze,.bool false,ze,I 0] 165 (0,0)):=by
  rw[ag.block _ G7];exact au
 obtain⟨k0,k1,k2,k3,k4,k5⟩:=Zo pw
 have f0:=fZ pw
 have gi:Hd (KB B m w w2):=HB.o.trans (KB.old ag qb)
 clear au pw ag vr c3 c4 f4
 unfold Az
 go_wp2
 exact bR (v:=Az true 2 q false ⟨#[]⟩ st) qfz rfl ⟨rfl,(((((gi.o.setN 0 hB _).setN 1 hB _).setN 2 hB _).setN 3 hB _).setN 4 hB _).setN 5 hB _⟩
theorem Tz (B m:Nat) (r:List By) (x:By) (cd:Value) (pl st lk:Int) (ask:Bool) (w:World) (hM:Cd B w m (r++[x]) cd pl st lk) (hB:B<=w.heap.size) (h2:r.length<50) (hx:x.size<=2000) (hP:Mb w) (bg:2<B) (ws:0<=pl) (jd:pl<=2000) (hn:Am x) (hl:lk=200) :
  Calls prog 172 #[.pointer (p_ m),.bool ask] w fun e w'=>e=.returned (Az true 3 ⟨#[]⟩ false ⟨#[]⟩ st)/\KB B m w w':=by
 have ip:=Cu hn
 subst hl
 go_enter func172,ntmps172
 go_wp2_with fail
 have ue:=hM.cells.2.2.2.1
 have fe:Bw w (w.alloc (.cells #[.bool false,I 0,ze,.bool false,ze,I 0] 165)):=aN _ _
 refine(Cg B m r x cd pl st 200 _ (hM.bl fe) qh h2).mono ?_
 rintro e w1 ⟨rfl,af,fb,ce⟩
 have au:w1.heap[w.heap.size]?=some (.cells #[.bool false,I 0,ze,.bool false,ze,I 0] 165 (0,0)):=by
  rw[ce _ qb,Be]
 have HB:=hid ((KB.old fe hB).trans af)
 have HP:=hid (hP.belowB HB.o.bl bg)
 have G7:w.heap.size<w1.heap.size:=by
  exact qlf
 obtain⟨c3,c4,f4,_,jr⟩:=fb.cells
 obtain⟨_,v,vr,_⟩:=fb
 clear ce hM fe af ue hP
 go_wp2_with (first|(go_at_call 106;refine(Dg x _ qb).mono ?_;rintro e w9 ⟨rfl,rfl⟩))
 refine(Jl m v cd pl st 200 3 ⟨#[]⟩ _ vr).mono ?_
 rintro e w2 ⟨rfl,ag⟩
 have pw:w2.heap[w.heap.size]?=some (.cells #[.bool false,I 0,ze,.bool false,ze,I 0] 165 (0,0)):=by
  rw[ag.block _ G7];exact au
 obtain⟨k0,k1,k2,k3,k4,k5⟩:=Zo pw
 have f0:=fZ pw
 have gi:Hd (KB B m w w2):=HB.o.trans (KB.old ag qb)
 clear au pw ag vr c3 c4 f4
 unfold Az
 go_wp2
 exact bR (v:=Az true 3 ⟨#[]⟩ false ⟨#[]⟩ st) qfz rfl ⟨rfl,(((((gi.o.setN 0 hB _).setN 1 hB _).setN 2 hB _).setN 3 hB _).setN 4 hB _).setN 5 hB _⟩
section
def Lv (B:Nat) (w:World) (a:Option Addr) (is:List I3):Prop:=Cj w a is/\∀ b off,a=some ⟨b,off,none⟩->b<B
theorem Lv.belowB {B:Nat} {w w':World} {a:Option Addr} {is:List I3} (h:Lv B w a is) (hb:Below B w w'):Lv B w' a is:=by
 refine⟨fun i hi=>?_,h.2⟩
 obtain⟨b,off,ha,h1,h2,h3⟩:=h.1 i hi
 have hl:=h.2 b off ha
 exact⟨b,off,ha,(hb.cell (p:=⟨b,off+i*3,none⟩) hl).trans h1,(hb.cell (p:=⟨b,off+i*3+1,none⟩) hl).trans h2,(hb.cell (p:=⟨b,off+i*3+2,none⟩) hl).trans h3⟩
theorem Cd.steps {B:Nat} {w:World} {m:Nat} {ss:List By} {cd:Value} {pl st lk:Int} (h:Cd B w m ss cd pl st lk) (p:Int):Cd B (w.setCell ⟨m,3,none⟩ (I p)) m ss cd pl p lk:=by
 obtain⟨hB,v,hm,ho⟩:=h
 refine⟨hB,v,?_,?_⟩
 ·exact qdl
 ·have hne:=hm.ne' ho;refine⟨ho.1,?_⟩
  rcases ho.2 with h0|⟨g,cap,cur,hv,hg,hh,r⟩
  ·exact Or.inl h0
  ·refine Or.inr ⟨g,cap,cur,hv,hg,?_,r⟩;rw[hC w ⟨m,3,none⟩ _ g qcl];exact hh
theorem Cd.all {B:Nat} {w:World} {m:Nat} {ss:List By} {cd:Value} {pl st lk:Int} (h:Cd B w m ss cd pl st lk):∃ ao cp,w.cell? ⟨m,0,none⟩=some (.slice ao ss.length cp)/\w.cell? ⟨m,1,none⟩=some cd/\w.cell? ⟨m,2,none⟩=some (I pl)/\w.cell? ⟨m,3,none⟩=some (I st)/\w.cell? ⟨m,4,none⟩=some (I lk)/\(∀ j,w.frozen? ⟨m,j,none⟩=false)/\m<w.heap.size/\B<=m/\Fj w m (.slice ao ss.length cp) cd pl st lk:=by
 obtain⟨hB,v,hm,ho⟩:=h
 obtain⟨ao,cp,rfl⟩:∃ ao cp,v=.slice ao ss.length cp:=by
  rcases ho.2 with ⟨hv,h0⟩|⟨g,cap,cur,hv,_⟩
  ·exact⟨none,0,by rw[hv,h0]⟩
  ·exact⟨_,_,hv⟩
 exact⟨ao,cp,qba,qba,qba,qba,qba,fun j=>fH hm j,hm.lt,hB,hm⟩
theorem Ks {is:List I3} (h:Au is=true) {k:Nat} (hk:k<is.length):∃(o:Nat) (t:By) (n:Nat),ix is k=⟨o,t,n⟩/\1<=o/\o<=15/\t.size<=2000/\n<=2000/\((o=10\/o=11)->n<=200):=by
 simp only[Au,Bool.and_eq_true,decide_eq_true_eq] at h
 have hi:=h.2 k hk
 generalize ix is k=i at hi ⊢
 obtain⟨op,t,n⟩:=i
 simp only[Hc,Bool.and_eq_true,decide_eq_true_eq] at hi
 obtain⟨⟨⟨⟨h1,h2⟩,h3⟩,h4⟩,h5⟩:=hi
 obtain⟨o,rfl⟩:=Int.eq_ofNat_of_zero_le (show 0<=op from qb)
 obtain⟨n',rfl⟩:=Int.eq_ofNat_of_zero_le h4
 have hm:Lq (Ek o)<=2000:=by unfold Lq;split<;>omega
 have hn:Nx (Ek o)<=2000:=by unfold Nx;split<;>(try split)<;>omega
 refine⟨o,t,n',rfl,qb,qb,qb,qb,fun ho=>?_⟩
 have:Nx (Ek o)=200:=by rcases ho with rfl|rfl<;>rfl
 omega
theorem Dh {is:List I3} (h:Au is=true):1<=is.length/\is.length<=200:=by
 simp only[Au,Bool.and_eq_true,decide_eq_true_eq] at h
 omega
theorem Qah (o:Nat) (h:o<=15):La.getD o 0=((Av o:Nat):Int):=by
 exact qes
theorem Km {is:List I3} {s:St} (h:¬ s.pl<is.length):Ca is s=.over 2 (Er s.pl) s.steps:=by unfold Ca;rw[if_pos qb]
theorem Jf {is:List I3} {s:St} (h:s.pl<is.length) (h2:s.steps=2000):Ca is s=.over 3 ⟨#[]⟩ s.steps:=by unfold Ca;rw[if_neg qb,if_pos h2]
theorem Hg {is:List I3} {s:St} {o:Nat} {t:By} {n:Nat} (h:s.pl<is.length) (h2:s.steps≠2000) (e:ix is s.pl=⟨o,t,n⟩):Ca is s=Kv ⟨o,t,n⟩ s:=by unfold Ca;rw[if_neg qb,if_neg h2,e]
section
variable {o:Nat} {t:By} {n:Nat} {s:St}
theorem Nf (h:s.stack.length<Av o):Kv ⟨o,t,n⟩ s=.over 2 (Er s.pl) (s.steps+1):=by
 simp only[Kv,Int.toNat_natCast];rw[if_pos h]
theorem Ng (h:¬ s.stack.length<Av o) (ho:o=15):Kv ⟨o,t,n⟩ s=.over 0 (Bp s.stack) (s.steps+1):=by
 simp only[Kv,Int.toNat_natCast];rw[if_neg h,if_pos ho]
theorem Ku (h:¬ s.stack.length<Av o) (ho:o=14):Kv ⟨o,t,n⟩ s=.over 1 (Bp s.stack) (s.steps+1):=by
 simp only[Kv,Int.toNat_natCast];rw[if_neg h,if_neg qb,if_pos ho]
theorem Ld (h:¬ s.stack.length<Av o) (ho:o=12\/o=13) (hn:¬ Am (Bp s.stack)):Kv ⟨o,t,n⟩ s=.over 2 (Er s.pl) (s.steps+1):=by
 simp only[Kv,Int.toNat_natCast];rw[if_neg h,if_neg qb,if_neg qb,if_pos ho,if_pos hn]
theorem Hi (h:¬ s.stack.length<Av o) (ho:o=12\/o=13) (hn:Am (Bp s.stack)) (hl:s.looks=200):Kv ⟨o,t,n⟩ s=.over 3 ⟨#[]⟩ (s.steps+1):=by
 simp only[Kv,Int.toNat_natCast];rw[if_neg h,if_neg qb,if_neg qb,if_pos ho,if_neg (fun k=>k hn),if_pos hl]
theorem Jm (h:¬ s.stack.length<Av o) (ho:o=12\/o=13) (hn:Am (Bp s.stack)) (hl:s.looks≠200):Kv ⟨o,t,n⟩ s=.look (o == 12) (Bp s.stack) ⟨s.pl,Bh s.stack 1,s.steps+1,s.looks+1⟩:=by
 have ht:Av o=1:=by rcases ho with rfl|rfl<;>rfl
 simp only[Kv,Int.toNat_natCast];rw[if_neg h,if_neg qb,if_neg qb,if_pos ho,if_neg (fun k=>k hn),if_neg hl,ht]
theorem Hh (h:¬ s.stack.length<Av o) (ho:o<=11) (hb:Ta o t n s.stack):Kv ⟨o,t,n⟩ s=.over 2 (Er s.pl) (s.steps+1):=by
 simp only[Kv,Int.toNat_natCast];unfold Ta at hb;rw[if_neg h,if_neg qb,if_neg qb,if_neg qb,if_pos hb]
theorem Qm (h:¬ s.stack.length<Av o) (ho:o<=11) (hb:¬ Ta o t n s.stack):Kv ⟨o,t,n⟩ s=.go ⟨Ex o n s.pl (Bp s.stack),Bh s.stack (Av o)++Ct o t n (Bp s.stack) (Ij s.stack),s.steps+1,s.looks⟩:=by
 simp only[Kv,Int.toNat_natCast];unfold Ta at hb;rw[if_neg h,if_neg qb,if_neg qb,if_neg qb,if_neg hb]
end
theorem go_ok {is:List I3} {s:St} {o:Nat} {t:By} {n:Nat} (hs:Eb is s) (hl:is.length<=200) (hp:s.pl<is.length) (cz:s.steps≠2000) (hn:(o=10\/o=11)->n<=200) (hb:¬ Ta o t n s.stack):Eb is ⟨Ex o n s.pl (Bp s.stack),Bh s.stack (Av o)++Ct o t n (Bp s.stack) (Ij s.stack),s.steps+1,s.looks⟩:=by
 unfold Ta at hb
 have h1:=hs.steps
 refine⟨?_,?_,?_,?_,hs.looks⟩
 ·show Ex o n s.pl (Bp s.stack)<=200;unfold Ex;split
  ·exact hn qb
  ·split
   ·exact hn qb
   ·omega
 ·show (Bh s.stack (Av o)++Ct o t n (Bp s.stack) (Ij s.stack)).length<=50;rw[List.length_append];have:¬ 50<(Bh s.stack (Av o)).length+(Ct o t n (Bp s.stack) (Ij s.stack)).length:=fun h=>hb (Or.inl h);omega
 ·intro x hx
  rcases List.mem_append.mp hx with hx|hx
  ·exact hs.size x (List.mem_of_mem_take hx)
  ·rcases Nat.lt_or_ge 2000 x.size with h|h
   ·exact absurd (Or.inr ⟨x,hx,h⟩) hb
   ·exact h
 ·show s.steps+1<=2000;omega
theorem Td {is:List I3} {s:St} (hs:Eb is s) (cz:s.steps≠2000) (hl:s.looks≠200):Eb is ⟨s.pl,Bh s.stack 1,s.steps+1,s.looks+1⟩:=by
 have h1:=hs.steps
 have h2:=hs.looks
 have h3:=hs.len
 refine⟨hs.pl,?_,fun x hx=>hs.size x (List.mem_of_mem_take hx),?_,?_⟩
 ·show (Bh s.stack 1).length<=50;rw[Bf];omega
 ·show s.steps+1<=2000;omega
 ·show s.looks+1<=200;omega
def Zu:Array Value:=#[.bool false,I 0,ze,.bool false,ze,I 0]
def RunPost (is:List I3) (s:St) (B m:Nat) (cd:Value) (w:World) (e:Ending) (w':World):Prop:=
 KB B m w w'/\((∃ c t n,Nq is s (.over c t n)/\e=.returned (Az true c t false ⟨#[]⟩ n))\/(∃ ask nm s',Nq is s (.look ask nm s')/\e=.returned (Az false 0 ⟨#[]⟩ ask nm s'.steps)/\Eb is s'/\Cd B w' m s'.stack cd s'.pl s'.steps s'.looks))
theorem Yk (B m:Nat) (is:List I3) (a:Option Addr) (cap:Nat) (s0:St) (w:World) (hM:Cd B w m s0.stack (.slice a is.length cap) s0.pl s0.steps s0.looks) (hB:B<=w.heap.size) (bg:2<B) (du:Lv B w a is) (hT:Lr w) (hP:Mb w) (hv:Au is=true) (hs0:Eb is s0) :
  Calls prog 160 #[.pointer (p_ m)] w fun e w'=>RunPost is s0 B m (.slice a is.length cap) w e w':=by
 have dh:=Dh hv
 have HV:Hd (Au is=true):=hv
 have HC:Hd (Lv B w a is):=du
 have HT:Hd (Lr w):=hT
 have HP:Hd (Mb w):=hP
 have hm0:=hM.all
 obtain⟨_,_,_,_,_,_,_,_,ue,jr,_⟩:=hm0
 have HM0:Hd (Cd B (w.alloc (.cells Zu 165)) m s0.stack (.slice a is.length cap) s0.pl s0.steps s0.looks):=hM.bl (aN _ _)
 have ri:Hd (KB B m w (w.alloc (.cells Zu 165))):=KB.old (aN _ _) hB
 have wn:Hd ((w.alloc (.cells Zu 165)).heap[w.heap.size]?=some (.cells Zu 165 (0,0))):=Be _ _
 have J0:Hd (Eb is s0):=hs0
 clear hv du hT hP hM hs0
 unfold Zu at HM0 ri wn
 go_enter func160,ntmps160
 go_wp2
 go_loopg [] 2001 (fun kx wr=>∃ s:St,Hd (Eb is s)/\Hd (∀ o,Nq is s o->Nq is s0 o)/\Hd (Cd B wr m s.stack (.slice a is.length cap) s.pl s.steps s.looks)/\Hd (KB B m w wr)/\Hd (wr.heap[w.heap.size]?=some (.cells #[.bool false,I 0,ze,.bool false,ze,I 0] 165 (0,0)))/\2001-s.steps<=kx)
 case atStart=>exact⟨s0,J0.o,fun o h=>h,HM0.o,ri.o,wn.o,qb⟩
 case round=>
  clear HM0 ri wn J0;obtain⟨s,HS,HR,HM,HK,HB,hkx⟩:=hrel;obtain⟨ao,cp,m0,m1,m2,m3,m4,mf,wu,_,hmach⟩:=HM.o.all;have HMACH:Hd (Fj wr.drew m (.slice ao s.stack.length cp) (.slice a is.length cap) s.pl s.steps s.looks):=hmach;have uy:=HS.o.pl;have cz:=HS.o.steps;have pc:=HS.o.looks;clear hmach
  by_cases dy:s.pl<is.length
  ·have hplI:(s.pl:Int)<(is.length:Int):=qb
   by_cases fm:s.steps=2000
   ·have hst3:((s.steps:Int) == 2000)=true:=qh;have fj:Hd (Ca is s=.over 3 ⟨#[]⟩ s.steps):=Jf dy fm;have HKd:Hd (KB B m w wr.drew):=HK.o.drew;clear fm;go_wp2_with fail;go_region;go_wp2_with fail;refine(Jl m (.slice ao s.stack.length cp) _ s.pl s.steps s.looks 3 ⟨#[]⟩ _ HMACH.o).mono ?_;rintro e w2 ⟨rfl,ag⟩;have hKB:KB B m w w2:=HKd.o.trans (KB.old ag (Nat.le_trans hB (Nat.le_trans HK.o.size (Nat.le_refl _))));have xq:Hd (KB B m w w2):=hKB;have au:w2.heap[w.heap.size]?=some (.cells #[.bool false,I 0,ze,.bool false,ze,I 0] 165 (0,0)):=(by rw[ag.block _ (Af HB.o)];exact HB.o);obtain⟨k0,k1,k2,k3,k4,k5⟩:=Zo au;have f0:=fZ au;clear au ag hKB m0 m1 m2 m3 m4 mf;unfold Az;go_wp2;exact bR (v:=Az true 3 ⟨#[]⟩ false ⟨#[]⟩ s.steps) qbp rfl ⟨((((((xq.o).setN 0 hB _).setN 1 hB _).setN 2 hB _).setN 3 hB _).setN 4 hB _).setN 5 hB _,Or.inl ⟨3,⟨#[]⟩,s.steps,HR.o _ (.over fj.o),rfl⟩⟩
   ·have hst3:((s.steps:Int) == 2000)=false:=qh;obtain⟨o,t,n,ei,ku,nj,ht,hn,V7⟩:=Ks HV.o dy;obtain⟨b,off,rfl,d1,d2,d3⟩:=(HC.o.belowB HK.o.bl).1 s.pl dy;have fg:=(HC.o).2 b off rfl;rw[ei] at d1 d2 d3;have EI:Hd (ix is s.pl=⟨o,t,n⟩):=ei;obtain⟨t1,t2,t3⟩:=(HT.o.belowB HK.o.bl qb) o qb;have vv:b≠m:=qb;have h0m:0≠m:=qb;clear ei t1 t2;obtain⟨W1,yl⟩:∃ W1,wr.setCell ⟨m,3,none⟩ (I ((s.steps:Int)+1))=W1:=⟨_,rfl⟩;(have yu:Hd (Cd B W1 m s.stack (.slice (some ⟨b,off,none⟩) is.length cap) s.pl ((s.steps:Int)+1) s.looks):=by rw[<- yl];exact HM.o.steps _);(have d6:Hd (KB B m w W1):=by rw[<- yl];exact HK.o.setM 3 jr _);(have fw:Hd (W1.heap[w.heap.size]?=some (.cells #[.bool false,I 0,ze,.bool false,ze,I 0] 165 (0,0))):=by rw[<- yl,hC wr ⟨m,3,none⟩ _ _ qh];exact HB.o);(have hW1l:W1.heap.size=wr.heap.size:=by rw[<- yl];simp[go_sem]);obtain⟨n0,np,g0,g1,g2,g3,g4,gf,gml,_,gmach⟩:=yu.o.all;have me:=alK W1;obtain⟨b',bq,eb,e1,e2,e3⟩:=(HC.o.belowB d6.o.bl).1 s.pl dy;simp only[Option.some.injEq,Addr.mk.injEq,and_true] at eb;obtain⟨rfl,rfl⟩:=eb;rw[EI.o] at e1 e2 e3;obtain⟨_,_,e4⟩:=(HT.o.belowB d6.o.bl qb) o qb;rw[Qah o nj] at e4;have a1:=fun x=>me _ _ x e1;have a2:=fun x=>me _ _ x e2;have a3:=fun x=>me _ _ x e3;have a4:=fun x=>me _ _ x e4;have a5:=fun x=>me _ _ x g0;have a6:=fun x=>me _ _ x g2;clear me;go_wp2;go_region;go_wp2;clear yl m0 m1 m2 m3 m4 mf d1 d2 d3 t3;go_region;go_wp2;go_region;obtain⟨W2,eW2⟩:∃ W2,(W1.alloc (.cells #[I o,.string t,I n] 128)).drew.drew.drew=W2:=⟨_,rfl⟩;(have hbb:Bw W1 W2:=by rw[<- eW2];exact(aN _ _).drew.drew.drew);have l5:Hd (Cd B W2 m s.stack (.slice (some ⟨b,off,none⟩) is.length cap) s.pl ((s.steps:Int)+1) s.looks):=yu.o.bl hbb;have fs:Hd (KB B m w W2):=d6.o.trans (KB.old hbb (Nat.le_trans hB d6.o.size))
    have gi:Hd (W2.heap[w.heap.size]?=some (.cells #[.bool false,I 0,ze,.bool false,ze,I 0] 165 (0,0))):=by
     rw[hbb.block _ (by rw[hW1l];exact Af HB.o)];exact fw.o
    have HX:Hd (W2.heap[wr.heap.size]?=some (.cells #[I o,.string t,I n] 128 (0,0))):=by
     rw[<- eW2,<- hW1l];exact Be _ _
    obtain⟨x0,x1,x2⟩:=ck3 HX.o;have be:B<=W2.heap.size:=Nat.le_trans hB fs.o.size;have re:Hd (Mb W2):=HP.o.belowB fs.o.bl bg;obtain⟨q0,qp,_,_,_,_,_,_,_,_,gmach2⟩:=l5.o.all;have HMA:Hd (Fj W2 m (.slice q0 s.stack.length qp) (.slice (some ⟨b,off,none⟩) is.length cap) s.pl ((s.steps:Int)+1) s.looks):=gmach2;rw[eW2];clear gmach2 eW2 hbb a1 a2 a3 a4 a5 a6 e1 e2 e3 e4 g0 g1 g2 g3 g4 gf gml gmach yu d6 HB HMACH HM HK;have T6:Hd (Ca is s=Kv ⟨o,t,n⟩ s):=Hg dy fm EI.o
    by_cases ff:s.stack.length<Av o
    ·have htkI:(s.stack.length:Int)<(Av o:Int):=qb;have fj:Hd (Ca is s=.over 2 (Er s.pl) (s.steps+1)):=T6.o.trans (Nf ff);go_wp2_with fail;refine(Nc m _ _ s.pl _ s.looks _ HMA.o re.o qb qb).mono ?_;rintro e w2 ⟨rfl,ag⟩;have xq:Hd (KB B m w w2):=fs.o.trans (KB.old ag be);have au:w2.heap[w.heap.size]?=some (.cells #[.bool false,I 0,ze,.bool false,ze,I 0] 165 (0,0)):=(by rw[ag.block _ (Af gi.o)];exact gi.o);exact qhu
    ·have htkI:¬ (s.stack.length:Int)<(Av o:Int):=qb;have xz:=HS.o.len
     rcases (show o<=11\/o=12\/o=13\/o=14\/o=15 from qb) with ho|rfl|rfl|rfl|rfl
     ·have d12:((o:Int) == 12)=false:=qh;have d13:((o:Int) == 13)=false:=qh;have d14:((o:Int) == 14)=false:=qh;have d15:((o:Int) == 15)=false:=qh;go_wp2_with fail;refine(work_any B m s.stack _ s.pl _ s.looks t n _ o l5.o be uy hn xz HS.o.size ht ku ho qb).mono ?_;rintro e w3 ⟨gh,⟨rfl,sf,jq⟩|⟨rfl,sf,ss',jq⟩⟩
      ·have fj:Hd (Ca is s=.go ⟨Ex o n s.pl (Bp s.stack),Bh s.stack (Av o)++Ct o t n (Bp s.stack) (Ij s.stack),s.steps+1,s.looks⟩):=T6.o.trans (Qm ff ho sf);have E5:Hd (Cd B w3 m (Bh s.stack (Av o)++Ct o t n (Bp s.stack) (Ij s.stack)) (.slice (some ⟨b,off,none⟩) is.length cap) (Ex o n s.pl (Bp s.stack):Nat) ((s.steps:Int)+1) s.looks):=jq;have HBD:Hd (¬ Ta o t n s.stack):=sf;have rh:Hd (KB B m W2 w3):=gh;clear jq sf gh;go_wp2_with fail
       go_roundg (2001-(s.steps+1))
       case rel=>exact⟨⟨Ex o n s.pl (Bp s.stack),Bh s.stack (Av o)++Ct o t n (Bp s.stack) (Ij s.stack),s.steps+1,s.looks⟩,go_ok HS.o dh.2 dy fm V7 HBD.o,fun o' h=>HR.o o' (.go fj.o h),E5.o,fs.o.trans rh.o,rh.o.keep _ _ 165 qd qb gi.o,qg⟩
       case measure=>omega
      ·have fj:Hd (Ca is s=.over 2 (Er s.pl) (s.steps+1)):=T6.o.trans (Hh ff ho sf);obtain⟨z0,zp,_,_,_,_,_,_,_,_,gm3⟩:=jq.all;have HG3:Hd (Fj w3 m _ _ s.pl ((s.steps:Int)+1) s.looks):=gm3;have rh:Hd (KB B m w w3):=fs.o.trans gh;have fk:Hd (w3.heap[w.heap.size]?=some (.cells #[.bool false,I 0,ze,.bool false,ze,I 0] 165 (0,0))):=gh.keep _ _ 165 qd qb gi.o;have HP3:Hd (Mb w3):=HP.o.belowB rh.o.bl bg;clear jq sf gh gm3;go_wp2_with fail;refine(Nc m _ _ s.pl _ s.looks _ HG3.o HP3.o qb qb).mono ?_;rintro e w2 ⟨rfl,ag⟩;have xq:Hd (KB B m w w2):=rh.o.trans (KB.old ag (Nat.le_trans hB rh.o.size));have au:w2.heap[w.heap.size]?=some (.cells #[.bool false,I 0,ze,.bool false,ze,I 0] 165 (0,0)):=qgj;exact qhu
     ·(have uj:1<=s.stack.length:=by have:Av 12=1:=rfl;omega);have eg:=Jg uj;have lj:=Bf s.stack 1;have hx1:=HS.o.size _ (Gk uj);have px:Hd (Cd B W2 m (Bh s.stack 1++[Bp s.stack]) (.slice (some ⟨b,off,none⟩) is.length cap) s.pl ((s.steps:Int)+1) s.looks):=qeh;clear eg
      by_cases cr:Am (Bp s.stack)
      ·by_cases A7:s.looks=200
       ·have fj:Hd (Ca is s=.over 3 ⟨#[]⟩ (s.steps+1)):=T6.o.trans (Hi ff qb cr A7);go_wp2_with fail;refine(Tz B m _ _ _ s.pl _ s.looks true _ px.o be qb hx1 re.o bg qb qb cr qb).mono ?_;exact qhm
       ·have fj:Hd (Ca is s=.look true (Bp s.stack) ⟨s.pl,Bh s.stack 1,s.steps+1,s.looks+1⟩):=T6.o.trans (Jm ff qb cr A7);go_wp2_with fail;refine(Wz B m _ _ _ s.pl _ s.looks true _ px.o be qb hx1 cr qb qb).mono ?_;rintro e w2 ⟨rfl,ag,hM5⟩;have xq:Hd (KB B m w w2):=fs.o.trans ag;have HM5:Hd (Cd B w2 m (Bh s.stack 1) (.slice (some ⟨b,off,none⟩) is.length cap) s.pl ((s.steps:Int)+1) ((s.looks:Int)+1)):=hM5;have HBK:Hd (w2.heap[w.heap.size]?=some (.cells #[.bool false,I 0,ze,.bool false,ze,I 0] 165 (0,0))):=ag.keep _ _ 165 qd qb gi.o;clear hM5;have au:w2.heap[w.heap.size]?=some (.cells #[.bool false,I 0,ze,.bool false,ze,I 0] 165 (0,0)):=HBK.o;obtain⟨k0,k1,k2,k3,k4,k5⟩:=Zo au;have f0:=fZ au;clear au x0 x1 x2;unfold Az;go_wp2;exact bR (v:=Az false 0 ⟨#[]⟩ true (Bp s.stack) ((s.steps:Int)+1)) qbp rfl ⟨((((((xq.o).setN 0 hB _).setN 1 hB _).setN 2 hB _).setN 3 hB _).setN 4 hB _).setN 5 hB _,Or.inr ⟨true,Bp s.stack,⟨s.pl,Bh s.stack 1,s.steps+1,s.looks+1⟩,HR.o _ (.look fj.o),rfl,Td HS.o fm A7,(Cd.turn (Cd.turn (Cd.turn (Cd.turn (Cd.turn (Cd.turn ⟨HM5.o,_,HBK.o⟩ 0 _) 1 _) 2 _) 3 _) 4 _) 5 _).1⟩⟩
      ·have fj:Hd (Ca is s=.over 2 (Er s.pl) (s.steps+1)):=T6.o.trans (Ld ff qb cr);go_wp2_with fail;refine(Qbf B m _ _ _ s.pl _ s.looks true _ px.o be qb hx1 re.o bg qb qb cr).mono ?_;exact qhl
     ·(have uj:1<=s.stack.length:=by have:Av 13=1:=rfl;omega);have eg:=Jg uj;have lj:=Bf s.stack 1;have hx1:=HS.o.size _ (Gk uj);have px:Hd (Cd B W2 m (Bh s.stack 1++[Bp s.stack]) (.slice (some ⟨b,off,none⟩) is.length cap) s.pl ((s.steps:Int)+1) s.looks):=qeh;clear eg
      by_cases cr:Am (Bp s.stack)
      ·by_cases A7:s.looks=200
       ·have fj:Hd (Ca is s=.over 3 ⟨#[]⟩ (s.steps+1)):=T6.o.trans (Hi ff qb cr A7);go_wp2_with fail;refine(Tz B m _ _ _ s.pl _ s.looks false _ px.o be qb hx1 re.o bg qb qb cr qb).mono ?_;exact qhm
       ·have fj:Hd (Ca is s=.look false (Bp s.stack) ⟨s.pl,Bh s.stack 1,s.steps+1,s.looks+1⟩):=T6.o.trans (Jm ff qb cr A7);go_wp2_with fail;refine(Wz B m _ _ _ s.pl _ s.looks false _ px.o be qb hx1 cr qb qb).mono ?_;rintro e w2 ⟨rfl,ag,hM5⟩;have xq:Hd (KB B m w w2):=fs.o.trans ag;have HM5:Hd (Cd B w2 m (Bh s.stack 1) (.slice (some ⟨b,off,none⟩) is.length cap) s.pl ((s.steps:Int)+1) ((s.looks:Int)+1)):=hM5;have HBK:Hd (w2.heap[w.heap.size]?=some (.cells #[.bool false,I 0,ze,.bool false,ze,I 0] 165 (0,0))):=ag.keep _ _ 165 qd qb gi.o;clear hM5;have au:w2.heap[w.heap.size]?=some (.cells #[.bool false,I 0,ze,.bool false,ze,I 0] 165 (0,0)):=HBK.o;obtain⟨k0,k1,k2,k3,k4,k5⟩:=Zo au;have f0:=fZ au;clear au x0 x1 x2;unfold Az;go_wp2;exact bR (v:=Az false 0 ⟨#[]⟩ false (Bp s.stack) ((s.steps:Int)+1)) qbp rfl ⟨((((((xq.o).setN 0 hB _).setN 1 hB _).setN 2 hB _).setN 3 hB _).setN 4 hB _).setN 5 hB _,Or.inr ⟨false,Bp s.stack,⟨s.pl,Bh s.stack 1,s.steps+1,s.looks+1⟩,HR.o _ (.look fj.o),rfl,Td HS.o fm A7,(Cd.turn (Cd.turn (Cd.turn (Cd.turn (Cd.turn (Cd.turn ⟨HM5.o,_,HBK.o⟩ 0 _) 1 _) 2 _) 3 _) 4 _) 5 _).1⟩⟩
      ·have fj:Hd (Ca is s=.over 2 (Er s.pl) (s.steps+1)):=T6.o.trans (Ld ff qb cr);go_wp2_with fail;refine(Qbf B m _ _ _ s.pl _ s.looks false _ px.o be qb hx1 re.o bg qb qb cr).mono ?_;exact qhl
     ·(have uj:1<=s.stack.length:=by have:Av 14=1:=rfl;omega);have eg:=Jg uj;have lj:=Bf s.stack 1;have px:Hd (Cd B W2 m (Bh s.stack 1++[Bp s.stack]) (.slice (some ⟨b,off,none⟩) is.length cap) s.pl ((s.steps:Int)+1) s.looks):=qeh;clear eg;have fj:Hd (Ca is s=.over 1 (Bp s.stack) (s.steps+1)):=T6.o.trans (Ku ff rfl);go_wp2_with fail;refine(Cg B m _ _ _ s.pl _ s.looks _ px.o be qb).mono ?_;rintro e w3 ⟨rfl,gh,jq,kj⟩;obtain⟨z0,zp,_,_,_,_,_,_,_,_,gm3⟩:=jq.all;have HG3:Hd (Fj w3 m _ _ s.pl ((s.steps:Int)+1) s.looks):=gm3;have rh:Hd (KB B m w w3):=fs.o.trans gh;have fk:Hd (w3.heap[w.heap.size]?=some (.cells #[.bool false,I 0,ze,.bool false,ze,I 0] 165 (0,0))):=gh.keep _ _ 165 qd qb gi.o;clear jq gh gm3 kj;go_wp2_with fail;refine(Jl m _ _ s.pl _ s.looks 1 (Bp s.stack) _ HG3.o).mono ?_;rintro e w2 ⟨rfl,ag⟩;have xq:Hd (KB B m w w2):=rh.o.trans (KB.old ag (Nat.le_trans hB rh.o.size));have au:w2.heap[w.heap.size]?=some (.cells #[.bool false,I 0,ze,.bool false,ze,I 0] 165 (0,0)):=qgj;obtain⟨k0,k1,k2,k3,k4,k5⟩:=Zo au;have f0:=fZ au;clear au x0 x1 x2;unfold Az;go_wp2;exact bR (v:=Az true 1 (Bp s.stack) false ⟨#[]⟩ ((s.steps:Int)+1)) qbp rfl ⟨((((((xq.o).setN 0 hB _).setN 1 hB _).setN 2 hB _).setN 3 hB _).setN 4 hB _).setN 5 hB _,Or.inl ⟨1,(Bp s.stack),s.steps+1,HR.o _ (.over fj.o),rfl⟩⟩
     ·(have uj:1<=s.stack.length:=by have:Av 15=1:=rfl;omega);have eg:=Jg uj;have lj:=Bf s.stack 1;have px:Hd (Cd B W2 m (Bh s.stack 1++[Bp s.stack]) (.slice (some ⟨b,off,none⟩) is.length cap) s.pl ((s.steps:Int)+1) s.looks):=qeh;clear eg;have fj:Hd (Ca is s=.over 0 (Bp s.stack) (s.steps+1)):=T6.o.trans (Ng ff rfl);go_wp2_with fail;refine(Cg B m _ _ _ s.pl _ s.looks _ px.o be qb).mono ?_;rintro e w3 ⟨rfl,gh,jq,kj⟩;obtain⟨z0,zp,_,_,_,_,_,_,_,_,gm3⟩:=jq.all;have HG3:Hd (Fj w3 m _ _ s.pl ((s.steps:Int)+1) s.looks):=gm3;have rh:Hd (KB B m w w3):=fs.o.trans gh;have fk:Hd (w3.heap[w.heap.size]?=some (.cells #[.bool false,I 0,ze,.bool false,ze,I 0] 165 (0,0))):=gh.keep _ _ 165 qd qb gi.o;clear jq gh gm3 kj;go_wp2_with fail;refine(Jl m _ _ s.pl _ s.looks 0 (Bp s.stack) _ HG3.o).mono ?_;rintro e w2 ⟨rfl,ag⟩;have xq:Hd (KB B m w w2):=rh.o.trans (KB.old ag (Nat.le_trans hB rh.o.size));have au:w2.heap[w.heap.size]?=some (.cells #[.bool false,I 0,ze,.bool false,ze,I 0] 165 (0,0)):=qgj;obtain⟨k0,k1,k2,k3,k4,k5⟩:=Zo au;have f0:=fZ au;clear au x0 x1 x2;unfold Az;go_wp2;exact bR (v:=Az true 0 (Bp s.stack) false ⟨#[]⟩ ((s.steps:Int)+1)) qbp rfl ⟨((((((xq.o).setN 0 hB _).setN 1 hB _).setN 2 hB _).setN 3 hB _).setN 4 hB _).setN 5 hB _,Or.inl ⟨0,(Bp s.stack),s.steps+1,HR.o _ (.over fj.o),rfl⟩⟩
  ·have hplI:¬ (s.pl:Int)<(is.length:Int):=qb;have fj:Hd (Ca is s=.over 2 (Er s.pl) s.steps):=Km dy;have HPd:Hd (Mb wr.drew):=(HP.o.belowB HK.o.drew.bl bg);have HKd:Hd (KB B m w wr.drew):=HK.o.drew;go_wp2_with fail;go_region;go_wp2_with fail;refine(Nc m (.slice ao s.stack.length cp) _ s.pl s.steps s.looks _ HMACH.o HPd.o qb qb).mono ?_;rintro e w2 ⟨rfl,ag⟩;have hKB:KB B m w w2:=HKd.o.trans (KB.old ag (Nat.le_trans hB (Nat.le_trans HK.o.size (Nat.le_refl _))));have xq:Hd (KB B m w w2):=hKB;have au:w2.heap[w.heap.size]?=some (.cells #[.bool false,I 0,ze,.bool false,ze,I 0] 165 (0,0)):=(by rw[ag.block _ (Af HB.o)];exact HB.o);obtain⟨k0,k1,k2,k3,k4,k5⟩:=Zo au;have f0:=fZ au;clear au ag hKB m0 m1 m2 m3 m4 mf;unfold Az;go_wp2;exact bR (v:=Az true 2 (Er s.pl) false ⟨#[]⟩ s.steps) qfv rfl ⟨((((((xq.o).setN 0 hB _).setN 1 hB _).setN 2 hB _).setN 3 hB _).setN 4 hB _).setN 5 hB _,Or.inl ⟨2,Er s.pl,s.steps,HR.o _ (.over fj.o),rfl⟩⟩
end
end Go.Proofs.YtfgoholldpeabaaGreatDoor
