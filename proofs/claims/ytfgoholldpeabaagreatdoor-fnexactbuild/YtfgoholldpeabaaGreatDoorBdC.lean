import Derived.Test.YtfgoholldpeabaaGreatDoorBdB
namespace Go.Proofs.YtfgoholldpeabaaGreatDoor
open _root_.Go.Proofs.Tryz Go.RowKit
set_option linter.unusedVariables false
set_option linter.unusedSimpArgs false
variable {p q:T2->Bool} {ms ms':Mm} {ts:List T2} {st:List By} {ss:List S2} {n:Nat} {s s':Sb} {j:BJ} {a:BA}
open Classical in
noncomputable def Dd (ts:List T2) (ms:Mm) (st:List By):Nat:=(ts.filter fun t=>decide ((fd ms t.name).isSome=true\/Ec st t.name)).length
theorem Mf (ts:List T2) (ms:Mm) (st:List By):Dd ts ms st<=ts.length:=List.length_filter_le _ _
theorem Kb:∀(l:List T2),(∀ t∈l,p t=true->q t=true)->(l.filter p).length<=(l.filter q).length
  | [],_=>Nat.le_refl _
  | a :: l,h=>by
    have ih:=Kb l (fun t ht=>h t (List.mem_cons_of_mem _ ht));rw[List.filter_cons,List.filter_cons]
    by_cases hp:p a=true
    · rw[if_pos hp,if_pos (h a (List.mem_cons_self ..) hp)];simp;exact ih
    · rw[if_neg hp]
      split
      · simp;omega
      · exact ih
theorem Ri:∀(l:List T2),(∀ t∈l,p t=true->q t=true)->(∃ t∈l,p t=false/\q t=true)->(l.filter p).length+1<=(l.filter q).length
  | [],_,⟨t,ht,_⟩=>by simp at ht
  | a :: l,h,⟨t,ht,h1,h2⟩=>by
    have hm:=Kb l (fun t ht=>h t (List.mem_cons_of_mem _ ht));rw[List.filter_cons,List.filter_cons]
    rcases List.mem_cons.1 ht with e|ht
    · subst e
      rw[if_neg (by rw[h1];decide),if_pos h2];simp;exact hm
    · have ih:=Ri l (fun t ht=>h t (List.mem_cons_of_mem _ ht)) ⟨t,ht,h1,h2⟩
      by_cases hp:p a=true
      · rw[if_pos hp,if_pos (h a (List.mem_cons_self ..) hp)];simp;omega
      · rw[if_neg hp]
        split
        · simp;omega
        · exact ih
theorem Rj {e:By × Md} {nm:By} (h:(fd ms nm).isSome=true):(fd (ms++[e]) nm).isSome=true:=by
  cases hf:fd ms nm with
  | none=>rw[hf] at h;cases h
  | some d=>rw[show fd (ms++[e]) nm=some d from Qby (nm:=e.1) (d:=e.2) hf];rfl
theorem Tk (ts:List T2) (ms:Mm) (e:By × Md) (st:List By):Dd ts ms st<=Dd ts (ms++[e]) st:=Kb ts fun t _ h=>by
  simp only[decide_eq_true_eq] at h ⊢
  rcases h with h|h
  · exact Or.inl (Rj h)
  · exact Or.inr h
theorem tc_pop (ts:List T2) (ms:Mm) (nm:By) (d:Md) (st:List By) (hn:fd ms nm=none):Dd ts ms (st++[nm])<=Dd ts (ms++[(nm,d)]) st:=Kb ts fun t _ h=>by
  simp only[decide_eq_true_eq] at h ⊢
  rcases h with h|h
  · exact Or.inl (Rj h)
  · rcases Dz.1 h with q|q
    · exact Or.inr q
    · left;rw[q,Hl hn];rfl
theorem Xu {i:Nat} (hi:i<ts.length) (h1:fd ms (tx ts i).name=none) (h2:¬ Ec st (tx ts i).name):Dd ts ms st+1<=Dd ts ms (st++[(tx ts i).name]):=by
  refine Ri ts (fun t _ h=>?_) ⟨tx ts i,?_,?_,?_⟩
  · simp only[decide_eq_true_eq] at h ⊢
    rcases h with h|h
    · exact Or.inl h
    · exact Or.inr (Dz.2 (Or.inl h))
  · unfold tx;rw[gG,Iu hi];exact List.getElem_mem _
  · simp[h1,h2]
  · simp only[decide_eq_true_eq];exact Or.inr (Dz.2 (Or.inr rfl))
def Ol:BJ->Nat
  | .make _=>1
  | .work _ _=>400200
  | .tri _ i m=>200*(m-i)
  | .holds gs k=>gs.length-k
  | .run _ ys _=>200-ys.length
theorem Bc.cost (hv:SpV ss ts) (h:Bc ss ts n ms s st j ms' s' a):Fv ss ts ms st->Kl n s->JobB s j->(∀ b,a≠.bad b)->400200*Dd ts ms st+ms'.length<=ms.length+Ol j+400200*Dd ts ms' st:=by
  induction h with
  | known h1=>intro hi hs _ _;simp only[Ol];omega
  | circle=>intro _ _ _ ha;exact absurd rfl (ha _)
  | @source ms s st nm i h1 h0 h2 h3=>intro hi hs _ _;have:=Tk ts ms (nm,⟨0,(sx ss i).text,[]⟩) st;simp only[Ol,List.length_append,List.length_singleton];omega
  | @missing ms s st nm h1 h0 h2=>intro hi hs _ _;have:=Tk ts ms (nm,⟨4,nm,[]⟩) st;simp only[Ol,List.length_append,List.length_singleton];omega
  | deep=>intro _ _ _ ha;exact absurd rfl (ha _)
  | @made ms s st nm i ms' s' d h1 h0 h2 h3 h4 h5 hw ih=>
    intro hi hs hj _;have hth:=h4▸Hz h3;have hp:=hi.push h1 hth;obtain⟨k1,_,_,_⟩:=Bc.inv hv hw hp hs (hv.pr _ h3) (fun b e=>qu);have k:=ih hp hs (hv.pr _ h3) (fun b e=>qu);have q1:=tc_pop ts ms' nm d st (k1.nst _ (Dz.2 (Or.inr rfl)))
    have q2:Dd ts ms st+1<=Dd ts ms (st++[nm]):=by
      exact qlb
    simp only[Ol,List.length_append,List.length_singleton] at k ⊢;omega
  | fell=>intro _ _ _ ha;exact absurd rfl (ha _)
  | held _ ih=>
    intro hi hs hj _;have k:=ih hi hs (Nat.le_refl _) (fun b e=>qu);have:=hs.2.1;simp only[Ol] at k ⊢;omega
  | tfell=>intro _ _ _ ha;exact absurd rfl (ha _)
  | ran h1 h2 ih ih2=>
    intro hi hs hj _;have k:=ih hi hs (Nat.le_refl _) (fun b e=>qu);obtain⟨k1,k2,k3,k4⟩:=Bc.inv hv h1 hi hs (Nat.le_refl _) (fun b e=>qu);have l:=ih2 k1 k2 ⟨⟨hj,fun i hi=>qy,rfl⟩,qg,fun g hg=>by simp at hg⟩ (fun b e=>qu);have:=hs.2.1;simp only[Ol,List.length_nil] at k l ⊢;omega
  | rfell=>intro _ _ _ ha;exact absurd rfl (ha _)
  | tend=>intro hi hs _ _;simp only[Ol];omega
  | tother h1 h2 _ ih=>intro hi hs hj ha;have:=ih hi hs hj ha;simp only[Ol] at this ⊢;omega
  | thit h1 h2 _ ih=>
    intro hi hs hj _;have hq:=hs.2.2 _ (Nat.lt_of_lt_of_le h1 hj);have k:=ih hi hs ⟨hq.2.2.1,fun j hj=>(hq.2.2.2 j hj).1⟩ (fun b e=>qu);have:=hq.2.2.1;simp only[Ol] at k ⊢;omega
  | tno h1 h2 hh _ ih ih2=>
    intro hi hs hj ha;have hq:=hs.2.2 _ (Nat.lt_of_lt_of_le h1 hj);have k:=ih hi hs ⟨hq.2.2.1,fun j hj=>(hq.2.2.2 j hj).1⟩ (fun b e=>qu);obtain⟨k1,k2,k3,_⟩:=Bc.inv hv hh hi hs ⟨hq.2.2.1,fun j hj=>(hq.2.2.2 j hj).1⟩ (fun b e=>qu);have l:=ih2 k1 k2 (Nat.le_trans hj k3.len) ha;have:=hq.2.2.1;simp only[Ol] at k l ⊢;omega
  | tbad=>intro _ _ _ ha;exact absurd rfl (ha _)
  | hend=>intro hi hs _ _;simp only[Ol];omega
  | hhas h1 h2 h3 _ ih=>intro hi hs hj ha;have:=ih hi hs hj ha;simp only[Ol] at this ⊢;omega
  | hhasno=>intro hi hs _ _;simp only[Ol];omega
  | hask h1 h2 hm h4 _ ih ih2=>
    intro hi hs hj ha;have k:=ih hi hs (hj.2 _ h1) (fun b e=>qu);obtain⟨k1,k2,k3,_⟩:=Bc.inv hv hm hi hs (hj.2 _ h1) (fun b e=>qu);have l:=ih2 k1 k2 hj ha;simp only[Ol] at k l ⊢;omega
  | haskno h1 h2 _ h4 ih=>
    intro hi hs hj _;have k:=ih hi hs (hj.2 _ h1) (fun b e=>qu);simp only[Ol] at k ⊢;omega
  | haskbad=>intro _ _ _ ha;exact absurd rfl (ha _)
  | over h1 h2=>intro hi hs hj _;simp only[Ol];omega
  | overbad=>intro _ _ _ ha;exact absurd rfl (ha _)
  | has h1 _ ih=>
    intro hi hs hj ha;obtain⟨k1,k2⟩:=hj.1.wait h1;have k:=ih hi hs ⟨hj.1.has _ _,qh,hj.2.2.snoc k2 (Hk _)⟩ ha;simp only[Ol,List.length_append,List.length_singleton] at k ⊢;omega
  | asked h1 hm _ ih ih2=>
    intro hi hs hj ha;obtain⟨k1,k2⟩:=hj.1.wait h1;have k:=ih hi hs k2 (fun b e=>qu);obtain⟨i1,i2,i3,i4⟩:=Bc.inv hv hm hi hs k2 (fun b e=>qu);have hd:=i1.done _ _ i4;have l:=ih2 i1 i2 ⟨hj.1.asked hd _,qh,hj.2.2.snoc k2 (Dn hd.t2)⟩ ha;simp only[Ol,List.length_append,List.length_singleton] at k l ⊢;omega
  | askbad=>intro _ _ _ ha;exact absurd rfl (ha _)
def Ki (ts:List T2) (ms:Mm) (s:Sb) (st:List By):Prop:=s.ran.length+s.held.length+st.length<=Dd ts ms st
theorem Bc.cnt (hv:SpV ss ts) (h:Bc ss ts n ms s st j ms' s' a):Fv ss ts ms st->Kl n s->JobB s j->(∀ b,a≠.bad b)->∀ e,s.ran.length+s.held.length+e<=Dd ts ms st->s'.ran.length+s'.held.length+e<=Dd ts ms' st+Wq j:=by
  induction h with
  | known h1=>intro hi hs _ _ e he;simp only[Wq];omega
  | circle=>intro _ _ _ ha;exact absurd rfl (ha _)
  | @source ms s st nm i h1 h0 h2 h3=>intro hi hs _ _ e he;have:=Tk ts ms (nm,⟨0,(sx ss i).text,[]⟩) st;simp only[Wq];omega
  | @missing ms s st nm h1 h0 h2=>intro hi hs _ _ e he;have:=Tk ts ms (nm,⟨4,nm,[]⟩) st;simp only[Wq];omega
  | deep=>intro _ _ _ ha;exact absurd rfl (ha _)
  | @made ms s st nm i ms' s' d h1 h0 h2 h3 h4 h5 hw ih=>
    intro hi hs hj _ e he;have hth:=h4▸Hz h3;have hp:=hi.push h1 hth;obtain⟨k1,_,_,_⟩:=Bc.inv hv hw hp hs (hv.pr _ h3) (fun b e=>qu);have q1:=tc_pop ts ms' nm d st (k1.nst _ (Dz.2 (Or.inr rfl)))
    have q2:Dd ts ms st+1<=Dd ts ms (st++[nm]):=by
      exact qlb
    have k:=ih hp hs (hv.pr _ h3) (fun b e=>qu) (e+1) qb;simp only[Wq] at k ⊢;omega
  | fell=>intro _ _ _ ha;exact absurd rfl (ha _)
  | held _ ih=>
    intro hi hs hj _ e he;have k:=ih hi hs (Nat.le_refl _) (fun b e=>qu) e he;simp only[Wq,List.length_append,List.length_singleton] at k ⊢;omega
  | tfell=>intro _ _ _ ha;exact absurd rfl (ha _)
  | ran h1 h2 ih ih2=>
    intro hi hs hj _ e he;have k:=ih hi hs (Nat.le_refl _) (fun b e=>qu) e he;obtain⟨k1,k2,k3,k4⟩:=Bc.inv hv h1 hi hs (Nat.le_refl _) (fun b e=>qu);have l:=ih2 k1 k2 ⟨⟨hj,fun i hi=>qy,rfl⟩,qg,fun g hg=>by simp at hg⟩ (fun b e=>qu) e qeg;simp only[Wq,List.length_append,List.length_singleton] at k l ⊢;omega
  | rfell=>intro _ _ _ ha;exact absurd rfl (ha _)
  | tend=>intro hi hs _ _ e he;simp only[Wq];omega
  | tother h1 h2 _ ih=>intro hi hs hj ha e he;exact ih hi hs hj ha e he
  | thit h1 h2 _ ih=>
    intro hi hs hj _ e he;have hq:=hs.2.2 _ (Nat.lt_of_lt_of_le h1 hj);exact ih hi hs ⟨hq.2.2.1,fun j hj=>(hq.2.2.2 j hj).1⟩ (fun b e=>qu) e he
  | tno h1 h2 hh _ ih ih2=>
    intro hi hs hj ha e he;have hq:=hs.2.2 _ (Nat.lt_of_lt_of_le h1 hj);have k:=ih hi hs ⟨hq.2.2.1,fun j hj=>(hq.2.2.2 j hj).1⟩ (fun b e=>qu) e he;obtain⟨k1,k2,k3,_⟩:=Bc.inv hv hh hi hs ⟨hq.2.2.1,fun j hj=>(hq.2.2.2 j hj).1⟩ (fun b e=>qu);exact ih2 k1 k2 (Nat.le_trans hj k3.len) ha e qeg
  | tbad=>intro _ _ _ ha;exact absurd rfl (ha _)
  | hend=>intro hi hs _ _ e he;simp only[Wq];omega
  | hhas h1 h2 h3 _ ih=>intro hi hs hj ha e he;exact ih hi hs hj ha e he
  | hhasno=>intro hi hs _ _ e he;simp only[Wq];omega
  | hask h1 h2 hm h4 _ ih ih2=>
    intro hi hs hj ha e he;have k:=ih hi hs (hj.2 _ h1) (fun b e=>qu) e he;obtain⟨k1,k2,k3,_⟩:=Bc.inv hv hm hi hs (hj.2 _ h1) (fun b e=>qu);exact ih2 k1 k2 hj ha e qeg
  | haskno h1 h2 _ h4 ih=>intro hi hs hj _ e he;exact ih hi hs (hj.2 _ h1) (fun b e=>qu) e he
  | haskbad=>intro _ _ _ ha;exact absurd rfl (ha _)
  | over h1 h2=>
    intro hi hs hj _ e he
    cases h2 with
    | ok=>simp only[Wq];exact he
  | overbad=>intro _ _ _ ha;exact absurd rfl (ha _)
  | has h1 _ ih=>
    intro hi hs hj ha e he;obtain⟨k1,k2⟩:=hj.1.wait h1;exact ih hi hs ⟨hj.1.has _ _,qh,hj.2.2.snoc k2 (Hk _)⟩ ha e he
  | asked h1 hm _ ih ih2=>
    intro hi hs hj ha e he;obtain⟨k1,k2⟩:=hj.1.wait h1;have k:=ih hi hs k2 (fun b e=>qu) e he;obtain⟨i1,i2,i3,i4⟩:=Bc.inv hv hm hi hs k2 (fun b e=>qu);have hd:=i1.done _ _ i4;exact ih2 i1 i2 ⟨hj.1.asked hd _,qh,hj.2.2.snoc k2 (Dn hd.t2)⟩ ha e qeg
  | askbad=>intro _ _ _ ha;exact absurd rfl (ha _)
theorem Bc.cntM (hv:SpV ss ts) (h:Bc ss ts n ms s st j ms' s' a) (hi:Fv ss ts ms st) (hs:Kl n s) (hj:JobB s j) (ha:∀ b,a≠.bad b) (hz:Wq j=0) (hc:Ki ts ms s st):Ki ts ms' s' st:=by
  have:=h.cnt hv hi hs hj ha st.length hc;rw[hz] at this;exact this
end Go.Proofs.YtfgoholldpeabaaGreatDoor
