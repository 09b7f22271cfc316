import Derived.Test.YtnflkpmmfpfhlaaGreatDoorVsB
namespace Go.Proofs.YtnflkpmmfpfhlaaGreatDoor
open _root_.Go.Proofs.Tryz Go.RowKit Go.Deep
open Value renaming slice->J,string->S,bool->F,agg->G,tuple->Y
open Option renaming some->M,none->N
open Obj renaming cells->O
open Go renaming Value->Z,World->E
open Ending renaming returned->H
open _root_ renaming List->L,Nat->X
set_option linter.unusedVariables false
set_option maxHeartbeats 8000000
set_option maxRecDepth 100000
set_option linter.unusedSimpArgs false
structure Jf (W0:E) (sa ta:Option Addr) (ss:L S2) (ts:L T2):Prop where
 rs:Kn W0 sa ss
 rt:Km W0 ta ts
 v:Xv ss ts
 l1:ss.length<=200
 l2:ts.length<=200
 xc:∀i j,(ix (tx ts i).code j).text.size<=9223372036854775807
theorem Qz{w:E}{b b':X}{o:Obj}(h:w.heap[b']?=M o)(hne:b'≠b)(v0 v1 v2:Z):(((w.setCell ⟨b,0,N⟩ v0).setCell ⟨b,1,N⟩ v1).setCell ⟨b,2,N⟩ v2).heap[b']?=M o:=by
 rw[Dm _ ⟨b,2,N⟩ _ b' hne,Dm _ ⟨b,1,N⟩ _ b' hne,Dm _ ⟨b,0,N⟩ _ b' hne]
 exact h
section
open Go.Deep
end
section
open Go.Deep
end
section
open Go.Deep
end
section
open Go.Deep
theorem Mf{w:E}{sa ta:Option Addr}{ss:L S2}{ts:L T2}(h:Li w sa ss ta ts)(hc:Fx ss ts=0):Jf w sa ta ss ts:=by
 unfold Fx at hc
 split at hc
 ·omega
 ·rename_i h1
  split at hc
  ·omega
  ·rename_i h2
   split at hc
   ·omega
   ·rename_i h3
    split at hc
    ·omega
    ·rename_i h4
     split at hc
     ·omega
     ·rename_i h5
      split at hc
      ·omega
      ·rename_i h6
       split at hc
       ·omega
       ·rename_i h7
        have h2:=Classical.not_not.mp h2;have h3:=Classical.not_not.mp h3;have h4:=Classical.not_not.mp h4;have h6:=Classical.not_not.mp h6;have h7:=Classical.not_not.mp h7;refine⟨h.rs,h.rt,⟨h3,h4,?_,?_,?_,?_⟩,qg,qg,?_⟩
        ·rintro nm ⟨i,hi,e⟩ hn;exact h5 ⟨i,hi,by rw[e];exact hn⟩
        ·exact h6
        ·exact h7
        ·intro i hi;have hq:=h2.2 i (by rw[Ca];exact hi);rw[Dt]at hq;unfold Gg at hq;simpa using hq
        ·intro i j;have:=h.xt i j;unfold maxLen at this;omega
theorem Li.bl{w w':E}{sa ta:Option Addr}{ss:L S2}{ts:L T2}(h:Li w sa ss ta ts)(hb:Bw w w'):Li w' sa ss ta ts:=⟨h.rs.bl hb,h.rt.bl hb,h.ls,h.lt,h.ns,h.xs,h.nt,h.lc,h.xt⟩
end
theorem cmp_lt:∀(a b:L UInt8),Lib.compareBytes a b<0↔Op.bytesLess a b=true
 | [],[]=>qhg
 | [],_::_=>qhg
 | _::_,[]=>qhg
 | a::ar,b::bs=>by
  have ih:=cmp_lt ar bs
  by_cases h1:a<b
  ·simp[Lib.compareBytes,Op.bytesLess,h1]
  ·by_cases h2:b<a
   ·(have hne:¬ a=b:=by intro e;subst e;exact absurd h2 qi);simp[Lib.compareBytes,Op.bytesLess,h1,h2,hne]
   ·have he:a=b:=UInt8.le_antisymm (UInt8.not_lt.mp h2) (UInt8.not_lt.mp h1);subst he;simp[Lib.compareBytes,Op.bytesLess,ih]
theorem cmp_zero:∀(a b:L UInt8),Lib.compareBytes a b=0↔a=b
 | [],[]=>by simp[Lib.compareBytes]
 | [],_::_=>by simp[Lib.compareBytes]
 | _::_,[]=>by simp[Lib.compareBytes]
 | a::ar,b::bs=>by
  have ih:=cmp_zero ar bs
  by_cases h1:a<b
  ·have hne:¬ a=b:=by intro e;subst e;exact absurd h1 qi
   simp[Lib.compareBytes,h1,hne]
  ·by_cases h2:b<a
   ·(have hne:¬ a=b:=by intro e;subst e;exact absurd h2 qi);simp[Lib.compareBytes,h1,h2,hne]
   ·have he:a=b:=UInt8.le_antisymm (UInt8.not_lt.mp h2) (UInt8.not_lt.mp h1);subst he;simp[Lib.compareBytes,ih]
def Mu(a b:By):Int:=Lib.compareBytes a.data.toList b.data.toList
theorem cmpB_lt{a b:By}{v:Bool}(h:Ax a b=v):decide (Mu a b<0)=v:=by
 unfold Ax at h
 rw[ByteArray.toList_eq,ByteArray.toList_eq]at h
 unfold Mu
 cases v
 ·rw[decide_eq_false_iff_not,cmp_lt,h];simp
 ·rw[decide_eq_true_eq,cmp_lt];exact h
theorem Og(a b:By):Mu a b=0↔a=b:=by
 unfold Mu
 rw[cmp_zero]
 exact⟨λh=>WideShapes.bytes_inj h,λh=>by rw[h]⟩
structure At (l:L By) (t:By) (r:X) (b:Bool):Prop where
 le:r<=l.length
 lo:∀j,j<r->Ax (nx l j) t=true
 hi:∀j,r<=j->j<l.length->Ax (nx l j) t=false
 has:b=true↔El l t
theorem Xt(s u t:By)(w:E):Calls prog 184 #[G #[S s,S u],S t] w λe w'=>Bw w w'/\e=H (I (Mu s t)):=by
 go_enter func184,ntmps184
 exact qku
theorem Rh(a:Option Addr)(cap:X)(ss:L S2)(t:By)(w:E)(hc:Kn w a ss)(hl:ss.length<=1048576)(fc:Hf (Au ss)):Calls prog 183 #[J a ss.length cap,S t,.func (.func 184) #[] #[]] w λe w'=>Bw w w'/\∃(r:X)(b:Bool),e=H (Y #[I r,F b])/\At (Au ss) t r b:=by
 have G6:=Ab (Cd ss)
 have re:=Ab (Ed ss)
 obtain⟨l,el⟩:=Aj (Au ss)
 rw[el]at fc G6 re ⊢
 have jt:=Ab fc
 have HC:=Ab hc
 clear fc el hc
 go_enter func183,ntmps183
 go_wp2
 go_loopw [9,10] (λi j wr=>∃lo hi:X,i=I lo/\j=I hi/\lo<=hi/\hi<=ss.length/\Hd (∀j,j<lo->Ax (nx l j) t=true)/\Hd (∀j,hi<=j->j<l.length->Ax (nx l j) t=false)/\Bw w wr) (λi j _=>(intOf j).toNat-(intOf i).toNat)
 case atStart=>exact⟨0,ss.length,rfl,rfl,Nat.zero_le _,Nat.le_refl _,(λj hj=>by omega:∀j,j<0->Ax (nx l j) t=true),(λj h1 h2=>by have:=G6.o;omega:∀j,ss.length<=j->j<l.length->Ax (nx l j) t=false),Below.refl _ _⟩
 case round=>
  obtain⟨lo,hi,rfl,rfl,g1,g2,HL,HH,bc⟩:=hrel
  by_cases ai:lo<hi
  ·obtain⟨m,e1,sd,td⟩:∃m:X,((lo:Int)+(hi:Int)) / 2=(m:Int)/\lo<=m/\m<hi:=⟨(lo+hi) / 2,qg,qg,qg⟩;obtain⟨b,off,rfl,c1,c2⟩:=(HC.o.bl bc) m qg;obtain⟨v,hv⟩:=Aj (Ax (nx l m) t);have HV:=Ab hv;have dv:decide (Mu (sx ss m).name t<0)=v:=by rw[<- re.o m];exact cmpB_lt hv
   clear hv;generalize sx ss m=s at c1 c2 dv;obtain⟨q,eq⟩:=Aj (Mu s.name t);rw[eq]at dv;have HN:Hd (∀W:E,Calls prog 184 #[G #[S s.name,S s.text],S t] W λe w'=>Bw W w'/\e=H (I q)):=λW=>qha;clear eq;exact qio
  ·obtain rfl:lo=hi:=qg;have hle:lo<=l.length:=zo G6.o
   by_cases yq:lo<ss.length
   ·obtain⟨b,off,rfl,c1,c2⟩:=(HC.o.bl bc) lo yq;have hlI:(lo:Int)<(ss.length:Int):=qg;have HE0:=Ab (re.o lo)
    by_cases he:(sx ss lo).name=t
    ·have HE:Hd (El l t):=⟨lo,by have:=G6.o;omega,by rw[HE0.o];exact he⟩;(have dz:(Mu (sx ss lo).name t == 0)=true:=by rw[beq_iff_eq,Og];exact he);clear he HE0;generalize sx ss lo=s at c1 c2 dz;obtain⟨q,eq⟩:=Aj (Mu s.name t);rw[eq]at dz;have HN:Hd (∀W:E,Calls prog 184 #[G #[S s.name,S s.text],S t] W λe w'=>Bw W w'/\e=H (I q)):=λW=>qha;clear eq;exact qko
    ·have HE:Hd (¬ El l t):=λh=>he (by rw[<- HE0.o];exact(Nk jt.o HL.o HH.o h).2);(have dz:(Mu (sx ss lo).name t == 0)=false:=by rw[beq_eq_false_iff_ne];exact λh=>he ((Og _ _).mp h));clear he HE0;generalize sx ss lo=s at c1 c2 dz;obtain⟨q,eq⟩:=Aj (Mu s.name t);rw[eq]at dz;have HN:Hd (∀W:E,Calls prog 184 #[G #[S s.name,S s.text],S t] W λe w'=>Bw W w'/\e=H (I q)):=λW=>qha;clear eq;exact qkp
   ·exact qjl
theorem Np(sa ta:Option Addr)(n1 n2 c1 c2:X)(ss:L S2)(t:By)(w:E)(hc:Kn w sa ss)(hl:ss.length<=1048576)(fc:Hf (Au ss))(hn:n1=ss.length):Calls prog 171 #[G #[J sa n1 c1,J ta n2 c2],S t] w λe w'=>Bw w w'/\∃(r:X)(b:Bool),e=H (Y #[I r,F b])/\At (Au ss) t r b:=by
 subst hn
 have ak:Bw w (w.alloc (O #[J sa ss.length c1,J ta n2 c2] 42)):=aN _ _
 go_enter func171,ntmps171
 go_wp2_with fail
 refine(Rh sa c1 ss t _ (hc.bl ak) hl fc).mono ?_
 rintro e w2 ⟨af,r,b,rfl,hr⟩
 have HR:=Ab hr
 exact qng
theorem Xs(s t:By)(u:Option Addr)(un uc:X)(w:E):Calls prog 187 #[G #[S s,J u un uc],S t] w λe w'=>Bw w w'/\e=H (I (Mu s t)):=by
 go_enter func187,ntmps187
 exact qku
theorem Rg(a:Option Addr)(cap:X)(ss:L T2)(t:By)(w:E)(hc:Km w a ss)(hl:ss.length<=1048576)(fc:Hf (Aq ss)):Calls prog 186 #[J a ss.length cap,S t,.func (.func 187) #[] #[]] w λe w'=>Bw w w'/\∃(r:X)(b:Bool),e=H (Y #[I r,F b])/\At (Aq ss) t r b:=by
 have G6:=Ab (Ca ss)
 have re:=Ab (Dt ss)
 obtain⟨l,el⟩:=Aj (Aq ss)
 rw[el]at fc G6 re ⊢
 have jt:=Ab fc
 have HC:=Ab hc
 clear fc el hc
 go_enter func186,ntmps186
 go_wp2
 go_loopw [9,10] (λi j wr=>∃lo hi:X,i=I lo/\j=I hi/\lo<=hi/\hi<=ss.length/\Hd (∀j,j<lo->Ax (nx l j) t=true)/\Hd (∀j,hi<=j->j<l.length->Ax (nx l j) t=false)/\Bw w wr) (λi j _=>(intOf j).toNat-(intOf i).toNat)
 case atStart=>exact⟨0,ss.length,rfl,rfl,Nat.zero_le _,Nat.le_refl _,(λj hj=>by omega:∀j,j<0->Ax (nx l j) t=true),(λj h1 h2=>by have:=G6.o;omega:∀j,ss.length<=j->j<l.length->Ax (nx l j) t=false),Below.refl _ _⟩
 case round=>
  obtain⟨lo,hi,rfl,rfl,g1,g2,HL,HH,bc⟩:=hrel
  by_cases ai:lo<hi
  ·obtain⟨m,e1,sd,td⟩:∃m:X,((lo:Int)+(hi:Int)) / 2=(m:Int)/\lo<=m/\m<hi:=⟨(lo+hi) / 2,qg,qg,qg⟩;obtain⟨b,off,rfl,c1,y,p,c2,c3⟩:=(HC.o.bl bc) m qg;obtain⟨v,hv⟩:=Aj (Ax (nx l m) t);have HV:=Ab hv;have dv:decide (Mu (tx ss m).name t<0)=v:=by rw[<- re.o m];exact cmpB_lt hv
   clear hv;generalize tx ss m=s at c1 c2 c3 dv;obtain⟨q,eq⟩:=Aj (Mu s.name t);rw[eq]at dv;have HN:Hd (∀W:E,Calls prog 187 #[G #[S s.name,J y s.code.length p],S t] W λe w'=>Bw W w'/\e=H (I q)):=λW=>qgs;clear eq c3;exact qio
  ·obtain rfl:lo=hi:=qg;have hle:lo<=l.length:=zo G6.o
   by_cases yq:lo<ss.length
   ·obtain⟨b,off,rfl,c1,y,p,c2,c3⟩:=(HC.o.bl bc) lo yq;have hlI:(lo:Int)<(ss.length:Int):=qg;have HE0:=Ab (re.o lo)
    by_cases he:(tx ss lo).name=t
    ·have HE:Hd (El l t):=⟨lo,by have:=G6.o;omega,by rw[HE0.o];exact he⟩;(have dz:(Mu (tx ss lo).name t == 0)=true:=by rw[beq_iff_eq,Og];exact he);clear he HE0;generalize tx ss lo=s at c1 c2 c3 dz;obtain⟨q,eq⟩:=Aj (Mu s.name t);rw[eq]at dz;have HN:Hd (∀W:E,Calls prog 187 #[G #[S s.name,J y s.code.length p],S t] W λe w'=>Bw W w'/\e=H (I q)):=λW=>qgs;clear eq c3;exact qko
    ·have HE:Hd (¬ El l t):=λh=>he (by rw[<- HE0.o];exact(Nk jt.o HL.o HH.o h).2);(have dz:(Mu (tx ss lo).name t == 0)=false:=by rw[beq_eq_false_iff_ne];exact λh=>he ((Og _ _).mp h));clear he HE0;generalize tx ss lo=s at c1 c2 c3 dz;obtain⟨q,eq⟩:=Aj (Mu s.name t);rw[eq]at dz;have HN:Hd (∀W:E,Calls prog 187 #[G #[S s.name,J y s.code.length p],S t] W λe w'=>Bw W w'/\e=H (I q)):=λW=>qgs;clear eq c3;exact qkp
   ·exact qjl
theorem Nn(sa ta:Option Addr)(n1 n2 c1 c2:X)(ss:L T2)(t:By)(w:E)(hc:Km w ta ss)(hl:ss.length<=1048576)(fc:Hf (Aq ss))(hn:n2=ss.length):Calls prog 172 #[G #[J sa n1 c1,J ta n2 c2],S t] w λe w'=>Bw w w'/\∃(r:X)(b:Bool),e=H (Y #[I r,F b])/\At (Aq ss) t r b:=by
 subst hn
 have ak:Bw w (w.alloc (O #[J sa n1 c1,J ta ss.length c2] 42)):=aN _ _
 go_enter func172,ntmps172
 go_wp2_with fail
 refine(Rg ta c2 ss t _ (hc.bl ak) hl fc).mono ?_
 rintro e w2 ⟨af,r,b,rfl,hr⟩
 have HR:=Ab hr
 exact qng
theorem isThing_any(sa ta:Option Addr)(c1 c2:X)(ss:L S2)(ts:L T2)(t:By)(w:E)(rs:Kn w sa ss)(rt:Km w ta ts)(h1:ss.length<=1048576)(h2:ts.length<=1048576)(a1:Hf (Au ss))(a2:Hf (Aq ts)):Calls prog 167 #[G #[J sa ss.length c1,J ta ts.length c2],S t] w λe w'=>Bw w w'/\∃b:Bool,e=H (F b)/\(b=true↔(El (Au ss) t\/El (Aq ts) t)):=by
 have ak:Bw w (w.alloc (O #[J sa ss.length c1,J ta ts.length c2] 42)):=aN _ _
 have k0:(w.alloc (O #[J sa ss.length c1,J ta ts.length c2] 42)).cell? ⟨w.heap.size,0,N⟩=M (J sa ss.length c1):=qo
 have k1:(w.alloc (O #[J sa ss.length c1,J ta ts.length c2] 42)).cell? ⟨w.heap.size,1,N⟩=M (J ta ts.length c2):=qo
 have HT:Hd (∀W:E,Bw w W->Calls prog 172 #[G #[J sa ss.length c1,J ta ts.length c2],S t] W λe w'=>Bw W w'/\∃(r:X)(b:Bool),e=H (Y #[I r,F b])/\At (Aq ts) t r b):=λW hW=>Nn sa ta ss.length ts.length c1 c2 ts t W (rt.bl hW) h2 a2 rfl
 clear rt a2
 go_enter func167,ntmps167
 go_wp2_with fail
 refine(Np sa ta ss.length ts.length c1 c2 ss t _ (rs.bl ak) h1 a1 rfl).mono ?_
 rintro e w1 ⟨ag,r1,b1,rfl,q1⟩
 have bm:=bt ak ag
 have x0:=Aa ag k0
 have x1:=Aa ag k1
 have j9:=Ab q1.has
 clear ak ag k0 k1 q1 rs a1
 go_wp2_with fail
 refine(HT.o w1 bm).mono ?_
 rintro e w2 ⟨af,r2,b2,rfl,q2⟩
 have bg:=bt bm af
 have I7:=Ab q2.has
 clear af q2 HT x0 x1 bm
 have HZ:Hd ((b1||b2)=true↔(El (Au ss) t\/El (Aq ts) t)):=by
  show(b1||b2)=true↔_;rw[Bool.or_eq_true,j9.o,I7.o]
 clear j9 I7
 cases b1
 ·go_wp2;go_ret;exact⟨bg,b2,rfl,by simpa using HZ.o⟩
 ·go_wp2;go_ret;exact⟨bg,true,rfl,by simpa using HZ.o⟩
section
open Go.Deep
section
variable {B h mb k:X} {sv tv fv:Z} {w:E} {ms:Ms} {st al:L By} {av kv:Z} {vs:By->Z}
end
end
section
open Go.Deep
end
section
open Go.Deep
theorem Ea{w:E}{b b':X}(h:b'≠b)(v0 v1 v2:Z):(((w.setCell ⟨b,0,N⟩ v0).setCell ⟨b,1,N⟩ v1).setCell ⟨b,2,N⟩ v2).heap[b']?=w.heap[b']?:=by
 rw[Dm _ ⟨b,2,N⟩ _ b' h,Dm _ ⟨b,1,N⟩ _ b' h,Dm _ ⟨b,0,N⟩ _ b' h]
theorem thing_of{ss:L S2}{ts:L T2}{nm:By}{b:Bool}(h:b=true↔(El (Au ss) nm\/El (Aq ts) nm)):b=Cj ss ts nm:=by
 unfold Cj Ze
 by_cases q:El (Au ss) nm\/El (Aq ts) nm
 ·rw[h.mpr q];simp[q]
 ·cases b with
  | false=>simp[q]
  | true=>exact absurd (h.mp rfl) q
theorem thing_in(sa ta:Option Addr)(c1 c2:X)(ss:L S2)(ts:L T2)(nm:By)(W0 w:E)(hE:Jf W0 sa ta ss ts)(hW:Bw W0 w):Calls prog 167 #[G #[J sa ss.length c1,J ta ts.length c2],S nm] w λe w'=>Bw w w'/\e=H (F (Cj ss ts nm)):=by
 have:=hE.l1
 have:=hE.l2
 refine(isThing_any sa ta c1 c2 ss ts nm w (hE.rs.bl hW) (hE.rt.bl hW) qg qg hE.v.ascS hE.v.ascT).mono ?_
 rintro e w' ⟨hb,b,rfl,V7⟩
 exact⟨hb,by rw[thing_of V7]⟩
end
section
open Go.Deep
theorem at_true{l:L By}{t:By}{r:X}(ha:Hf l)(h:At l t r true):r<l.length/\nx l r=t:=by
 obtain⟨j,hj,e⟩:=h.has.mp rfl
 rcases Nat.lt_trichotomy j r with q|q|q
 ·have:=h.lo j q;rw[e,Fc]at this;cases this
 ·subst q;exact⟨hj,e⟩
 ·have h1:=h.hi r (Nat.le_refl _) qg;have h2:=ha.pair q hj;rw[e,h1]at h2;cases h2
theorem at_false{l:L By}{t:By}{r:X}(h:At l t r false):¬ El l t:=λq=>by have:=h.has.mpr q;cases this
end
theorem Vs(g:G3)(n:X)(w:E)(h8:n<=8)(hn:g.name.size<=maxLen)(hs:g.sum.size<=maxLen):Calls prog 104 #[G #[S g.name,F g.ask,S g.sum],I n] w λe w'=>Bw w w'/\∃b,e=H (F b)/\(b=true↔Nw n g):=by
 unfold maxLen at hn hs;have ak:Bw w (w.alloc (O #[S g.name,F g.ask,S g.sum] 115)):=aN _ _
 by_cases h1:Ao g.name
 ·have e1:=Dc h1
  by_cases h2:g.sum.size=n
  ·have d2:((g.sum.size:Int) == (n:Int))=true:=qj
   have HH:Hd (Nw n g):=⟨h1,h2⟩;clear h2;go_enter func104,ntmps104
   go_wp2_with (first|(go_at_call 76;refine(Cf g.name _ hn).mono ?_;rintro e w9 ⟨rfl,rfl⟩;rw[e1]))
   go_ret;exact⟨ak,true,rfl,Gv HH.o⟩
  ·have d2:((g.sum.size:Int) == (n:Int))=false:=qj
   have HH:Hd (¬ Nw n g):=λh=>h2 h.2;clear h2;exact qka
 ·have e1:=Ct h1
  have HH:Hd (¬ Nw n g):=λh=>h1 h.1;exact qka
theorem Vr(a la:Option Addr)(cap lc:X)(is:L I3)(gs:L G3)(out:By)(n:X)(w:E)(h8:n<=8)(h:RcIn w a is la gs)(ho:out.size<=maxLen):Calls prog 75 #[G #[J a is.length cap,J la gs.length lc,S out],I n] w λe w'=>Bw w w'/\∃b,e=H (F b)/\(b=true↔Js n ⟨is,gs,out⟩):=by
 have ak:Bw w (w.alloc (O #[J a is.length cap,J la gs.length lc,S out] 73)):=aN _ _;have k1:(w.alloc (O #[J a is.length cap,J la gs.length lc,S out] 73)).cell? ⟨w.heap.size,1,N⟩=M (J la gs.length lc):=qo;have k2:(w.alloc (O #[J a is.length cap,J la gs.length lc,S out] 73)).cell? ⟨w.heap.size,2,N⟩=M (S out):=qo;unfold maxLen at ho;have hlg:=h.lg;have HRG:=Ab h.rg;have HNG:=Ab h.ng;have xq:=Ab h.sg;obtain⟨v,ev⟩:=Aj (Av is);have EV:=Ab ev;go_enter func75,ntmps75;go_wp2_with fail;refine(Ik a cap is _ (h.rc.bl ak) h.lc h.xc).mono ?_;rintro e w1 ⟨ag,rfl⟩;rw[ev];have bm:=bt ak ag;have T6:=Aa ag k1;have T5:=Aa ag k2;clear ak ag k1 k2 h ev;cases v
 ·exact qmg
 ·by_cases h2:out.size=n
  ·have d2:((out.size:Int) != (n:Int))=false:=qj
   have H2:=Ab h2;clear h2
   by_cases h3:200<gs.length
   ·exact qki
   ·have d3:decide ((200:Int)<(gs.length:Int))=false:=qj
    go_wp2
    go_loopw [5] (λi wr=>∃k:X,k<=gs.length/\i=I k/\Hd (∀i,i<k->Nw n (gx gs i))/\wr.cell? ⟨w.heap.size,1,N⟩=M (J la gs.length lc)/\Bw w wr) (λi _=>gs.length-(intOf i).toNat)
    case atStart=>exact⟨0,Nat.zero_le _,rfl,(λi hi=>by omega:∀i,i<0->Nw n (gx gs i)),T6,bm⟩
    case round=>
     obtain⟨k,hk,rfl,HK,hx,bc⟩:=hrel
     by_cases ai:k<gs.length
     ·obtain⟨b,off,rfl,c1,c2,c3⟩:=(HRG.o.bl bc) k ai
      have U4:=HNG.o k;have ge:=xq.o k;have HG1:Hd (Nw n (gx gs k)->∀i,i<k+1->Nw n (gx gs i)):=λhg=>Cw HK.o hg;have Y6:Hd (¬ Nw n (gx gs k)->¬ Js n ⟨is,gs,out⟩):=λhg h=>hg (h.2.2.2 k ai);generalize gx gs k=g at *;clear T6 T5;go_wp2_with fail;refine(Vs g n _ h8 U4 ge).mono ?_;rintro e w2 ⟨af,b,rfl,hb⟩;have hx2:=Aa af hx
      rcases We hb with⟨hg,rfl⟩|⟨hg,rfl⟩
      ·have HO:=Ab (HG1.o hg)
       clear hb hg;go_wp2;go_roundw
       case rel=>exact⟨k+1,qg,qm,HO.o,hx2,bt bc af⟩
       case measure=>simp[intOf];omega
      ·have HO:=Ab (Y6.o hg)
       clear hb hg;go_wp2;go_ret;exact⟨bt bc af,false,rfl,Eh HO.o⟩
     ·have HO:Hd (Js n ⟨is,gs,out⟩):=⟨EV.o,H2.o,by show gs.length<=200;omega,λi hi=>HK.o i (by simp only at hi;omega)⟩
      go_wp2;exact qgk
  ·exact qlg
theorem asc_step{l:L By}{k:X}(h:∀j,1<=j->j<k->Ax (nx l (j-1)) (nx l j)=true)(hk:k=0\/Ax (nx l (k-1)) (nx l k)=true):∀j,1<=j->j<k+1->Ax (nx l (j-1)) (nx l j)=true:=by
 intro j h1 h2
 rcases Nat.lt_or_ge j k with h3|h3
 ·exact h j h1 h3
 ·obtain rfl:j=k:=qg
  rcases hk with hk|hk
  ·omega
  ·exact hk
theorem Qd(n:Int)(ta ra:Option Addr)(tc rc:X)(ts:L By)(rs:L T3)(w:E)(hl:ts.length<=1048576)(M2:rs.length<=1048576)(hn:¬ (1<=n/\n<=8)\/5000<ts.length\/2000<rs.length):Calls prog 49 #[G #[I n,J ta ts.length tc,J ra rs.length rc]] w λe w'=>Bw w w'/\e=H (F false):=by
 have ak:Bw w (w.alloc (O #[I n,J ta ts.length tc,J ra rs.length rc] 35)):=aN _ _
 by_cases h1:1<=n/\n<=8
 ·by_cases h2:5000<ts.length
  ·have d1:decide ((5000:Int)<(ts.length:Int))=true:=qj
   exact qkg
  ·have d1:decide ((5000:Int)<(ts.length:Int))=false:=qj
   have d2:decide ((2000:Int)<(rs.length:Int))=true:=qj;exact qkg
 ·have hn':n<1\/8<n:=qg
  go_enter func49,ntmps49
  go_wp2_with (first|(go_at_call 54;refine(l1Width_no _ _ hn').mono ?_;rintro e w9 ⟨rfl,rfl⟩))
  go_ret;exact⟨ak,rfl⟩
theorem Pi(n:X)(ta ra:Option Addr)(tc rc:X)(ts:L By)(rs:L T3)(w:E)(h1:1<=n)(h8:n<=8)(hl5:ts.length<=5000)(M2:rs.length<=2000)(h:Nv w ta ts ra rs):Calls prog 49 #[G #[I n,J ta ts.length tc,J ra rs.length rc]] w λe w'=>Bw w w'/\∃b,e=H (F b)/\(b=true↔Jd n ts rs):=by
 have ak:Bw w (w.alloc (O #[I n,J ta ts.length tc,J ra rs.length rc] 35)):=aN _ _;have x0:(w.alloc (O #[I n,J ta ts.length tc,J ra rs.length rc] 35)).cell? ⟨w.heap.size,0,N⟩=M (I n):=qo;have x1:(w.alloc (O #[I n,J ta ts.length tc,J ra rs.length rc] 35)).cell? ⟨w.heap.size,1,N⟩=M (J ta ts.length tc):=qo;have x2:(w.alloc (O #[I n,J ta ts.length tc,J ra rs.length rc] 35)).cell? ⟨w.heap.size,2,N⟩=M (J ra rs.length rc):=qo;have HI:=Ab h;obtain⟨ss,ess⟩:=Aj (ts.map (Ap n));have sr:Hd (ss.length=ts.length):=by show ss.length=ts.length;rw[<- ess,List.length_map]
 have re:Hd (∀i,i<ts.length->nx ss i=Ap n (nx ts i)):=λi h=>by rw[<- ess];exact Hj n ts i h
 have HAS:Hd (Hf ss↔Hf (ts.map (Ap n))):=by show Hf ss↔_;rw[ess]
 have d1:decide ((5000:Int)<(ts.length:Int))=false:=qj;have d2:decide ((2000:Int)<(rs.length:Int))=false:=qj;clear h ess;go_enter func49,ntmps49
 go_wp2_with (first|(go_at_call 54;refine(Kv _ _ qg qg).mono ?_;rintro e w9 ⟨rfl,rfl⟩))
 go_loopw [3,4] (λv i wr=>∃(k:X)(bf:By),k<=ts.length/\i=I k/\v=S bf/\Hd (k=0\/bf=nx ss (k-1))/\Hd (∀i,i<k->(nx ts i).size<=2002)/\Hd (∀j,1<=j->j<k->Ax (nx ss (j-1)) (nx ss j)=true)/\wr.cell? ⟨w.heap.size,0,N⟩=M (I n)/\wr.cell? ⟨w.heap.size,1,N⟩=M (J ta ts.length tc)/\wr.cell? ⟨w.heap.size,2,N⟩=M (J ra rs.length rc)/\Bw w wr) (λ_ i _=>ts.length-(intOf i).toNat)
 case atStart=>exact⟨0,⟨#[]⟩,Nat.zero_le _,rfl,rfl,Or.inl rfl,(λi hi=>by omega:∀i,i<0->(nx ts i).size<=2002),(λj h1 h2=>by omega:∀j,1<=j->j<0->Ax (nx ss (j-1)) (nx ss j)=true),x0,x1,x2,ak⟩
 case round=>
  obtain⟨k,bf,hk,rfl,rfl,HBF,HK,HA,y0,y1,y2,bc⟩:=hrel;clear x0 x1 x2 ak;have cq:Bw wr wr.drew:=(Below.refl _ _).drew
  by_cases ai:k<ts.length
  ·obtain⟨b,off,rfl,c1⟩:=(HI.o.st.bl bc) k ai
   replace c1:wr.cell? ⟨b,off+k,N⟩=M (S (nx ts k)):=c1;have ge:=HI.o.xt k;have HX:Hd (nx ss k=Ap n (nx ts k)):=re.o k ai;have fs:(k:Int)<(ts.length:Int):=qg;have jn:(0:Int)<=(k:Int):=qg
   by_cases h3:2002<(nx ts k).size
   ·have HN:Hd (¬ Jd n ts rs):=λh=>by have:=h.1.2.1 k ai;omega
    exact qkd
   ·have fb:Hd (∀i,i<k+1->(nx ts i).size<=2002):=Cw HK.o qg
    generalize nx ts k=x at *;have d3:decide ((2002:Int)<(x.size:Int))=false:=qj;have hx0:x.size<=1048576:=qg;unfold maxLen at ge;obtain⟨q,eq⟩:=Aj (Ap n x);have ly:Hd (∀W:E,Calls prog 27 #[S x,I n] W λe w'=>e=H (S q)/\Bw W w'):=λW=>qhc;(have HQ:Hd (nx ss k=q):=by show nx ss k=q;rw[HX.o,eq]);clear eq;go_wp2_with fail
    go_region_held3 (λw'=>(w'.cell? ⟨w.heap.size,0,N⟩=M (I n)/\w'.cell? ⟨w.heap.size,1,N⟩=M (J (M ⟨b,off,N⟩) ts.length tc)/\w'.cell? ⟨w.heap.size,2,N⟩=M (J ra rs.length rc))/\w'.cell? ⟨b,off+k,N⟩=M (S x))
     (first|assumption|(simp[*];done)|exact⟨⟨Aa af qu,Aa af qu,Aa af qu⟩,Aa af qu⟩)
     (first|(go_at_call 27;refine(ly.o _).mono ?_;rintro e w2 ⟨rfl,af⟩))
    all_goals
     have z0:=Aa af (Aa cq y0);have z1:=Aa af (Aa cq y1);have z2:=Aa af (Aa cq y2);have bg:=bt bc (bt cq af);clear y0 y1 y2 c1
     by_cases cu:k=0
     ·have dk:decide (0<k)=false:=qj
      have HA1:=Ab (asc_step HA.o (Or.inl cu));clear cu;exact qjw
     ·have dk:decide (0<k)=true:=qj
      (have HBE:Hd (nx ss (k-1)=bf):=by rcases HBF.o with h|h;exact absurd h cu;exact h.symm);obtain⟨v,hv⟩:=Aj (Ax bf q);(have HV:Hd (Ax (nx ss (k-1)) (nx ss k)=v):=by show Ax (nx ss (k-1)) (nx ss k)=v;rw[HBE.o,HQ.o];exact hv);unfold Ax at hv;have HK1':=Ab cu;clear cu;cases v
      ·have HN:Hd (¬ Jd n ts rs):=λh=>by
        have h3:=(HAS.o.mpr h.1.2.2) k (zo HK1'.o) (zo sr.o);rw[HV.o]at h3;cases h3
       go_wp2_with fail;go_ret;exact⟨bg,false,rfl,Eh HN.o⟩
      ·have HA1:=Ab (asc_step HA.o (Or.inr HV.o))
       exact qjw
  ·have l7:Hd (Wf n ts):=⟨hl5,λi hi=>HK.o i qg,HAS.o.mp (λj hj1 hj2=>HA.o j hj1 (zo sr.o))⟩
   clear HK HA HBF;go_wp2_with fail
   go_loopw [6] (λi wq=>∃(m:X),m<=rs.length/\i=I m/\Hd (∀i,i<m->Js n (qx rs i))/\wq.cell? ⟨w.heap.size,0,N⟩=M (I n)/\wq.cell? ⟨w.heap.size,2,N⟩=M (J ra rs.length rc)/\Bw w wq) (λi _=>rs.length-(intOf i).toNat)
   case atStart=>exact⟨0,Nat.zero_le _,rfl,(λi hi=>by omega:∀i,i<0->Js n (qx rs i)),y0,y2,bc⟩
   case round=>
    clear y0 y1 y2 bc cq;obtain⟨m,hm,rfl,HK,y0,y2,bc⟩:=hrel
    by_cases hlt2:m<rs.length
    ·have hq:=HI.o.qs.bl bc
     obtain⟨b,off,rfl,ca,cc,la,lc,c1,c2,c3,c4,c5⟩:=hq.rq m hlt2;have og:RcIn _ ca (qx rs m).code la (qx rs m).looks:=⟨c4,c5,(hq.sm.2 m hlt2).1,(hq.sm.2 m hlt2).2,hq.ok.xc m,hq.ok.ng m,hq.ok.sg m⟩;have hou:=hq.ok.so m;have HG1:Hd (Js n (qx rs m)->∀i,i<m+1->Js n (qx rs i)):=λhg=>Cw HK.o hg;have Y6:Hd (¬ Js n (qx rs m)->¬ Jd n ts rs):=λhg h=>hg (h.2.2 m hlt2);clear hq c4 c5;generalize qx rs m=x at *;obtain⟨xc,xl,xo⟩:=x;simp only at *;have fs:(m:Int)<(rs.length:Int):=qg;have jn:(0:Int)<=(m:Int):=qg;have pi:Hd (∀W:E,Bw wr W->Calls prog 75 #[G #[J ca xc.length cc,J la xl.length lc,S xo],I n] W λe w'=>Bw W w'/\∃b,e=H (F b)/\(b=true↔Js n ⟨xc,xl,xo⟩)):=λW hW=>Vr ca la cc lc xc xl xo n W h8 ⟨og.rc.bl hW,og.rg.bl hW,og.lc,og.lg,og.xc,og.ng,og.sg⟩ hou;clear og
     by_cases hx:Js n ⟨xc,xl,xo⟩
     ·have HO:=Ab (HG1.o hx)
      have mz:Hd (∀W:E,Bw wr W->Calls prog 75 #[G #[J ca xc.length cc,J la xl.length lc,S xo],I n] W λe w'=>Bw W w'/\e=H (F true)):=λW hW=>(pi.o W hW).mono (λe w' ⟨h1,b,h2,h3⟩=>⟨h1,by rw[h2];rcases We h3 with⟨hg,rfl⟩|⟨hg,rfl⟩<;>first|rfl|exact absurd hx hg|exact absurd hg hx⟩);clear pi;have cq:Bw wr wr.drew:=(Below.refl _ _).drew;go_wp2_with fail
      go_region_held3 (λw'=>(w'.cell? ⟨w.heap.size,0,N⟩=M (I n)/\w'.cell? ⟨w.heap.size,2,N⟩=M (J (M ⟨b,off,N⟩) rs.length rc))/\(w'.cell? ⟨b,off+m*3,N⟩=M (J ca xc.length cc)/\w'.cell? ⟨b,off+m*3+1,N⟩=M (J la xl.length lc)/\w'.cell? ⟨b,off+m*3+2,N⟩=M (S xo)))
       (first|assumption|(simp[*];done)|exact⟨⟨Aa af qu,Aa af qu⟩,Aa af qu,Aa af qu,Aa af qu⟩)
       (first|(go_at_call 75;refine(mz.o _ cq).mono ?_;rintro e w2 ⟨af,rfl⟩))
      all_goals
       have z0:=Aa af (Aa cq y0);have z2:=Aa af (Aa cq y2);have bg:=bt bc (bt cq af);clear y0 y2 c1 c2 c3;go_wp2_with fail;go_roundw
       case rel=>exact⟨m+1,qg,qm,HO.o,z0,z2,bg⟩
       case measure=>simp[intOf];omega
     ·have HO:=Ab (Y6.o hx)
      have mz:Hd (∀W:E,Bw wr W->Calls prog 75 #[G #[J ca xc.length cc,J la xl.length lc,S xo],I n] W λe w'=>Bw W w'/\e=H (F false)):=λW hW=>(pi.o W hW).mono (λe w' ⟨h1,b,h2,h3⟩=>⟨h1,by rw[h2];rcases We h3 with⟨hg,rfl⟩|⟨hg,rfl⟩<;>first|rfl|exact absurd hx hg|exact absurd hg hx⟩);clear pi;have cq:Bw wr wr.drew:=(Below.refl _ _).drew;go_wp2_with fail
      go_region_held3 (λw'=>(w'.cell? ⟨w.heap.size,0,N⟩=M (I n)/\w'.cell? ⟨w.heap.size,2,N⟩=M (J (M ⟨b,off,N⟩) rs.length rc))/\(w'.cell? ⟨b,off+m*3,N⟩=M (J ca xc.length cc)/\w'.cell? ⟨b,off+m*3+1,N⟩=M (J la xl.length lc)/\w'.cell? ⟨b,off+m*3+2,N⟩=M (S xo)))
       (first|assumption|(simp[*];done)|exact⟨⟨Aa af qu,Aa af qu⟩,Aa af qu,Aa af qu,Aa af qu⟩)
       (first|(go_at_call 75;refine(mz.o _ cq).mono ?_;rintro e w2 ⟨af,rfl⟩))
      all_goals
       have bg:=bt bc (bt cq af);clear y0 y2 c1 c2 c3;go_wp2_with fail;go_ret;exact⟨bg,false,rfl,Eh HO.o⟩
    ·have HO:Hd (Jd n ts rs):=⟨l7.o,M2,λi hi=>HK.o i qg⟩
     go_wp2_with fail;exact qgk
structure SoOk (w:E) (ta:Option Addr) (ts:L By) (ra:Option Addr) (rs:L T3):Prop where
 st:Cu w ta ts
 lt:ts.length<=maxLen
 xt:∀s∈ts,s.size<=maxLen
 rq:Mk w ra rs
 ok:QsOk rs
theorem SoOk.bl{w w':E}{ta ra:Option Addr}{ts:L By}{rs:L T3}(h:SoOk w ta ts ra rs)(hb:Bw w w'):SoOk w' ta ts ra rs:=⟨h.st.bl hb,h.lt,h.xt,h.rq.bl hb,h.ok⟩
theorem Gw(n:Int)(ta ra:Option Addr)(tc rc:X)(ts:L By)(rs:L T3)(w:E)(h:Nv w ta ts ra rs):Calls prog 49 #[G #[I n,J ta ts.length tc,J ra rs.length rc]] w λe w'=>Bw w w'/\∃b,e=H (F b)/\(b=true↔Jc n ts rs):=by
 by_cases hc:(1<=n/\n<=8)/\ts.length<=5000/\rs.length<=2000
 ·obtain⟨m,rfl⟩:=Int.eq_ofNat_of_zero_le (show 0<=n from qg)
  refine(Pi m ta ra tc rc ts rs w qg qg hc.2.1 hc.2.2 h).mono λe w' ⟨h1,b,h2,h3⟩=>⟨h1,b,h2,?_⟩;rw[h3];exact⟨λk=>⟨hc.1.1,hc.1.2,k⟩,λk=>k.2.2⟩
 ·refine(Qd n ta ra tc rc ts rs w h.lt h.qs.sm.1 qg).mono λe w' ⟨h1,h2⟩=>⟨h1,false,h2,Eh (λk=>hc ⟨⟨k.1,k.2.1⟩,k.2.2.1.1,k.2.2.2.1⟩)⟩
end Go.Proofs.YtnflkpmmfpfhlaaGreatDoor
