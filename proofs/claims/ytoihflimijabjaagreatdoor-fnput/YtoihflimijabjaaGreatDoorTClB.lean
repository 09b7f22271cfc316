import Derived.Test.YtoihflimijabjaaGreatDoorTChkA
import Derived.Test.YtoihflimijabjaaGreatDoorTNWork2
namespace Go.Proofs.YtoihflimijabjaaGreatDoor
open _root_.Go.Proofs.Tryz Go.RowKit
open Go renaming World->E
open _root_ renaming List->L,Nat->X
set_option linter.unusedVariables false
set_option maxHeartbeats 8000000
set_option maxRecDepth 100000
set_option linter.unusedSimpArgs false
variable {is:L I3} {s s':St} {ys:L R3} {r:Res} {i j:X} {ss:L S2} {ts:L T2} {ls:L G3}
section
theorem Mt(b:Bool):(De b).size=1:=by cases b<;>rfl
theorem Ij(l:L By)(k:X):(Dg l k).length=l.length-k:=by simp[Dg]
def Bad(o:X)(t:By)(n:X)(l:L By):Prop:=50<(Dg l (Bd o)).length+(El o t n (Ea l) (Om l)).length\/∃x∈El o t n (Ea l) (Om l),2000<x.size
variable (B m:X) (l:L By) (cd:Value) (pl:X) (st lk:Int) (t:By) (n:X) (w:E)
end
section
def Oh(B:X)(w:E)(a:Option Addr)(is:L I3):Prop:=Dl w a is/\∀b off,a=some ⟨b,off,none⟩->b<B
theorem Oh.belowB{B:X}{w w':E}{a:Option Addr}{is:L I3}(h:Oh B w a is)(hb:Below B w w'):Oh B w' a is:=by
 refine⟨λi hi=>?_,h.2⟩
 obtain⟨b,off,ha,h1,h2,h3⟩:=h.1 i hi
 have hl:=h.2 b off ha
 exact⟨b,off,ha,(hb.cell (p:=⟨b,off+i*3,none⟩) hl).trans h1,(hb.cell (p:=⟨b,off+i*3+1,none⟩) hl).trans h2,(hb.cell (p:=⟨b,off+i*3+2,none⟩) hl).trans h3⟩
theorem Lg{is:L I3}(h:Aq is=true){k:X}(hk:k<is.length):∃(o:X)(t:By)(n:X),ix is k=⟨o,t,n⟩/\1<=o/\o<=15/\t.size<=2000/\n<=2000/\((o=10\/o=11)->n<=200):=by
 simp only[Aq,Bool.and_eq_true,decide_eq_true_eq]at h
 have hi:=h.2 k hk
 generalize ix is k=i at hi ⊢
 obtain⟨op,t,n⟩:=i
 simp only[Ev,Bool.and_eq_true,decide_eq_true_eq]at hi
 obtain⟨⟨⟨⟨h1,h2⟩,h3⟩,h4⟩,h5⟩:=hi
 obtain⟨o,rfl⟩:=Int.eq_ofNat_of_zero_le (show 0<=op from qg)
 obtain⟨n',rfl⟩:=Int.eq_ofNat_of_zero_le h4
 have hm:Ie (Dv o)<=2000:=by unfold Ie;split<;>omega
 have hn:Mg (Dv o)<=2000:=by unfold Mg;split<;>(try split)<;>omega
 refine⟨o,t,n',rfl,qg,qg,qg,qg,λho=>?_⟩
 have:Mg (Dv o)=200:=by rcases ho with rfl|rfl<;>rfl
 omega
theorem Eo{is:L I3}(h:Aq is=true):1<=is.length/\is.length<=200:=by
 simp only[Aq,Bool.and_eq_true,decide_eq_true_eq]at h
 omega
theorem takes_eq(o:X)(h:o<=15):Kd.getD o 0=((Bd o:X):Int):=by
 exact qik
theorem Ky{is:L I3}{s:St}(h:¬ s.pl<is.length):Dn is s=.over 2 (Gn s.pl) s.steps:=by unfold Dn;rw[if_pos qg]
theorem Js{is:L I3}{s:St}(h:s.pl<is.length)(h2:s.steps=2000):Dn is s=.over 3 ⟨#[]⟩ s.steps:=by unfold Dn;rw[if_neg qg,if_pos h2]
theorem Ht{is:L I3}{s:St}{o:X}{t:By}{n:X}(h:s.pl<is.length)(h2:s.steps≠2000)(e:ix is s.pl=⟨o,t,n⟩):Dn is s=Ki ⟨o,t,n⟩ s:=by unfold Dn;rw[if_neg qg,if_neg h2,e]
section
variable {o:X} {t:By} {n:X} {s:St}
theorem Nl(h:s.stack.length<Bd o):Ki ⟨o,t,n⟩ s=.over 2 (Gn s.pl) (s.steps+1):=by
 simp only[Ki,Int.toNat_natCast];rw[if_pos h]
theorem Nm(h:¬ s.stack.length<Bd o)(ho:o=15):Ki ⟨o,t,n⟩ s=.over 0 (Ea s.stack) (s.steps+1):=by
 simp only[Ki,Int.toNat_natCast];rw[if_neg h,if_pos ho]
theorem Lk(h:¬ s.stack.length<Bd o)(ho:o=14):Ki ⟨o,t,n⟩ s=.over 1 (Ea s.stack) (s.steps+1):=by
 simp only[Ki,Int.toNat_natCast];rw[if_neg h,if_neg qg,if_pos ho]
theorem Nn(h:¬ s.stack.length<Bd o)(ho:o=12\/o=13)(hn:¬ Ay (Ea s.stack)):Ki ⟨o,t,n⟩ s=.over 2 (Gn s.pl) (s.steps+1):=by
 simp only[Ki,Int.toNat_natCast];rw[if_neg h,if_neg qg,if_neg qg,if_pos ho,if_pos hn]
theorem Jx(h:¬ s.stack.length<Bd o)(ho:o=12\/o=13)(hn:Ay (Ea s.stack))(hl:s.looks=200):Ki ⟨o,t,n⟩ s=.over 3 ⟨#[]⟩ (s.steps+1):=by
 simp only[Ki,Int.toNat_natCast];rw[if_neg h,if_neg qg,if_neg qg,if_pos ho,if_neg (λk=>k hn),if_pos hl]
theorem Lj(h:¬ s.stack.length<Bd o)(ho:o=12\/o=13)(hn:Ay (Ea s.stack))(hl:s.looks≠200):Ki ⟨o,t,n⟩ s=.look (o == 12) (Ea s.stack) ⟨s.pl,Dg s.stack 1,s.steps+1,s.looks+1⟩:=by
 have ht:Bd o=1:=by rcases ho with rfl|rfl<;>rfl
 simp only[Ki,Int.toNat_natCast];rw[if_neg h,if_neg qg,if_neg qg,if_pos ho,if_neg (λk=>k hn),if_neg hl,ht]
theorem Ir(h:¬ s.stack.length<Bd o)(ho:o<=11)(hb:Bad o t n s.stack):Ki ⟨o,t,n⟩ s=.over 2 (Gn s.pl) (s.steps+1):=by
 simp only[Ki,Int.toNat_natCast];unfold Bad at hb;rw[if_neg h,if_neg qg,if_neg qg,if_neg qg,if_pos hb]
theorem Rw(h:¬ s.stack.length<Bd o)(ho:o<=11)(hb:¬ Bad o t n s.stack):Ki ⟨o,t,n⟩ s=.go ⟨Iv o n s.pl (Ea s.stack),Dg s.stack (Bd o)++El o t n (Ea s.stack) (Om s.stack),s.steps+1,s.looks⟩:=by
 simp only[Ki,Int.toNat_natCast];unfold Bad at hb;rw[if_neg h,if_neg qg,if_neg qg,if_neg qg,if_neg hb]
end
theorem go_ok{is:L I3}{s:St}{o:X}{t:By}{n:X}(hs:Gf is s)(hl:is.length<=200)(hp:s.pl<is.length)(du:s.steps≠2000)(hn:(o=10\/o=11)->n<=200)(hb:¬ Bad o t n s.stack):Gf is ⟨Iv o n s.pl (Ea s.stack),Dg s.stack (Bd o)++El o t n (Ea s.stack) (Om s.stack),s.steps+1,s.looks⟩:=by
 unfold Bad at hb
 have h1:=hs.steps
 refine⟨?_,?_,?_,?_,hs.looks⟩
 ·show Iv o n s.pl (Ea s.stack)<=200;unfold Iv;split
  ·exact hn qg
  ·split
   ·exact hn qg
   ·omega
 ·show(Dg s.stack (Bd o)++El o t n (Ea s.stack) (Om s.stack)).length<=50;rw[List.length_append];have:¬ 50<(Dg s.stack (Bd o)).length+(El o t n (Ea s.stack) (Om s.stack)).length:=λh=>hb (Or.inl h);omega
 ·intro x hx
  rcases List.mem_append.mp hx with hx|hx
  ·exact hs.size x (List.mem_of_mem_take hx)
  ·rcases Nat.lt_or_ge 2000 x.size with h|h
   ·exact absurd (Or.inr ⟨x,hx,h⟩) hb
   ·exact h
 ·show s.steps+1<=2000;omega
theorem look_ok{is:L I3}{s:St}(hs:Gf is s)(du:s.steps≠2000)(hl:s.looks≠200):Gf is ⟨s.pl,Dg s.stack 1,s.steps+1,s.looks+1⟩:=by
 have h1:=hs.steps
 have h2:=hs.looks
 have h3:=hs.len
 refine⟨hs.pl,?_,λx hx=>hs.size x (List.mem_of_mem_take hx),?_,?_⟩
 ·show(Dg s.stack 1).length<=50;rw[Ij];omega
 ·show s.steps+1<=2000;omega
 ·show s.looks+1<=200;omega
end
theorem Ph(hs:Gf is s)(hl:is.length<=200)(hp:s.pl<is.length)(K7:s.stack.length<50){x:By}(hx:x.size<=2000):Gf is ⟨s.pl+1,s.stack++[x],s.steps,s.looks⟩:=by
 refine⟨?_,?_,?_,hs.steps,hs.looks⟩
 ·show s.pl+1<=200;omega
 ·show(s.stack++[x]).length<=50;rw[List.length_append,List.length_singleton];omega
 ·intro z hz
  rcases List.mem_append.mp hz with hz|hz
  ·exact hs.size z hz
  ·obtain rfl:z=x:=by simpa using hz
   exact hx
theorem Rb(hv:Aq is=true)(hs:Gf is s)(h:Dn is s=.go s'):Gf is s'/\s'.looks=s.looks:=by
 have hl:=Eo hv
 by_cases hp:s.pl<is.length
 ·by_cases h2:s.steps=2000
  ·rw[Js hp h2]at h;cases h
  ·obtain⟨o,t,n,e,h3,h4,h5,h6,h7⟩:=Lg hv hp;rw[Ht hp h2 e]at h
   by_cases hf:s.stack.length<Bd o
   ·rw[Nl hf]at h;cases h
   ·rcases(show o<=11\/(o=12\/o=13)\/o=14\/o=15 from qg)with ho|ho|ho|ho
    ·by_cases hb:Bad o t n s.stack
     ·rw[Ir hf ho hb]at h;cases h
     ·rw[Rw hf ho hb]at h;cases h;exact⟨go_ok hs hl.2 hp h2 h7 hb,rfl⟩
    ·exact qjd
    ·rw[Lk hf ho]at h;cases h
    ·rw[Nm hf ho]at h;cases h
 ·rw[Ky hp]at h;cases h
def Vu:St:=⟨0,[],0,0⟩
theorem Zg(is:L I3):Gf is Vu:=⟨qbx,qbx,qbx,qbx,qbx⟩
def resT:Res->Value
 | .over c t n=>Pl true c t false ⟨#[]⟩ n
 | .wait ask nm n=>Pl false 0 ⟨#[]⟩ ask nm n
theorem bN{w a b:E}(h:Bw w a)(k:Bw a b):Bw w b:=h.trans (k.mono h.size)
theorem rx_mid(ys zs:L R3)(y:R3):rx (ys++[y]++zs) ys.length=y:=by
 unfold rx
 rw[gG,List.append_assoc,List.getElem?_append_right (Nat.le_refl _)]
 simp
theorem Wc(hs:Gf is s)(h:1<=s.stack.length):(Ea s.stack).size<=2000:=by
 unfold Ea
 rw[gG,gQ qg]
 exact hs.size _ (List.getElem_mem _)
theorem decB_size{n:X}(h:n<=200):(Gn n).size<=2000:=by
 have:=En 2 n qg
 show(Lib.decDigits n).length<=2000
 omega
theorem Zb{c:Int}{t:By}{n:X}(hv:Aq is=true)(hs:Gf is s)(h:Dn is s=.over c t n):t.size<=2000/\0<=c/\c<=5:=by
 have hd:=decB_size hs.pl
 by_cases hp:s.pl<is.length
 ·by_cases h2:s.steps=2000
  ·rw[Js hp h2]at h;cases h;exact⟨qh,qh,qh⟩
  ·obtain⟨o,t',n',e,h3,h4,h5,h6,h7⟩:=Lg hv hp;rw[Ht hp h2 e]at h
   by_cases hf:s.stack.length<Bd o
   ·rw[Nl hf]at h;cases h;exact⟨hd,qh,qh⟩
   ·rcases(show o<=11\/(o=12\/o=13)\/o=14\/o=15 from qg)with ho|ho|ho|ho
    ·by_cases hb:Bad o t' n' s.stack
     ·rw[Ir hf ho hb]at h;cases h;exact⟨hd,qh,qh⟩
     ·rw[Rw hf ho hb]at h;cases h
    ·by_cases hn:Ay (Ea s.stack)
     ·by_cases hk:s.looks=200
      ·rw[Jx hf ho hn hk]at h;cases h;exact⟨qh,qh,qh⟩
      ·rw[Lj hf ho hn hk]at h;cases h
     ·rw[Nn hf ho hn]at h;cases h;exact⟨hd,qh,qh⟩
    ·(have h1:1<=s.stack.length:=by rw[ho]at hf;have:Bd 14=1:=rfl;omega);rw[Lk hf ho]at h;cases h;exact⟨Wc hs h1,qh,qh⟩
    ·(have h1:1<=s.stack.length:=by rw[ho]at hf;have:Bd 15=1:=rfl;omega);rw[Nm hf ho]at h;cases h;exact⟨Wc hs h1,qh,qh⟩
 ·rw[Ky hp]at h;cases h;exact⟨hd,qh,qh⟩
theorem Ii{ask:Bool}{nm:By}(hv:Aq is=true)(hs:Gf is s)(h:Dn is s=.look ask nm s'):Gf is s'/\Ay nm:=by
 by_cases hp:s.pl<is.length
 ·by_cases h2:s.steps=2000
  ·rw[Js hp h2]at h;cases h
  ·obtain⟨o,t',n',e,h3,h4,h5,h6,h7⟩:=Lg hv hp;rw[Ht hp h2 e]at h
   by_cases hf:s.stack.length<Bd o
   ·rw[Nl hf]at h;cases h
   ·rcases(show o<=11\/(o=12\/o=13)\/o=14\/o=15 from qg)with ho|ho|ho|ho
    ·by_cases hb:Bad o t' n' s.stack
     ·rw[Ir hf ho hb]at h;cases h
     ·rw[Rw hf ho hb]at h;cases h
    ·by_cases hn:Ay (Ea s.stack)
     ·by_cases hk:s.looks=200
      ·rw[Jx hf ho hn hk]at h;cases h
      ·rw[Lj hf ho hn hk]at h;cases h;exact⟨look_ok hs h2 hk,hn⟩
     ·rw[Nn hf ho hn]at h;cases h
    ·rw[Lk hf ho]at h;cases h
    ·rw[Nm hf ho]at h;cases h
 ·rw[Ky hp]at h;cases h
theorem Cu.size(hv:Aq is=true)(mz:∀i,i<ys.length->(rx ys i).text.size<=2000)(h:Cu is ys s r):Gf is s->∀ {c t n},r=.over c t n->t.size<=2000/\0<=c/\c<=5:=by
 have hl:=(Eo hv).2
 induction h with
 | over h1=>intro hs c t n e;cases e;exact Zb hv hs h1
 | go h1 _ ih=>intro hs c t n e;exact ih (Rb hv hs h1).1 e
 | wait h1 _=>intro hs c t n e;cases e
 | ans h1 k1 a1 _ ih=>
  intro hs c t n e;obtain⟨q1,q2,q3,q4,q5,q6,q7,q8⟩:=Kf h1;have Z4:=(Ii hv hs h1).1
  rename_i s s' s'' _ _
  have K7:s'.stack.length<50:=by rw[q7,Ij];have:=hs.len;omega
  refine ih ?_ e;unfold Ql at a1
  split at a1
  ·cases a1;exact Ph Z4 hl qg K7 (by rw[Mt];omega)
  ·split at a1
   ·cases a1
   ·split at a1
    ·cases a1
    ·cases a1;exact Ph Z4 hl qg K7 (mz _ k1)
 | «end» h1 k1 a1=>
  intro hs c t n e;cases e;have iw:=(Ii hv hs h1).2;have lj:=iw.2.1;unfold Ql at a1
  split at a1
  ·cases a1
  ·split at a1
   ·cases a1;exact⟨qg,qh,qh⟩
   ·split at a1
    ·cases a1;exact⟨qg,qh,qh⟩
    ·cases a1
structure Md where
 c:Int
 t:By
 ls:L G3
abbrev Ms:=L (ByteArray×Option Md)
open Classical in
noncomputable def lk (ms:Ms) (nm:By):Option (Option Md):=(ms.find? λe=>decide (e.1=nm)).map (·.2)
def Co(c:Int)(t:By):By:=⟨#[UInt8.ofNat (48+c.toNat)]⟩++(⟨#[58]⟩:By)++t
def Ye(ss:L S2)(ts:L T2)(nm:By):Prop:=Hs (Av ss) nm\/Hs (Au ts) nm
open Classical in
noncomputable def Du (ss:L S2) (ts:L T2) (nm:By):Bool:=decide (Ye ss ts nm)
noncomputable def Wp (ss:L S2) (ts:L T2) (nm:By) (d:Md):R3:=if Du ss ts nm then ⟨true,d.c,d.t⟩ else ⟨false,0,⟨#[]⟩⟩
theorem asc_inj{l:L By}(h:Fg l)(hi:i<l.length)(hj:j<l.length)(e:nx l i=nx l j):i=j:=by
 rcases Nat.lt_trichotomy i j with h1|h1|h1
 ·have:=h.pair h1 hj;rw[e,Em]at this;cases this
 ·exact h1
 ·have:=h.pair h1 hi;rw[e,Em]at this;cases this
theorem src_inj(h:Fg (Av ss))(hi:i<ss.length)(hj:j<ss.length)(e:(sx ss i).name=(sx ss j).name):i=j:=asc_inj h (by rw[Bo];exact hi) (by rw[Bo];exact hj) (by rw[Dk,Dk];exact e)
theorem Qn(h:Fg (Au ts))(hi:i<ts.length)(hj:j<ts.length)(e:(tx ts i).name=(tx ts j).name):i=j:=asc_inj h (by rw[Cb];exact hi) (by rw[Cb];exact hj) (by rw[Dy,Dy];exact e)
theorem Gm(hi:i<ss.length):Hs (Av ss) (sx ss i).name:=⟨i,by rw[Bo];exact hi,Dk ss i⟩
theorem Il(hi:i<ts.length):Hs (Au ts) (tx ts i).name:=⟨i,by rw[Cb];exact hi,Dy ts i⟩
structure MdOk (ss:L S2) (ts:L T2) (nm:By) (d:Md):Prop where
 c0:0<=d.c
 c5:d.c<=5
 t2:d.t.size<=2000
 ls:d.ls.length<=200
 no:¬ Ye ss ts nm->d=⟨4,nm,[]⟩
structure SpV (ss:L S2) (ts:L T2):Prop where
 ascS:Fg (Av ss)
 ascT:Fg (Au ts)
 dis:∀nm,Hs (Av ss) nm->¬ Hs (Au ts) nm
 txt:∀i,i<ss.length->(sx ss i).text.size<=2000
 pr:∀i,i<ts.length->Aq (tx ts i).code=true
 nm:∀i,i<ts.length->Ay (tx ts i).name
structure Ig (is:L I3) (ys:L R3) (ls:L G3):Prop where
 pr:Aq is=true
 ok:∀i,i<ys.length->Jh (rx ys i)=true
 eq:ls.length=ys.length
theorem Cu.looks(hv:Aq is=true)(mz:∀i,i<ys.length->(rx ys i).text.size<=2000)(h:Cu is ys s r):Gf is s->s.looks<=ys.length->∀ {ask nm n},r=.wait ask nm n->ys.length<200/\Ay nm:=by
 have hl:=(Eo hv).2
 induction h with
 | over h1=>intro _ _ c t n e;cases e
 | go h1 _ ih=>intro hs hk c t n e;obtain⟨k1,k2⟩:=Rb hv hs h1;exact ih k1 qg e
 | wait h1 k1=>
  intro hs hk c t n e;cases e;obtain⟨q1,q2,q3,q4,q5,q6,q7,q8⟩:=Kf h1;have:=hs.looks;exact⟨qg,(Ii hv hs h1).2⟩
 | ans h1 k1 a1 _ ih=>
  intro hs hk c t n e;obtain⟨q1,q2,q3,q4,q5,q6,q7,q8⟩:=Kf h1;have Z4:=(Ii hv hs h1).1
  rename_i s s' s'' _ _
  have K7:s'.stack.length<50:=by rw[q7,Ij];have:=hs.len;omega
  have G5:Gf is s''/\s''.looks=s'.looks:=by
   unfold Ql at a1
   split at a1
   ·cases a1;exact⟨Ph Z4 hl qg K7 (by rw[Mt];omega),rfl⟩
   ·split at a1
    ·cases a1
    ·split at a1
     ·cases a1
     ·cases a1;exact⟨Ph Z4 hl qg K7 (mz _ k1),rfl⟩
  exact ih G5.1 qg e
 | «end» h1 k1 a1=>intro _ _ c t n e;cases e
theorem Ri(h:∀i,i<ys.length->Jh (rx ys i)=true):∀i,i<ys.length->(rx ys i).text.size<=2000:=λi hi=>by
 have:=h i hi
 simp only[Jh,Bool.and_eq_true,decide_eq_true_eq]at this
 exact this.1.1
theorem rx_snoc{y:R3}(h:∀i,i<ys.length->Jh (rx ys i)=true)(hy:Jh y=true):∀i,i<(ys++[y]).length->Jh (rx (ys++[y]) i)=true:=by
 intro i hi
 rw[List.length_append,List.length_singleton]at hi
 rcases Nat.lt_or_ge i ys.length with h1|h1
 ·have e:rx (ys++[y]) i=rx ys i:=by
   unfold rx;rw[gG,gG,List.getElem?_append_left h1]
  rw[e];exact h i h1
 ·obtain rfl:i=ys.length:=qg;have:=rx_mid ys [] y;rw[List.append_nil]at this;rw[this];exact hy
theorem Ig.has(h:Ig is ys ls)(b:Bool)(g:G3):Ig is (ys++[⟨b,0,⟨#[]⟩⟩]) (ls++[g]):=⟨h.pr,rx_snoc h.ok (by cases b<;>decide),by simp[h.eq]⟩
theorem repP_ok{nm:By}{d:Md}(h:MdOk ss ts nm d):Jh (Wp ss ts nm d)=true:=by
 unfold Wp
 split
 ·have h1:=h.c0;have h2:=h.c5;have h3:=h.t2;simp only[Jh,Bool.and_eq_true,decide_eq_true_eq];omega
 ·decide
theorem Ig.asked(h:Ig is ys ls){nm:By}{d:Md}(hd:MdOk ss ts nm d)(g:G3):Ig is (ys++[Wp ss ts nm d]) (ls++[g]):=⟨h.pr,rx_snoc h.ok (repP_ok hd),by simp[h.eq]⟩
theorem Ig.over(h:Ig is ys ls){c:Int}{t:By}{n:X}(hf:Cu is ys Vu (.over c t n)):t.size<=2000/\0<=c/\c<=5:=Cu.size h.pr (Ri h.ok) hf (Zg is) rfl
theorem Ig.wait(h:Ig is ys ls){ask:Bool}{nm:By}{n:X}(hf:Cu is ys Vu (.wait ask nm n)):ys.length<200/\Ay nm:=Cu.looks h.pr (Ri h.ok) hf (Zg is) qbx rfl
end Go.Proofs.YtoihflimijabjaaGreatDoor
