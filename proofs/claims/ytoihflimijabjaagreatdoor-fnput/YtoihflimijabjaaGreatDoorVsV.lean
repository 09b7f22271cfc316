import Derived.Test.YtoihflimijabjaaGreatDoorTChkS
import Derived.Test.YtoihflimijabjaaGreatDoorVsP
namespace Go.Proofs.YtoihflimijabjaaGreatDoor
open Go renaming World->E
open _root_ renaming List->L,Nat->X
set_option maxHeartbeats 8000000
set_option maxRecDepth 100000
open _root_.Go.Proofs.Tryz Go.RowKit
set_option linter.unusedVariables false
set_option linter.unusedSimpArgs false
variable {n g tl rl:X} {ts:L By} {A:By} {ta ra:Option Addr} {sv:Value} {w':E}
theorem Tp{t:By}{k:X}(ha:Fg (ts.map (Ap n)))(h1:∀j,j<k->Aw (Ap n (nx ts j)) t=true)(h2:k<ts.length->Aw (Ap n (nx ts k)) t=false)(hk:k<=ts.length)(hh:Hs (ts.map (Ap n)) t):k<ts.length/\Ap n (nx ts k)=t:=by
 have hs:∀i,i<ts.length->nx (ts.map (Ap n)) i=Ap n (nx ts i):=λi h=>Gj n ts i h;have hl:(ts.map (Ap n)).length=ts.length:=List.length_map _
 have:=Qao (i:=k) ha (λj hj=>by rw[hs j qg];exact h1 j hj) (λj hj hjl=>by
  have hk':k<ts.length:=qg;exact Vn ha (m:=k) (by rw[hs k hk'];exact h2 hk') j hj hjl) hh
 exact⟨qg,by rw[<- hs k qg];exact this.2⟩
def rrB(s:By):Prop:=∃h:2<=s.size,s.size<=2002/\48<=(s[0].toNat:Int)/\(s[0].toNat:Int)<=53/\(s[1].toNat:Int)=58
def resA(c:Int)(t:By):Value:=.agg #[I c,.string t,nS]
def resV(c:Int)(t:By)(b:Bool):Value:=.tuple #[resA c t,.bool b]
theorem parts_no{s:By}(h:¬ rrB s):s.size<2\/∃h:2<=s.size,2002<s.size\/(s[0].toNat:Int)<48\/53<(s[0].toNat:Int)\/(s[1].toNat:Int)≠58:=by
 by_cases h1:s.size<2
 ·exact .inl h1
 ·refine .inr ⟨qg,?_⟩
  have h2:2<=s.size:=qg;have:¬ (s.size<=2002/\48<=(s[0].toNat:Int)/\(s[0].toNat:Int)<=53/\(s[1].toNat:Int)=58):=λk=>h ⟨h2,k⟩;omega
def Got(n:X)(ts:L By)(t:By):Prop:=∃i,i<ts.length/\Ap n (nx ts i)=t
open Classical in
noncomputable def Nu (n:X) (ts:L By) (t:By):By:=if h:Got n ts t then nx ts h.choose else ⟨#[]⟩
theorem getA_of{t:By}{ok:Bool}(ha:Fg (ts.map (Ap n)))(h:Dt n ts t A ok):A=Nu n ts t/\(ok=true↔Got n ts t):=by
 by_cases hg:Got n ts t
 ·have k:Dt n ts t (Nu n ts t) true:=Or.inl ⟨rfl,hg.choose,hg.choose_spec.1,hg.choose_spec.2,by unfold Nu;rw[dif_pos hg]⟩
  obtain⟨e1,e2⟩:=Dt.unique ha k h;exact⟨e1,by rw[e2];simp[hg]⟩
 ·have k:Dt n ts t (Nu n ts t) false:=Or.inr ⟨rfl,by unfold Nu;rw[dif_neg hg],λ⟨i,hi,e⟩=>hg ⟨i,by rw[List.length_map]at hi;exact hi,by rw[<- Gj n ts i (by rw[List.length_map]at hi;exact hi)];exact e⟩⟩
  obtain⟨e1,e2⟩:=Dt.unique ha k h;exact⟨e1,by rw[e2];simp[hg]⟩
theorem getA_none{t:By}(h:¬ Got n ts t):Nu n ts t=⟨#[]⟩:=by unfold Nu;rw[dif_neg h]
theorem getA_size{t:By}(hs:∀i,i<ts.length->(nx ts i).size<=2002):(Nu n ts t).size<=2002:=by
 unfold Nu;split
 ·rename_i h;exact hs _ h.choose_spec.1
 ·decide
def rdC(A:By):Int:=if h:0<A.size then (A[0].toNat:Int)-48 else 0
def rdT(A:By):By:=A.extract 2 A.size
theorem rdC_eq(h:0<A.size):(A[0].toNat:Int)-48=rdC A:=by unfold rdC;rw[dif_pos h]
theorem rr_empty:¬ rrB (⟨#[]⟩:By):=λ⟨h,_⟩=>absurd h qh
theorem Zh(h:rrB A):0<A.size:=by obtain⟨h,_⟩:=h;omega
theorem rr_code(h:rrB A):0<=rdC A/\rdC A<=5:=by
 rw[<- rdC_eq (Zh h)];obtain⟨h1,h2,h3,h4,h5⟩:=h;omega
theorem rr_text(h:rrB A):(rdT A).size<=2000:=by
 obtain⟨h1,h2,h3,h4,h5⟩:=h;unfold rdT;rw[ByteArray.size_extract];omega
open Go.RowKit
set_option linter.unusedVariables false
open Go.RowKit
set_option linter.unusedVariables false
open Go.RowKit
set_option linter.unusedVariables false
theorem Fc{c:Int}{t:By}(ht:t.size<=2000):(Co c t).size<=2002:=by
 unfold Co;rw[ByteArray.size_append,ByteArray.size_append];show 1+1+t.size<=2002;omega
open Go.RowKit
set_option linter.unusedVariables false
theorem Ee.lt{w:E}{n:Int}{tc rc:X}(h:Ee w g n ta ra tl tc rl rc sv):g<w.heap.size:=by
 unfold Ee at h
 rcases Nat.lt_or_ge g w.heap.size with h'|h'
 ·exact h'
 ·rw[Array.getElem?_eq_none h']at h;cases h
theorem Ee.bl{w:E}{n:Int}{tc rc:X}(h:Ee w g n ta ra tl tc rl rc sv)(hb:Bw w w'):Ee w' g n ta ra tl tc rl rc sv:=by
 have:=h.lt;unfold Ee at h ⊢;rw[hb.block _ this];exact h
open Go.RowKit
set_option linter.unusedVariables false
open Go.RowKit
set_option linter.unusedVariables false
open Go.RowKit
set_option linter.unusedVariables false
open Go.RowKit
set_option linter.unusedVariables false
open Go.RowKit
set_option linter.unusedVariables false
open Go.RowKit
set_option linter.unusedVariables false
theorem Tg.bl{w:E}{a la:Option Addr}{is:L I3}{gs:L G3}(h:Tg w a is la gs)(hb:Bw w w'):Tg w' a is la gs:=⟨h.rc.bl hb,h.rg.bl hb,h.lc,h.lg,h.xc,h.ng,h.sg⟩
end Go.Proofs.YtoihflimijabjaaGreatDoor
