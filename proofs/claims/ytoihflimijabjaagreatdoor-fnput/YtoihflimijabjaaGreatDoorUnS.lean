import Derived.Test.YtoihflimijabjaaGreatDoorUnPT
namespace Go.Proofs.YtoihflimijabjaaGreatDoor
open _root_.Go.Proofs.Tryz Go.RowKit Go.Deep
open Go renaming World->E
open _root_ renaming List->L
set_option linter.unusedVariables false
set_option linter.unusedSimpArgs false
set_option maxRecDepth 100000
set_option maxHeartbeats 16000000
variable {x:S2} {r:Nat} {ss:L S2} {sa ta:Option Addr} {ts:L T2}
theorem mem_insS{l:L S2}{s:S2}(h:x∈Ll l s r):x=s\/x∈l:=by
 unfold Ll at h
 exact qjc
theorem mem_insT{l:L T2}{s x:T2}(h:x∈Vm l s r):x=s\/x∈l:=by
 unfold Vm at h
 exact qjc
theorem Ub{t:By}(h:x∈Bl t ss):x∈ss/\x.name≠t:=by
 unfold Bl at h
 have:=List.mem_filter.1 h
 exact⟨this.1,by simpa using this.2⟩
theorem Ua{t:By}{ss:L T2}{x:T2}(h:x∈Bj t ss):x∈ss/\x.name≠t:=by
 unfold Bj at h
 have:=List.mem_filter.1 h
 exact⟨this.1,by simpa using this.2⟩
variable {w:E} {sa ta:Option Addr} {ss:L S2} {ts:L T2} {t x:By} {is:L I3}
structure Szd (ss:L S2) (ts:L T2):Prop where
 s:∀x∈ss,x.name.size<=maxLen/\x.text.size<=maxLen
 t:∀a∈ts,a.name.size<=maxLen/\a.code.length<=maxLen/\∀x∈a.code,x.text.size<=maxLen
theorem ix_size{is:L I3}{m:Nat}(h:∀x∈is,x.text.size<=m)(j:Nat):(ix is j).text.size<=m:=by
 rcases Nat.lt_or_ge j is.length with q|q
 ·have e:ix is j=is[j]:=qce;rw[e];exact h _ (List.getElem_mem _)
 ·have e:ix is j=Go.Proofs.YtoihflimijabjaaGreatDoor.i0:=qce;rw[e];exact Nat.zero_le _
theorem Szd.ok{w:E}(h:Szd ss ts)(hs:Hi ss ts)(r1:Hz w sa ss)(r2:Jq w ta ts):Ku w sa ss ta ts:=by
 have h1:∀i,(sx ss i).name.size<=maxLen/\(sx ss i).text.size<=maxLen:=λi=>by
  rcases Nat.lt_or_ge i ss.length with q|q
  ·exact h.s _ (Uo q)
  ·have e:sx ss i=⟨ByteArray.empty,ByteArray.empty⟩:=by simp[sx,gG,q]
   rw[e];exact⟨Nat.zero_le _,Nat.zero_le _⟩
 have h2:∀i,(tx ts i).name.size<=maxLen/\(tx ts i).code.length<=maxLen/\∀x∈(tx ts i).code,x.text.size<=maxLen:=λi=>by
  rcases Nat.lt_or_ge i ts.length with q|q
  ·rw[Mk q];exact h.t _ (List.getElem_mem _)
  ·have e:tx ts i=⟨ByteArray.empty,[]⟩:=by simp[tx,gG,q]
   rw[e];exact⟨Nat.zero_le _,Nat.zero_le _,λx hx=>qbl⟩
 exact⟨r1,r2,by have:=hs.ls;unfold maxLen;omega,by have:=hs.lt;unfold maxLen;omega,λi=>(h1 i).1,λi=>(h1 i).2,λi=>(h2 i).1,λi=>(h2 i).2.1,λi j=>ix_size (h2 i).2.2 j⟩
theorem Szd.nil:Szd [] []:=⟨λx hx=>qbl,λx hx=>qbl⟩
theorem Szd.flt(h:Szd ss ts)(t:By):Szd (Bl t ss) (Bj t ts):=⟨λx hx=>h.s x (Ub hx).1,λx hx=>h.t x (Ua hx).1⟩
structure Spc (w:E) (sa:Option Addr) (ss:L S2) (ta:Option Addr) (ts:L T2):Prop where
 z:Szd ss ts
 m:Hi ss ts
 r1:Hz w sa ss
 r2:Jq w ta ts
theorem Spc.bl{w w':E}(h:Spc w sa ss ta ts)(hb:Bw w w'):Spc w' sa ss ta ts:=⟨h.z,h.m,h.r1.bl hb,h.r2.bl hb⟩
theorem Spc.ok{w:E}(h:Spc w sa ss ta ts):Ku w sa ss ta ts:=h.z.ok h.m h.r1 h.r2
def Two(w:E)(ss:L S2)(ts:L T2)(c:Int)(e:Ending)(w':E):Prop:=Bw w w'/\∃a1 p1 a2 p2,e=.returned (.tuple #[.agg #[.slice a1 ss.length p1,.slice a2 ts.length p2],I c])/\Spc w' a1 ss a2 ts
end Go.Proofs.YtoihflimijabjaaGreatDoor
