import Derived.Test.YtoihflimijabjaaGreatDoorVsC
namespace Go.Proofs.YtoihflimijabjaaGreatDoor
open Option renaming none->N
open Go renaming World->E
open _root_ renaming List->L
set_option maxHeartbeats 8000000
set_option maxRecDepth 100000
open _root_.Go.Proofs.Tryz Go.RowKit Go.Deep
set_option linter.unusedVariables false
set_option linter.unusedSimpArgs false
structure EnvS (W0:E) (sa ta:Option Addr) (ss:L S2) (ts:L T2):Prop where
 rs:Hz W0 sa ss
 rt:Jq W0 ta ts
 v:SpV ss ts
 l1:ss.length<=200
 l2:ts.length<=200
 xc:∀i j,(ix (tx ts i).code j).text.size<=9223372036854775807
theorem Da{w:E}{b b':Nat}{o:Obj}(h:w.heap[b']?=some o)(aq:b'≠b)(v0 v1 v2:Value):(((w.setCell ⟨b,0,N⟩ v0).setCell ⟨b,1,N⟩ v1).setCell ⟨b,2,N⟩ v2).heap[b']?=some o:=by
 rw[hC _ ⟨b,2,N⟩ _ b' aq,hC _ ⟨b,1,N⟩ _ b' aq,hC _ ⟨b,0,N⟩ _ b' aq]
 exact h
section
open Go.Deep
end
section
open Go.Deep
end
section
open Go.Deep
end
section
open Go.Deep
theorem Qav{w:E}{sa ta:Option Addr}{ss:L S2}{ts:L T2}(h:Ku w sa ss ta ts)(hc:Gp ss ts=0):EnvS w sa ta ss ts:=by
 unfold Gp at hc
 split at hc
 ·omega
 ·rename_i h1
  split at hc
  ·omega
  ·rename_i h2
   split at hc
   ·omega
   ·rename_i h3
    split at hc
    ·omega
    ·rename_i h4
     split at hc
     ·omega
     ·rename_i h5
      split at hc
      ·omega
      ·rename_i h6
       split at hc
       ·omega
       ·rename_i h7
        have h2:=Classical.not_not.mp h2;have h3:=Classical.not_not.mp h3;have h4:=Classical.not_not.mp h4;have h6:=Classical.not_not.mp h6;have h7:=Classical.not_not.mp h7;refine⟨h.rs,h.rt,⟨h3,h4,?_,?_,?_,?_⟩,qg,qg,?_⟩
        ·rintro nm ⟨i,hi,e⟩ hn;exact h5 ⟨i,hi,by rw[e];exact hn⟩
        ·exact h6
        ·exact h7
        ·intro i hi;have hq:=h2.2 i (by rw[Cb];exact hi);rw[Dy]at hq;unfold Fo at hq;simpa using hq
        ·intro i j;have:=h.xt i j;unfold maxLen at this;omega
theorem Ku.bl{w w':E}{sa ta:Option Addr}{ss:L S2}{ts:L T2}(h:Ku w sa ss ta ts)(hb:Bw w w'):Ku w' sa ss ta ts:=⟨h.rs.bl hb,h.rt.bl hb,h.ls,h.lt,h.ns,h.xs,h.nt,h.lc,h.xt⟩
end
theorem Ih.bl{ob:Option Nat}{w w' w2:E}(h:Ih ob w w')(hs:w.heap.size≤w'.heap.size)(hb:Bw w' w2):Ih ob w w2:=λb hl aq=>by
 rw[hb.block b qg];exact h b hl aq
theorem Ti{s t:By}(h:s=t):(s.toList == t.toList)=true:=by rw[h];simp
theorem Yl(a a':Option Addr)(cap ai n:Nat)(ss:L By)(w:E)(hn:n=ss.length)(hc:Cs w a ss)(U6:Cs w a' ss)(hl:n<=1048576):Calls prog 24 #[.slice a n cap,.slice a' n ai] w λe w'=>e=.returned (.bool true)/\Bw w w':=by
 have HN:Hd (n=ss.length):=hn
 clear hn
 go_enter func24,ntmps24
 go_wp2
 go_loopw [5] (λi wr=>∃k:Nat,k<=n/\i=I k/\Bw w wr) (λi _=>n-(intOf i).toNat)
 case atStart=>exact⟨0,Nat.zero_le _,rfl,Below.refl _ _⟩
 case round=>
  obtain⟨k,hk,rfl,hB⟩:=hrel
  by_cases au:k<n
  ·obtain⟨b,off,rfl,e1⟩:=(hc.bl hB) k (zo HN.o);obtain⟨b',bq,rfl,f1⟩:=(U6.bl hB) k (zo HN.o);have gi:(k:Int)<(n:Int):=qg;have fe:(0:Int)<=(k:Int):=qg;generalize ss.getD k ByteArray.empty=tx at *;go_wp2_with fail
   go_region_held3 (λw'=>w'.cell? ⟨b,off+k,N⟩=some (.string tx)/\w'.cell? ⟨b',bq+k,N⟩=some (.string tx))
    (first|assumption|(simp[*];done)) (fail)
   all_goals
    go_wp2;exact⟨⟨k+1,qg,qp,hB.drew⟩,Yj⟩
  ·have ek:k=n:=qg;exact qda
open Go.RowKit
set_option linter.unusedVariables false
end Go.Proofs.YtoihflimijabjaaGreatDoor
