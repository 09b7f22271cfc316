import Derived.Test.YtbkkjodaaijimaaGreatDoorTImH
import Derived.Test.YtbkkjodaaijimaaGreatDoorTImI
namespace Go.Proofs.YtbkkjodaaijimaaGreatDoor
open _root_.Go.Proofs.Tryz Go.RowKit
open Option renaming some->M,none->N
open Obj renaming cells->O
open Go renaming Value->Z,World->E
open _root_ renaming List->L,Nat->X
set_option linter.unusedVariables false
set_option maxHeartbeats 8000000
set_option maxRecDepth 100000
set_option linter.unusedSimpArgs false
variable {w w':E} {b B b':X} {T:TypeId} {cs:Array Z} {ls:L G3} {sa ta:Option Addr} {ss:L S2} {ts:L T2}
structure Hn (W0:E) (sa ta:Option Addr) (ss:L S2) (ts:L T2):Prop where
 rs:Ho W0 sa ss
 rt:Gu W0 ta ts
 v:SpV ss ts
 l1:ss.length<=200
 l2:ts.length<=200
 xc:∀i j,(ix (tx ts i).code j).text.size<=9223372036854775807
theorem own_set{base e sz n:X}{v:Z}{xs:L Z}(ho:w.ownsRow base e sz v n xs)(hb:w.heap[b]?=M (O cs T (0,0)))(hT:T≠e)(j:X)(u:Z):(w.setCell ⟨b,j,N⟩ u).ownsRow base e sz v n xs:=by
 refine⟨ho.1,?_⟩
 rcases ho.2 with r|⟨g,cap,cur,rfl,hg,hh,r⟩
 ·exact Or.inl r
 ·refine Or.inr ⟨g,cap,cur,rfl,hg,?_,r⟩
  rw[hC w ⟨b,j,N⟩ _ g (λe'=>by
   have e':g=b:=e';subst e';rw[hh]at hb;injection hb with hb;injection hb with _ h5;exact hT h5.symm)]
  exact hh
theorem Ek.set{v:Z}(h:Ek w B v ls)(hb:w.heap[b]?=M (O cs T (0,0)))(hT:T≠199)(j:X)(u:Z):Ek (w.setCell ⟨b,j,N⟩ u) B v ls:=by
 obtain⟨xs,h1,h2⟩:=h
 exact⟨xs,own_set h1 hb hT j u,h2⟩
theorem Ek.set3{v:Z}(h:Ek w B v ls){u0 u1 u2:Z}(hb:w.heap[b]?=M (O #[u0,u1,u2] 120 (0,0)))(v0 v1 v2:Z):Ek (((w.setCell ⟨b,0,N⟩ v0).setCell ⟨b,1,N⟩ v1).setCell ⟨b,2,N⟩ v2) B v ls:=by
 have e1:=jB hb v0 (i:=0)
 have e2:=jB e1 v1 (i:=1)
 exact((h.set hb qd 0 v0).set e1 qd 1 v1).set e2 qd 2 v2
theorem Pt{o:Obj}(h:w.heap[b']?=M o)(hne:b'≠b)(v0 v1 v2:Z):(((w.setCell ⟨b,0,N⟩ v0).setCell ⟨b,1,N⟩ v1).setCell ⟨b,2,N⟩ v2).heap[b']?=M o:=by
 rw[hC _ ⟨b,2,N⟩ _ b' hne,hC _ ⟨b,1,N⟩ _ b' hne,hC _ ⟨b,0,N⟩ _ b' hne]
 exact h
section
open Go.Deep
end
section
open Go.Deep
end
section
open Go.Deep
end
section
open Go.Deep
theorem Zj(h:Lv w sa ss ta ts)(hc:Ic ss ts=0):Hn w sa ta ss ts:=by
 unfold Ic at hc
 split at hc
 ·omega
 ·rename_i h1
  split at hc
  ·omega
  ·rename_i h2
   split at hc
   ·omega
   ·rename_i h3
    split at hc
    ·omega
    ·rename_i h4
     split at hc
     ·omega
     ·rename_i h5
      split at hc
      ·omega
      ·rename_i h6
       split at hc
       ·omega
       ·rename_i h7
        have h2:=Classical.not_not.mp h2;have h3:=Classical.not_not.mp h3;have h4:=Classical.not_not.mp h4;have h6:=Classical.not_not.mp h6;have h7:=Classical.not_not.mp h7;refine⟨h.rs,h.rt,⟨h3,h4,?_,?_,?_,?_⟩,qb,qb,?_⟩
        ·rintro nm ⟨i,hi,e⟩ hn;exact h5 ⟨i,hi,by rw[e];exact hn⟩
        ·exact h6
        ·exact h7
        ·intro i hi;have hq:=h2.2 i (by rw[Bp];exact hi);rw[Dk]at hq;unfold Ew at hq;simpa using hq
        ·intro i j;have:=h.xt i j;unfold maxLen at this;omega
theorem Lv.bl(h:Lv w sa ss ta ts)(hb:Bw w w'):Lv w' sa ss ta ts:=⟨h.rs.bl hb,h.rt.bl hb,h.ls,h.lt,h.ns,h.xs,h.nt,h.lc,h.xt⟩
end
section
open Go.Deep
section
variable {B h mb k:X} {sv tv fv:Z} {w:E} {ms:Ms} {st al:L By} {av kv:Z} {vs:By->Z}
end
end
section
open Go.Deep
end
section
open Go.Deep
theorem KP.set3{h mb:X}{av kv:Z}(k:KP B h mb av kv w w')(hB:B<=b)(hn:w.heap.size<=b)(v0 v1 v2:Z):KP B h mb av kv w (((w'.setCell ⟨b,0,N⟩ v0).setCell ⟨b,1,N⟩ v1).setCell ⟨b,2,N⟩ v2):=((k.setN hB hn).setN hB hn).setN hB hn
theorem Fg(h:b'≠b)(v0 v1 v2:Z):(((w.setCell ⟨b,0,N⟩ v0).setCell ⟨b,1,N⟩ v1).setCell ⟨b,2,N⟩ v2).heap[b']?=w.heap[b']?:=by
 rw[hC _ ⟨b,2,N⟩ _ b' h,hC _ ⟨b,1,N⟩ _ b' h,hC _ ⟨b,0,N⟩ _ b' h]
theorem thing_of{nm:By}{b:Bool}(h:b=true↔(Ed (Am ss) nm\/Ed (Ak ts) nm)):b=Cf ss ts nm:=by
 unfold Cf Xf
 by_cases q:Ed (Am ss) nm\/Ed (Ak ts) nm
 ·rw[h.mpr q];simp[q]
 ·cases b with
  | false=>simp[q]
  | true=>exact absurd (h.mp rfl) q
theorem Zy(sa ta:Option Addr)(c1 c2:X)(ss:L S2)(ts:L T2)(nm:By)(W0 w:E)(hE:Hn W0 sa ta ss ts)(hW:Bw W0 w):Calls prog 178 #[.agg #[.slice sa ss.length c1,.slice ta ts.length c2],.string nm] w λe w'=>Bw w w'/\e=.returned (.bool (Cf ss ts nm)):=by
 have:=hE.l1
 have:=hE.l2
 refine(isThing_any sa ta c1 c2 ss ts nm w (hE.rs.bl hW) (hE.rt.bl hW) qb qb hE.v.ascS hE.v.ascT).mono ?_
 rintro e w' ⟨hb,b,rfl,hbi⟩
 exact⟨hb,by rw[thing_of hbi]⟩
end
end Go.Proofs.YtbkkjodaaijimaaGreatDoor
