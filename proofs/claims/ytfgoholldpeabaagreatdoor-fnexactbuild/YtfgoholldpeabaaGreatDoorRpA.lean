import Derived.Test.YtfgoholldpeabaaGreatDoorEdD
import Derived.Test.YtfgoholldpeabaaGreatDoorFtA
import Derived.Test.YtfgoholldpeabaaGreatDoorTImI
namespace Go.Proofs.YtfgoholldpeabaaGreatDoor
open _root_.Go.Proofs.Tryz Go.RowKit
set_option linter.unusedVariables false
set_option maxHeartbeats 8000000
set_option maxRecDepth 100000
set_option linter.unusedSimpArgs false
section
open Go.Deep
end
section
open Go.Deep
end
section
open Go.Deep
end
section
open Go.Deep
theorem Zn {w:World} {sa ta:Option Addr} {ss:List S2} {ts:List T2} (h:Ll w sa ss ta ts) (hc:Hn ss ts=0):Ir w sa ta ss ts:=by
 unfold Hn at hc
 split at hc
 ·omega
 ·rename_i h1
  split at hc
  ·omega
  ·rename_i h2
   split at hc
   ·omega
   ·rename_i h3
    split at hc
    ·omega
    ·rename_i h4
     split at hc
     ·omega
     ·rename_i h5
      split at hc
      ·omega
      ·rename_i h6
       split at hc
       ·omega
       ·rename_i h7
        have h2:=Classical.not_not.mp h2;have h3:=Classical.not_not.mp h3;have h4:=Classical.not_not.mp h4;have h6:=Classical.not_not.mp h6;have h7:=Classical.not_not.mp h7;refine⟨h.rs,h.rt,⟨h3,h4,?_,?_,?_,?_⟩,qb,qb,?_⟩
        ·rintro nm ⟨i,hi,e⟩ hn;exact h5 ⟨i,hi,by rw[e];exact hn⟩
        ·exact h6
        ·exact h7
        ·intro i hi;have hq:=h2.2 i (by rw[Bn];exact hi);rw[Dl] at hq;unfold Fk at hq;simpa using hq
        ·intro i j;have:=h.xt i j;unfold maxLen at this;omega
theorem Ll.bl {w w':World} {sa ta:Option Addr} {ss:List S2} {ts:List T2} (h:Ll w sa ss ta ts) (hb:Bw w w'):Ll w' sa ss ta ts:=⟨h.rs.bl hb,h.rt.bl hb,h.ls,h.lt,h.ns,h.xs,h.nt,h.lc,h.xt⟩
end
section
open Go.Deep
end
section
open Go.Deep
end
section
open Go.Deep
end
section
open Go.Deep
end
section
open Go.Deep
end

end Go.Proofs.YtfgoholldpeabaaGreatDoor
