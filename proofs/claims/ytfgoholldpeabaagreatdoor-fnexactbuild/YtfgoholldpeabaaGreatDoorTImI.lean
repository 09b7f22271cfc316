import Derived.Test.YtfgoholldpeabaaGreatDoorTImE
namespace Go.Proofs.YtfgoholldpeabaaGreatDoor
open _root_.Go.Proofs.Tryz Go.RowKit
set_option linter.unusedVariables false
set_option maxHeartbeats 8000000
set_option maxRecDepth 100000
set_option linter.unusedSimpArgs false
section
open Go.Deep
end
section
open Go.Deep
theorem Qc {s x:Operand} {W:World} {ops:Array Oper} {o:Oper} {a:Act} {K:Act->World->Prop} {Q:Exit->Act->World->Prop} {E:Prop} (se:o.guard=none)
  (ho:o.op=.call { callee:=.builtin .append,args:=#[s,x],argTypes:=#[22,22] }) (B:Nat) (sa:Option Addr) (nn cap:Nat) (xs:List Value)
  (hs:a.eval s=.slice sa nn cap) (ah:W.ownsRow B 9 1 (.slice sa nn cap) nn xs) (d:Nat) (t:By) (hx:a.eval x=.slice (p_ d) 1 1) (hc:W.heap[d]?=some (.cells #[.string t] 9 (0,0))) (hB:B<=W.heap.size) (hn:nn<=100000)
  (h:∀ g' ai w',w'.ownsRow B 9 1 (.slice (p_ g') (nn+1) ai) (nn+1) (xs++[.string t])->W.grownBy w' (Value.slice sa nn cap).ownBlock->((Value.slice sa nn cap).ownBlock=some g'\/g'=W.heap.size)->K (a.put o.dst (.slice (p_ g') (nn+1) ai)) w') :
  if Region.wanted o (yielded ops a.tmps)=true then Oper.wp prog o a W K Q else E:=by
 obtain⟨i0,hi,bp,bh,bv⟩:=info_parts Tryz.info9b
 refine step_append_lies (w:=W) se s x 22 ho B 9 i0 ze 1 16 underlying22 hi bp bh bv rfl qd _ nn xs hs ah ⟨d,0,none⟩ 1 1 [.string t] hx rfl
  (World.news_of_block (cs:=#[.string t]) (t:=9) (fr:=(0,0)) hc) qaf qb qm qb hB W.heap.size rfl ?_
 exact qfq
def Nz (d:Md) (v:Value):Value:=.agg #[.bool false,I d.c,.string d.t,nS,ze,v]
theorem Ak.less {w w1:World} {v v':Value} (h:Ak w1 v v') (hs:w.heap.size<=w1.heap.size):Ak w v v':=fun b q=>(h b q).imp id (fun q=>qb)
end
section
open Go.Deep
theorem at_true {l:List By} {t:By} {r:Nat} (ha:Gf l) (h:At l t r true):r<l.length/\nx l r=t:=by
 obtain⟨j,hj,e⟩:=h.has.mp rfl
 rcases Nat.lt_trichotomy j r with q|q|q
 ·have:=h.lo j q;rw[e,Ej] at this;cases this
 ·subst q;exact⟨hj,e⟩
 ·have h1:=h.hi r (Nat.le_refl _) qb;have h2:=ha.pair q hj;rw[e,h1] at h2;cases h2
theorem Qcj {l:List By} {t:By} {r:Nat} (h:At l t r false):¬ Ec l t:=fun q=>by have:=h.has.mpr q;cases this
end
section
open Go.Deep
theorem Rg (c:Int) (t:By) (w:World) (h0:0<=c) (h5:c<=5) (ht:t.size<=2000):Calls prog 151 #[.agg #[I c,.string t,nS]] w fun e w'=>e=.returned (.string (Bk c t))/\Bw w w':=by
 obtain⟨m,rfl⟩:=Int.eq_ofNat_of_zero_le h0
 exact Ps m t none 0 w qb ht
theorem Pd {w:World} {b j:Nat} {cs cs':Array Value} {T:TypeId} {u:Value} (h:w.heap[b]?=some (.cells cs T (0,0))) (hc:cs.setIfInBounds j u=cs'):(w.setCell ⟨b,j,none⟩ u).heap[b]?=some (.cells cs' T (0,0)):=by
 rw[jB h,hc]
end
end Go.Proofs.YtfgoholldpeabaaGreatDoor
