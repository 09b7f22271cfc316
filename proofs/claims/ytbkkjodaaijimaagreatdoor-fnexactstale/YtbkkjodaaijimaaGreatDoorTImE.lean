import Derived.Test.YtbkkjodaaijimaaGreatDoorTImI
namespace Go.Proofs.YtbkkjodaaijimaaGreatDoor
open _root_.Go.Proofs.Tryz Go.RowKit
open Option renaming some->M,none->N
open Go renaming Value->Z,World->E
open _root_ renaming List->L,Nat->X
set_option linter.unusedVariables false
set_option maxHeartbeats 8000000
set_option maxRecDepth 100000
set_option linter.unusedSimpArgs false
section
open Go.Deep
theorem Dd{w w':E}{m j:X}(h:w'.heap[m]?=w.heap[m]?):w'.cell? ⟨m,j,N⟩=w.cell? ⟨m,j,N⟩:=by simp only[World.cell?,h]
theorem Bx.kept{B:X}{w w':E}{m:X}{ss:L By}{cd:Z}{pl st lk:Int}(hM:Bx B w m ss cd pl st lk)(hm:w'.heap[m]?=w.heap[m]?)(hk:∀v b,w.cell? ⟨m,0,N⟩=M v->v.ownBlock=M b->w'.heap[b]?=w.heap[b]?):Bx B w' m ss cd pl st lk:=by
 obtain⟨hB,v,h1,h2⟩:=hM
 have c0:w.cell? ⟨m,0,N⟩=M v:=by
  unfold Fm at h1;rw[cH h1];rfl
 exact⟨hB,v,by unfold Fm at *;rw[hm];exact h1,Al h2 (λb q=>hk v b c0 q)⟩
theorem Gn.kept{is:L I3}{ys:L R3}{B m T:X}{cd:Z}{ov:Bool}{c:Int}{t:By}{ask:Bool}{nm:By}{st:Int}{w w':E}(h:Gn is ys B m T cd ov c t ask nm st w)(hT:w'.heap[T]?=w.heap[T]?)(hm:w'.heap[m]?=w.heap[m]?)(hs:w.heap.size<=w'.heap.size)(hk:∀v b,w.cell? ⟨m,0,N⟩=M v->v.ownBlock=M b->w'.heap[b]?=w.heap[b]?):Gn is ys B m T cd ov c t ask nm st w':=
 ⟨by rw[hT];exact h.1,h.2.1,h.2.2.1,Nat.lt_of_lt_of_le h.2.2.2.1 hs,h.2.2.2.2.mono (λ_ _ _ _ k=>k.kept hm hk)⟩
theorem Gn.mach{is:L I3}{ys:L R3}{B m T:X}{cd:Z}{c:Int}{t:By}{ask:Bool}{nm:By}{st:Int}{w:E}(h:Gn is ys B m T cd false c t ask nm st w):B<=m/\∃v cs,w.heap[m]?=M (.cells cs 263 (0,0))/\w.cell? ⟨m,0,N⟩=M v/\∀b,v.ownBlock=M b->B<=b/\b<w.heap.size/\∃cur,w.heap[b]?=M (.cells cur 9 (0,0)):=by
 rcases h.2.2.2.2 with⟨q,_⟩|⟨_,_,_,s1,s',_,_,_,_,_,hB,v,h1,h2⟩
 ·cases q
 ·unfold Fm at h1;refine⟨hB,v,_,h1,by rw[cH h1];rfl,λb hb=>?_⟩;obtain⟨k1,cur,k2⟩:=Dr h2 hb;exact⟨k1,(h2.lt b hb).2,cur,k2⟩
section
variable {W0:E} {h mb:X} {sv tv fv cd:Z} {ss:L S2} {ts:L T2} {is:L I3} {w:E} {ms:Ms} {st:L By} {av kv:Z} {vs:By->Z} {Bm m T AM R:X}
 {ys:L R3} {ls:L G3} {m1:Ms} {av1 kv1:Z} {vs1:By->Z} {lv:Z} {ov:Bool} {c:Int} {t:By} {ask:Bool} {nm:By} {stp:Int} {wr:E}
end
end
end Go.Proofs.YtbkkjodaaijimaaGreatDoor
