import Derived.Test.YtjlnkepkkdefdaaGreatDoorTImD
namespace Go.Proofs.YtjlnkepkkdefdaaGreatDoor
open Go.RowKit
set_option linter.unusedVariables false
set_option maxHeartbeats 8000000
set_option maxRecDepth 100000
set_option linter.unusedSimpArgs false
section
open Go.Deep
theorem Vg {w w':World} {m j:Nat} (h:w'.heap[m]?=w.heap[m]?):w'.cell? ⟨m,j,none⟩=w.cell? ⟨m,j,none⟩:=by simp only[World.cell?,h]
theorem Bx.kept {B:Nat} {w w':World} {m:Nat} {ss:List ByteArray} {cd:Value} {pl st lk:Int} (hM:Bx B w m ss cd pl st lk) (hm:w'.heap[m]?=w.heap[m]?) (hk:∀ v b,w.cell? ⟨m,0,none⟩=some v->v.ownBlock=some b->w'.heap[b]?=w.heap[b]?):Bx B w' m ss cd pl st lk:=by
 obtain⟨hB,v,h1,h2⟩:=hM
 have c0:w.cell? ⟨m,0,none⟩=some v:=by
  unfold Fd at h1;rw[cH h1];rfl
 exact⟨hB,v,by unfold Fd at *;rw[hm];exact h1,Cn h2 (fun b q=>hk v b c0 q)⟩
theorem Gn.kept {is:List I3} {ys:List R3} {B m T:Nat} {cd:Value} {ov:Bool} {c:Int} {t:ByteArray} {ask:Bool} {nm:ByteArray} {st:Int} {w w':World} (h:Gn is ys B m T cd ov c t ask nm st w) (hT:w'.heap[T]?=w.heap[T]?) (hm:w'.heap[m]?=w.heap[m]?) (hs:w.heap.size<=w'.heap.size) (hk:∀ v b,w.cell? ⟨m,0,none⟩=some v->v.ownBlock=some b->w'.heap[b]?=w.heap[b]?):Gn is ys B m T cd ov c t ask nm st w':=
 ⟨by rw[hT];exact h.1,h.2.1,h.2.2.1,Nat.lt_of_lt_of_le h.2.2.2.1 hs,h.2.2.2.2.mono (fun _ _ _ _ k=>k.kept hm hk)⟩
theorem Gn.mach {is:List I3} {ys:List R3} {B m T:Nat} {cd:Value} {c:Int} {t:ByteArray} {ask:Bool} {nm:ByteArray} {st:Int} {w:World} (h:Gn is ys B m T cd false c t ask nm st w):B<=m/\∃ v cs,w.heap[m]?=some (.cells cs 157 (0,0))/\w.cell? ⟨m,0,none⟩=some v/\∀ b,v.ownBlock=some b->B<=b/\b<w.heap.size/\∃ cur,w.heap[b]?=some (.cells cur 9 (0,0)):=by
 rcases h.2.2.2.2 with ⟨q,_⟩|⟨_,_,_,s1,s',_,_,_,_,_,hB,v,h1,h2⟩
 ·cases q
 ·unfold Fd at h1;refine⟨hB,v,_,h1,by rw[cH h1];rfl,fun b hb=>?_⟩;obtain⟨k1,cur,k2⟩:=Ef h2 hb;exact⟨k1,(h2.lt b hb).2,cur,k2⟩
structure RI (W0:World) (h mb:Nat) (sv tv fv cd:Value) (ss:List S2) (ts:List T2) (is:List I3) (w:World) (ms:Ms) (st:List ByteArray) (av kv:Value) (vs:ByteArray->Value) (Bm m T X R:Nat)
  (ys:List R3) (ls:List G3) (m1:Ms) (av1 kv1:Value) (vs1:ByteArray->Value) (lv:Value) (ov:Bool) (c:Int) (t:ByteArray) (ask:Bool) (nm:ByteArray) (stp:Int) (wr:World):Prop where
 ma:Ml W0.heap.size h mb sv tv fv wr m1 st av1 kv1 vs1
 inv:Ja ss ts m1 st
 phi:phi ts m1<=-199+(ys.length:Int)
 ro:Hk is ys ls
 dd:∀ ms' a,Av ss ts m1 st (.run is ys ls) ms' a->Av ss ts ms st (.run is [] []) ms' a
 gn:Gn is ys Bm m T cd ov c t ask nm stp wr
 tb:wr.heap[X]?=some (.cells #[.bool ov,.int .i64 c,.string t,.bool ask,.string nm,.int .i64 stp] 115 (0,0))
 rb:wr.heap[R]?=some (.cells #[.int .i64 0,.string ⟨#[]⟩,.slice none 0 0] 32 (0,0))
 lo:wr.ownsRow w.heap.size 45 3 lv ls.length (Ig ls)
 ap:∀ x d b,lk m1 x=some (some d)->lv.ownBlock=some b->(vs1 x).ownBlock≠some b
 kp:KP W0.heap.size h mb av kv w wr
 ra:Cc w av av1
 rk:Cc w kv kv1
 fr:Mz w ms vs m1 vs1
 no:ov=false->∀ b,(av1.ownBlock=some b\/kv1.ownBlock=some b)->Fc wr m b
structure RC (W0:World) (h mb:Nat) (w:World) (Bm m T X R:Nat):Prop where
 h1:W0.heap.size<=w.heap.size
 h2:h<w.heap.size
 h3:mb<w.heap.size
 h4:w.heap.size<=Bm
 h5:X≠T
 h6:w.heap.size<=X
 h7:w.heap.size<=R
 h8:X≠m
section
variable {W0:World} {h mb:Nat} {sv tv fv cd:Value} {ss:List S2} {ts:List T2} {is:List I3} {w:World} {ms:Ms} {st:List ByteArray} {av kv:Value} {vs:ByteArray->Value} {Bm m T X R:Nat}
 {ys:List R3} {ls:List G3} {m1:Ms} {av1 kv1:Value} {vs1:ByteArray->Value} {lv:Value} {ov:Bool} {c:Int} {t:ByteArray} {ask:Bool} {nm:ByteArray} {stp:Int} {wr:World}
theorem RI.bl {w':World} (r:RI W0 h mb sv tv fv cd ss ts is w ms st av kv vs Bm m T X R ys ls m1 av1 kv1 vs1 lv ov c t ask nm stp wr) (hb:Below wr.heap.size wr w') (hB:W0.heap.size<=wr.heap.size):RI W0 h mb sv tv fv cd ss ts is w ms st av kv vs Bm m T X R ys ls m1 av1 kv1 vs1 lv ov c t ask nm stp w':=
 ⟨r.ma.bl hb,r.inv,r.phi,r.ro,r.dd,r.gn.bl hb,Ag hb r.tb,Ag hb r.rb,Ac r.lo hb,r.ap,r.kp.after hb hB,r.ra,r.rk,r.fr,fun e b q=>(r.no e b q).congr (hb.block m r.gn.2.2.2.1)⟩
theorem RI.looked {w':World} {m2:Ms} {av2 kv2:Value} {vs2:ByteArray->Value} (r:RI W0 h mb sv tv fv cd ss ts is w ms st av kv vs Bm m T X R ys ls m1 av1 kv1 vs1 lv false c t ask nm stp wr) (C:RC W0 h mb w Bm m T X R) (hk:KP W0.heap.size h mb av1 kv1 wr w') (s:Ml W0.heap.size h mb sv tv fv w' m2 st av2 kv2 vs2) (ha:Cc wr av1 av2) (hkk:Cc wr kv1 kv2) (hf:Mz wr m1 vs1 m2 vs2) :
  Gn is ys Bm m T cd false c t ask nm stp w'/\w'.heap[X]?=some (.cells #[.bool false,.int .i64 c,.string t,.bool ask,.string nm,.int .i64 stp] 115 (0,0))/\w'.heap[R]?=some (.cells #[.int .i64 0,.string ⟨#[]⟩,.slice none 0 0] 32 (0,0))/\w'.ownsRow w.heap.size 45 3 lv ls.length (Ig ls)/\(∀ x d b,lk m2 x=some (some d)->lv.ownBlock=some b->(vs2 x).ownBlock≠some b)/\KP W0.heap.size h mb av kv w w'/\Cc w av av2/\Cc w kv kv2/\Mz w ms vs m2 vs2/\(∀ b,(av2.ownBlock=some b\/kv2.ownBlock=some b)->Fc w' m b):=by
 have hsz:=hk.bl.size
 have hsw:=r.kp.bl.size
 obtain⟨n,_,hm⟩:=r.ma.map
 have keep:∀(b:Nat) (cs:Array Value) (T':Nat),T'≠9->T'≠140->wr.heap[b]?=some (Obj.cells cs T' (0,0))->w'.heap[b]?=wr.heap[b]?:=fun b cs T' k1 k2 hb=>hk.keep b (Af hb) (fun e=>by subst e;have q:=r.ma.blk;rw[hb] at q;injection q with q;injection q with _ q;exact k2 q) (fun e=>hm.notCells (e▸hb)) (Ad r.ma.ask k1 hb) (Ad r.ma.stk k1 hb)
 obtain⟨hBm,v,mcs,hmb,hc0,hrow⟩:=r.gn.mach
 have hmk:w'.heap[m]?=wr.heap[m]?:=keep m _ 157 (by decide) (by decide) hmb
 have hno:=r.no rfl
 have hrk:∀ b,v.ownBlock=some b->w'.heap[b]?=wr.heap[b]?:=fun b q=>by
  obtain⟨q1,q2,cur,q3⟩:=hrow b q;have:=C.h2;have:=C.h4;refine hk.keep b q2 (by omega) (fun e=>hm.notCells (e▸q3)) (fun e=>?_) (fun e=>?_)
  ·exact hno b (Or.inl e) v hc0 q.symm
  ·exact hno b (Or.inr e) v hc0 q.symm
 have hc0':w'.cell? ⟨m,0,none⟩=some v:=by rw[Vg hmk];exact hc0
 refine⟨r.gn.kept (keep T _ 115 (by decide) (by decide) r.gn.1) hmk hsz (fun v' b e q=>?_),by rw[keep X _ 115 (by decide) (by decide) r.tb];exact r.tb,by rw[keep R _ 32 (by decide) (by decide) r.rb];exact r.rb,Cn r.lo (fun b q=>?_),fun x d b e q e2=>?_,r.kp.trans r.ra r.rk hk,r.ra.trans hsw ha,r.rk.trans hsw hkk,r.fr.trans hsw hf,fun b q v' e e2=>?_⟩
 ·rw[hc0] at e;cases e;exact hrk b q
 ·obtain⟨_,cur,hh⟩:=Ef r.lo q;exact keep b _ 45 (by decide) (by decide) hh
 ·rcases hf x d b e e2 with ⟨d',q1,q2⟩|q1
  ·exact r.ap x d' b q1 q q2
  ·have:=(r.lo.lt b q).2;omega
 ·rw[hc0'] at e;cases e;have q3:=hrow b e2.symm
  rcases q with q|q
  ·rcases ha b q with q1|q1
   ·exact hno b (Or.inl q1) v hc0 e2
   ·omega
  ·rcases hkk b q with q1|q1
   ·exact hno b (Or.inr q1) v hc0 e2
   ·omega
theorem RI.appd {w2:World} {o:Obj} {g cp:Nat} {x:G3} (C:RC W0 h mb w Bm m T X R) (s:Ml W0.heap.size h mb sv tv fv wr m1 st av1 kv1 vs1) (gn:Gn is ys Bm m T cd ov c t ask nm stp wr) (lo:wr.ownsRow w.heap.size 45 3 lv ls.length (Ig ls)) (ap:∀ x d b,lk m1 x=some (some d)->lv.ownBlock=some b->(vs1 x).ownBlock≠some b) (kp:KP W0.heap.size h mb av kv w wr) (hg:(wr.alloc o).grownBy w2 lv.ownBlock) (hl:lv.ownBlock=some g\/g=wr.heap.size+1) :
  Ml W0.heap.size h mb sv tv fv w2 m1 st av1 kv1 vs1/\Gn is ys Bm m T cd ov c t ask nm stp w2/\(∀ x d b,lk m1 x=some (some d)->(Value.slice (some ⟨g,0,none⟩) (ls.length+1) cp).ownBlock=some b->(vs1 x).ownBlock≠some b)/\KP W0.heap.size h mb av kv w w2/\(∀(b:Nat) (cs:Array Value) (T':Nat),T'≠45->wr.heap[b]?=some (Obj.cells cs T' (0,0))->w2.heap[b]?=wr.heap[b]?):=by
 have hgb:∀ b,b<wr.heap.size->lv.ownBlock≠some b->w2.heap[b]?=wr.heap[b]?:=fun b h1 h2=>by rw[hg.block b (by simp;omega) (fun e=>h2 e.symm),Lib.alloc_old _ _ _ h1]
 have hsw:=kp.bl.size
 have hsz:wr.heap.size<=w2.heap.size:=by have:=hg.size;simp at this;omega
 have keep:∀(b:Nat) (cs:Array Value) (T':Nat),T'≠45->wr.heap[b]?=some (Obj.cells cs T' (0,0))->w2.heap[b]?=wr.heap[b]?:=fun b cs T' k1 hb=>hgb b (Af hb) (Ad lo k1 hb)
 obtain⟨n,_,hm⟩:=s.map
 refine⟨s.kept ?_,?_,?_,⟨?_,?_⟩,keep⟩
 ·rintro b (rfl|rfl|q|q|⟨x',d,e,q⟩)
  ·exact keep _ _ 140 (by decide) s.blk
  ·exact hgb _ hm.lt (Hl lo hm)
  ·obtain⟨_,cur,hh⟩:=Ef s.ask q;exact keep b _ 9 (by decide) hh
  ·obtain⟨_,cur,hh⟩:=Ef s.stk q;exact keep b _ 9 (by decide) hh
  ·obtain⟨xs,k1,_⟩:=s.lks x' d e;exact hgb b (k1.lt b q).2 (fun e2=>ap x' d b e e2 q)
 ·refine⟨by rw[keep T _ 115 (by decide) gn.1];exact gn.1,gn.2.1,gn.2.2.1,Nat.lt_of_lt_of_le gn.2.2.2.1 hsz,gn.2.2.2.2.mono fun ss' pl' st' lk' hk=>hk.kept ?_ ?_⟩
  ·obtain⟨_,v,k1,_⟩:=hk;unfold Fd at k1;exact keep m _ 157 (by decide) k1
  ·intro v' b e q;obtain⟨_,v,k1,k2⟩:=hk;unfold Fd at k1;rw[cH k1] at e;have e':v'=v:=by simpa using e.symm
   subst e';obtain⟨_,cur,hh⟩:=Ef k2 q;exact keep b _ 9 (by decide) hh
 ·intro x' d b e q q2;simp[Value.ownBlock] at q;subst q
  rcases hl with q|q
  ·exact ap x' d _ e q q2
  ·obtain⟨xs,k1,_⟩:=s.lks x' d e;have:=(k1.lt _ q2).2;omega
 ·have h1:=C.h1;refine kp.bl.trans (((Below.refl _ wr).alloc (by omega) o).grown hg (by simp;omega) (fun b q=>?_));have:=(lo.lt b q).1;omega
 ·intro b h1 h2 h3 h4 h5;rw[hgb b (by omega) (fun e=>by have:=(lo.lt b e).1;omega)];exact kp.keep b h1 h2 h3 h4 h5
theorem RI.went {w6:World} {n:Nat} {xs:List Value} {v0 v1 v2 v3 v4 v5:Value} (C:RC W0 h mb w Bm m T X R) (s:Ml W0.heap.size h mb sv tv fv wr m1 st av1 kv1 vs1) (hBm:Bm<=m) (hBT:Bm<=T) (lo:wr.ownsRow w.heap.size 45 3 lv n xs) (tb:wr.heap[X]?=some (.cells #[v0,v1,v2,v3,v4,v5] 115 (0,0))) (rb:wr.heap[R]?=some (.cells #[.int .i64 0,.string ⟨#[]⟩,.slice none 0 0] 32 (0,0))) (kp:KP W0.heap.size h mb av kv w wr) (no:∀ b,(av1.ownBlock=some b\/kv1.ownBlock=some b)->Fc wr m b)
  (hTt:∃ cs,wr.heap[T]?=some (.cells cs 115 (0,0))) (hmt:∃ cs,wr.heap[m]?=some (.cells cs 157 (0,0))) (hb:Below Bm wr w6) (hk:∀(b:Nat) (cs:Array Value) (X':Nat),X'≠9->b≠m->b≠T->wr.heap[b]?=some (Obj.cells cs X' (0,0))->w6.heap[b]?=some (.cells cs X' (0,0))) (ho:∀(b:Nat) (cs:Array Value) (X':Nat),b≠m->b≠T->Fc wr m b->wr.heap[b]?=some (Obj.cells cs X' (0,0))->w6.heap[b]?=some (.cells cs X' (0,0))/\Fc w6 m b) :
  Ml W0.heap.size h mb sv tv fv w6 m1 st av1 kv1 vs1/\w6.ownsRow w.heap.size 45 3 lv n xs/\w6.heap[X]?=some (.cells #[v0,v1,v2,v3,v4,v5] 115 (0,0))/\w6.heap[R]?=some (.cells #[.int .i64 0,.string ⟨#[]⟩,.slice none 0 0] 32 (0,0))/\KP W0.heap.size h mb av kv w w6/\(∀ b,(av1.ownBlock=some b\/kv1.ownBlock=some b)->Fc w6 m b):=by
 obtain⟨tcs,hTt⟩:=hTt
 obtain⟨mcs,hmt⟩:=hmt
 have c1:=C.h1;have c2:=C.h2;have c3:=C.h3;have c4:=C.h4
 obtain⟨nn,_,hm⟩:=s.map
 have ty:∀(b:Nat) (cs cs':Array Value) (A A':Nat),A≠A'->wr.heap[b]?=some (Obj.cells cs A (0,0))->wr.heap[b]?≠some (Obj.cells cs' A' (0,0)):=fun b cs cs' A A' hne q1 q2=>by
  rw[q1] at q2;injection q2 with q2;injection q2 with _ q2;exact hne q2
 have k72:∀(b:Nat) (cur:Array Value),wr.heap[b]?=some (Obj.cells cur 45 (0,0))->w6.heap[b]?=wr.heap[b]?:=fun b cur hh=>by
  rw[hk b cur 45 (by decide) (fun e=>ty b _ _ 45 157 (by decide) hh (e▸hmt)) (fun e=>ty b _ _ 45 115 (by decide) hh (e▸hTt)) hh,hh]
 have k9:∀ b,(av1.ownBlock=some b\/kv1.ownBlock=some b)->w6.heap[b]?=wr.heap[b]?/\Fc w6 m b:=fun b q=>by
  obtain⟨cur,hh⟩:∃ cur,wr.heap[b]?=some (Obj.cells cur 9 (0,0)):=by
   rcases q with q|q
   ·obtain⟨_,cur,hh⟩:=Ef s.ask q;exact⟨cur,hh⟩
   ·obtain⟨_,cur,hh⟩:=Ef s.stk q;exact⟨cur,hh⟩
  obtain⟨q1,q2⟩:=ho b cur 9 (fun e=>ty b _ _ 9 157 (by decide) hh (e▸hmt)) (fun e=>ty b _ _ 9 115 (by decide) hh (e▸hTt)) (no b q) hh;exact⟨by rw[q1,hh],q2⟩
 refine⟨s.kept ?_,Cn lo (fun b q=>?_),hk X _ 115 (by decide) C.h8 C.h5 tb,hk R _ 32 (by decide) (fun e=>ty R _ _ 32 157 (by decide) rb (e▸hmt)) (fun e=>ty R _ _ 32 115 (by decide) rb (e▸hTt)) rb,⟨kp.bl.trans (hb.mono (by omega)),fun b q1 q2 q3 q4 q5=>?_⟩,fun b q=>(k9 b q).2⟩
 ·rintro b (rfl|rfl|q|q|⟨x',d,e,q⟩)
  ·exact hb.block _ (by omega)
  ·exact hb.block _ (by omega)
  ·exact(k9 b (Or.inl q)).1
  ·exact(k9 b (Or.inr q)).1
  ·obtain⟨ys',k1,_⟩:=s.lks x' d e;obtain⟨_,cur,hh⟩:=Ef k1 q;exact k72 b cur hh
 ·obtain⟨_,cur,hh⟩:=Ef lo q;exact k72 b cur hh
 ·rw[hb.block b (by omega)];exact kp.keep b q1 q2 q3 q4 q5
theorem RI.turned {ls':List G3} {u0 u1 u2 u3 u4 u5:Value} (C:RC W0 h mb w Bm m T X R) (s:Ml W0.heap.size h mb sv tv fv wr m1 st av1 kv1 vs1) (hi:Ja ss ts m1 st) (hp:Go.Proofs.YtjlnkepkkdefdaaGreatDoor.phi ts m1<=-199+(ys.length:Int)) (hr:Hk is ys ls) (hd:∀ ms' a,Av ss ts m1 st (.run is ys ls) ms' a->Av ss ts ms st (.run is [] []) ms' a) (gn:Gn is ys Bm m T cd ov c t ask nm stp wr) (tb:wr.heap[X]?=some (.cells #[u0,u1,u2,u3,u4,u5] 115 (0,0))) (rb:wr.heap[R]?=some (.cells #[.int .i64 0,.string ⟨#[]⟩,.slice none 0 0] 32 (0,0)))
  (lo:wr.ownsRow w.heap.size 45 3 lv ls.length (Ig ls)) (ap:∀ x d b,lk m1 x=some (some d)->lv.ownBlock=some b->(vs1 x).ownBlock≠some b) (kp:KP W0.heap.size h mb av kv w wr) (ra:Cc w av av1) (rk:Cc w kv kv1) (fr:Mz w ms vs m1 vs1) (no:∀ b,(av1.ownBlock=some b\/kv1.ownBlock=some b)->Fc wr m b) :
  RI W0 h mb sv tv fv cd ss ts is w ms st av kv vs Bm m T X R ys ls m1 av1 kv1 vs1 lv ov c t ask nm stp ((((((wr.setCell ⟨X,0,none⟩ (.bool ov)).setCell ⟨X,1,none⟩ (.int .i64 c)).setCell ⟨X,2,none⟩ (.string t)).setCell ⟨X,3,none⟩ (.bool ask)).setCell ⟨X,4,none⟩ (.string nm)).setCell ⟨X,5,none⟩ (.int .i64 stp)):=by
 have c2:=C.h2;have c6:=C.h6;have c1:=C.h1
 have ne:∀ b',b'≠X->((((((wr.setCell ⟨X,0,none⟩ (.bool ov)).setCell ⟨X,1,none⟩ (.int .i64 c)).setCell ⟨X,2,none⟩ (.string t)).setCell ⟨X,3,none⟩ (.bool ask)).setCell ⟨X,4,none⟩ (.string nm)).setCell ⟨X,5,none⟩ (.int .i64 stp)).heap[b']?=wr.heap[b']?:=fun b' q=>Dl q _ _ _ _ _ _
 refine⟨s.kept (fun b' q=>ne b' (s.far tb (by decide) (by decide) (by omega) b' q)),hi,hp,hr,hd,?_,Fq tb _ _ _ _ _ _,?_,Cn lo (fun b q=>ne b (fun e=>Ad lo (by decide) tb (e▸q))),ap,kp.set6 (by omega) c6 _ _ _ _ _ _,ra,rk,fr,fun _ b q=>(no b q).congr (ne m (fun e=>C.h8 e.symm))⟩
 ·refine⟨by rw[ne T (fun e=>C.h5 e.symm)];exact gn.1,gn.2.1,gn.2.2.1,Nat.lt_of_lt_of_le gn.2.2.2.1 (Dg (Below.refl 0 wr) (Nat.zero_le _) _ _ _ _ _ _).size,gn.2.2.2.2.mono fun ss' pl' st' lk' hk=>hk.kept (ne m (fun e=>C.h8 e.symm)) ?_⟩;intro v' b e q;obtain⟨_,v,k1,k2⟩:=hk;unfold Fd at k1;rw[cH k1] at e;have e':v'=v:=by simpa using e.symm
  subst e';exact ne b (fun e=>Ad k2 (by decide) tb (e▸q))
 ·rw[ne R (fun e=>by subst e;rw[tb] at rb;injection rb with rb;injection rb with _ rb;exact absurd rb (by decide))];exact rb
end
end
section
open Go.Deep
structure NI (W0:World) (h mb:Nat) (sv tv fv cd:Value) (ss:List S2) (ts:List T2) (is:List I3) (w:World) (ms:Ms) (st:List ByteArray) (av kv:Value) (vs:ByteArray->Value) (Bm m T X R:Nat)
  (ys:List R3) (ls:List G3) (m1:Ms) (av1 kv1:Value) (vs1:ByteArray->Value) (lv:Value) (c:Int) (t:ByteArray) (ask:Bool) (nm:ByteArray) (stp:Int) (y y':R3) (f:ByteArray) (wr:World):Prop where
 ma:Ml W0.heap.size h mb sv tv fv wr m1 st av1 kv1 vs1
 inv:Ja ss ts m1 st
 phi:phi ts m1<=-199+((ys++[y']).length:Int)
 ro:Hk is (ys++[y']) (ls++[⟨nm,ask,f⟩])
 dd:∀ ms' a,Av ss ts m1 st (.run is (ys++[y']) (ls++[⟨nm,ask,f⟩])) ms' a->Av ss ts ms st (.run is [] []) ms' a
 gn:Gn is ys Bm m T cd false c t ask nm stp wr
 tb:wr.heap[X]?=some (.cells #[.bool false,.int .i64 c,.string t,.bool ask,.string nm,.int .i64 stp] 115 (0,0))
 rb:wr.heap[R]?=some (.cells #[.int .i64 0,.string ⟨#[]⟩,.slice none 0 0] 32 (0,0))
 lo:wr.ownsRow w.heap.size 45 3 lv ls.length (Ig ls)
 ap:∀ x d b,lk m1 x=some (some d)->lv.ownBlock=some b->(vs1 x).ownBlock≠some b
 kp:KP W0.heap.size h mb av kv w wr
 ra:Cc w av av1
 rk:Cc w kv kv1
 fr:Mz w ms vs m1 vs1
 no:∀ b,(av1.ownBlock=some b\/kv1.ownBlock=some b)->Fc wr m b
 yt:y.text.size<=2000
 yy:∀ nm s,Dy ask nm y s=Dy ask nm y' s
theorem NI.bl {W0:World} {h mb:Nat} {sv tv fv cd:Value} {ss:List S2} {ts:List T2} {is:List I3} {w:World} {ms:Ms} {st:List ByteArray} {av kv:Value} {vs:ByteArray->Value} {Bm m T X R:Nat}
  {ys:List R3} {ls:List G3} {m1:Ms} {av1 kv1:Value} {vs1:ByteArray->Value} {lv:Value} {c:Int} {t:ByteArray} {ask:Bool} {nm:ByteArray} {stp:Int} {y y':R3} {f:ByteArray} {wr w':World} (r:NI W0 h mb sv tv fv cd ss ts is w ms st av kv vs Bm m T X R ys ls m1 av1 kv1 vs1 lv c t ask nm stp y y' f wr) (hb:Below wr.heap.size wr w') (hB:W0.heap.size<=wr.heap.size):NI W0 h mb sv tv fv cd ss ts is w ms st av kv vs Bm m T X R ys ls m1 av1 kv1 vs1 lv c t ask nm stp y y' f w':=
 ⟨r.ma.bl hb,r.inv,r.phi,r.ro,r.dd,r.gn.bl hb,Ag hb r.tb,Ag hb r.rb,Ac r.lo hb,r.ap,r.kp.after hb hB,r.ra,r.rk,r.fr,fun b q=>(r.no b q).congr (hb.block m r.gn.2.2.2.1),r.yt,r.yy⟩
theorem look_any (W0:World) (h mb:Nat) (sa ta:Option Addr) (c1 c2:Nat) (fv cd:Value) (ss:List S2) (ts:List T2) (is:List I3) (w:World) (ms:Ms) (st:List ByteArray) (av kv:Value) (vs:ByteArray->Value) (Bm m T X R:Nat)
  (ys:List R3) (ls:List G3) (m1:Ms) (av1 kv1:Value) (vs1:ByteArray->Value) (lv:Value) (c:Int) (t:ByteArray) (ask:Bool) (nm:ByteArray) (stp:Int) (wr:World) (hE:Jt W0 sa ta ss ts) (hU:Pl W0 h mb (.slice sa ss.length c1) (.slice ta ts.length c2) fv ss ts st) (hW:Below W0.heap.size W0 wr) (C:RC W0 h mb w Bm m T X R)
  (r:RI W0 h mb (.slice sa ss.length c1) (.slice ta ts.length c2) fv cd ss ts is w ms st av kv vs Bm m T X R ys ls m1 av1 kv1 vs1 lv false c t ask nm stp wr) :
  Calls Tryz.prog 102 #[.pointer (some ⟨h,0,none⟩),.string nm,.bool ask] wr fun e w'=>(∃ m2 av2 kv2 vs2 y y' f,e=.returned (.tuple #[.agg #[.bool y.has,.int .i64 y.code,.string y.text],.string f])/\NI W0 h mb (.slice sa ss.length c1) (.slice ta ts.length c2) fv cd ss ts is w ms st av kv vs Bm m T X R ys ls m2 av2 kv2 vs2 lv c t ask nm stp y y' f w')\/(∃ v ms' a,e=Ty v/\KP W0.heap.size h mb av kv w w'/\Av ss ts ms st (.run is [] []) ms' a/\Ie W0.heap.size w' a v):=by
 obtain⟨n,hful⟩:∃ n,Az is ys Gc (.wait ask nm n):=by
  rcases r.gn.2.2.2.2.full with ⟨q,_⟩|⟨_,n,q⟩
  ·cases q
  ·exact⟨n,q⟩
 obtain⟨hlt,hnm⟩:=r.ro.wait hful
 have hB:=hW.size
 cases ask with
 | false=>
  refine(look_has W0 h mb 0 sa ta c1 c2 fv ss ts m1 st (Eo m1) av1 kv1 vs1 nm wr hE r.ma hW).mono ?_;rintro e w' ⟨rfl,hb⟩;have r':=r.bl hb hB;exact Or.inl ⟨m1,av1,kv1,vs1,⟨Cb ss ts nm,0,⟨#[]⟩⟩,⟨Cb ss ts nm,0,⟨#[]⟩⟩,Cw (Cb ss ts nm),rfl,r'.ma,r.inv,by have:=r.phi;simp;omega,r.ro.has _ _,fun ms' a k=>r.dd _ _ (.has hful k),r'.gn,r'.tb,r'.rb,r'.lo,r'.ap,r'.kp,r'.ra,r'.rk,r'.fr,r'.no rfl,(by decide:(⟨#[]⟩:ByteArray).size<=2000),fun _ _=>rfl⟩
 | true=>
  refine(look_ask W0 h mb sa ta c1 c2 fv ss ts m1 st av1 kv1 vs1 nm wr hE r.ma hW hU r.inv hnm (by have:=r.phi;omega)).mono ?_;rintro e w' ⟨hk,ms',an,hdo,⟨d,av',kv',vs',rfl,rfl,hs,ha,hkk,hf⟩|⟨v,rfl,hv⟩⟩
  ·obtain⟨g1,g2,g3,g4,g5,g6,g7,g8,g9,g10⟩:=r.looked C hk hs ha hkk hf;obtain⟨hi2,hpre,hlk0⟩:=Av.inv hE.v hdo r.inv hnm trivial d rfl;have hmd:=hi2.done nm d hlk0;have hph:=Av.phi_le hE.v hdo hnm r.inv trivial;refine Or.inl ⟨ms',av',kv',vs',⟨Cb ss ts nm,d.c,d.t⟩,Kw ss ts nm d,Bn d.c d.t,rfl,hs,hi2,?_,r.ro.asked hmd _,fun ms'' a k=>r.dd _ _ (.asked hful hdo k),g1,g2,g3,g4,g5,g6,g7,g8,g9,g10,hmd.t2,?_⟩
   ·have:=r.phi;simp only at hph;simp;omega
   ·intro nm' s;unfold Kw Dy
    cases Cb ss ts nm<;>simp
  ·exact Or.inr ⟨v,ms',an,rfl,r.kp.trans r.ra r.rk hk,r.dd _ _ (.askfell hful hdo hv.stop),hv⟩
theorem Wa (W0:World) (h mb:Nat) (sa ta a:Option Addr) (c1 c2 cap:Nat) (fv:Value) (ss:List S2) (ts:List T2) (is:List I3) (tn:ByteArray) (ms:Ms) (st:List ByteArray) (av kv:Value) (vs:ByteArray->Value) (w:World) (hE:Jt W0 sa ta ss ts)
  (hU:Pl W0 h mb (.slice sa ss.length c1) (.slice ta ts.length c2) fv ss ts st) (s:Ml W0.heap.size h mb (.slice sa ss.length c1) (.slice ta ts.length c2) fv w ms st av kv vs) (hi:Ja ss ts ms st) (hp:phi ts ms<=-199) (hW:Below W0.heap.size W0 w) (hr:Dr W0 a is) (hv:Ah is=true) (hT:Jr W0) (hP:Ld W0) :
  Calls Tryz.prog 73 #[.pointer (some ⟨h,0,none⟩),.agg #[.string tn,.slice a is.length cap]] w fun e w'=>RunI W0.heap.size h mb (.slice sa ss.length c1) (.slice ta ts.length c2) fv ss ts ms st av kv vs is w e w':=by
 have hBw:W0.heap.size<=w.heap.size:=hW.size
 have hhw:h<w.heap.size:=Af s.blk
 obtain⟨n0,_,hmap0⟩:=s.map
 have hmw:mb<w.heap.size:=hmap0.lt
 obtain⟨W,eW⟩:∃ W,((w.alloc (.cells #[.string tn,.slice a is.length cap] 62)).alloc (.cells #[.int .i64 0,.string ⟨#[]⟩,.slice none 0 0] 32))=W:=⟨_,rfl⟩
 have hb0:Below w.heap.size w W:=by rw[<- eW];exact Bo (Ak _ _) (Ak _ _)
 have HRB:Hd (W.heap[w.heap.size+1]?=some (.cells #[.int .i64 0,.string ⟨#[]⟩,.slice none 0 0] 32 (0,0))):=by
  show _=_;rw[<- eW];have h:=Aj (w.alloc (.cells #[.string tn,.slice a is.length cap] 62)) (.cells #[.int .i64 0,.string ⟨#[]⟩,.slice none 0 0] 32);rw[show (w.alloc (.cells #[.string tn,.slice a is.length cap] 62)).heap.size=w.heap.size+1 from by simp] at h;exact h
 have k1:W.cell? ⟨w.heap.size,1,none⟩=some (.slice a is.length cap):=by rw[<- eW];simp[go_sem]
 have HB0:Hd (Below w.heap.size w W):=hb0
 have hbw:Below W0.heap.size W0 W:=hW.trans (hb0.mono hBw)
 have HBG:Hd (Calls Tryz.prog 57 #[.agg #[.slice a is.length cap]] W fun e w'=>Below W.heap.size W w'/\∃ B m T ov c t ask nm st,W.heap.size<=B/\B<=w'.heap.size/\e=.returned (.tuple #[Ao ov c t ask nm st,.func (.func 89) #[] #[.pointer (some ⟨m,0,none⟩),.pointer (some ⟨T,0,none⟩)]])/\Gn is [] B m T (.slice a is.length cap) ov c t ask nm st w'):=Vh a cap is W (hT.bl hbw) (hP.bl hbw) (hr.bl hbw) hv
 have HS:Hd (Ml W0.heap.size h mb (.slice sa ss.length c1) (.slice ta ts.length c2) fv w ms st av kv vs):=s
 have HU:Hd (Pl W0 h mb (.slice sa ss.length c1) (.slice ta ts.length c2) fv ss ts st):=hU
 have HE:Hd (Jt W0 sa ta ss ts):=hE
 have HW:Hd (Below W0.heap.size W0 w):=hW
 have HRW:Hd (Dr W0 a is):=hr
 have HV:Hd (Ah is=true):=hv
 have HTP:Hd (Jr W0/\Ld W0):=⟨hT,hP⟩
 have HI:Hd (Ja ss ts ms st/\phi ts ms<=-199):=⟨hi,hp⟩
 clear hU s hi hp hW hr hv hT hP hb0 hbw hmap0 hE
 go_enter Tryz.func73,Tryz.ntmps73
 go_wp2_with fail
 refine HBG.o.mono ?_
 rintro e w2 ⟨hb2,Bm,m,T,ov,c,t,ask,nm,stp,hBW,hBw2,rfl,hgn⟩
 unfold Ao
 dsimp only
 obtain⟨V,eV⟩:∃ V,w2.alloc (.cells #[.bool ov,.int .i64 c,.string t,.bool ask,.string nm,.int .i64 stp] 115)=V:=⟨_,rfl⟩
 have hbV:Below w2.heap.size w2 V:=by rw[<- eV];exact Ak _ _
 have hsW:=HB0.o.size
 have HC:Hd (RC W0 h mb w Bm m T w2.heap.size (w.heap.size+1)):=⟨hBw,hhw,hmw,by omega,by have:=Af hgn.1;omega,by have:=hb2.size;omega,by omega,by have:=hgn.2.2.2.1;omega⟩
 have HRI:Hd (RI W0 h mb (.slice sa ss.length c1) (.slice ta ts.length c2) fv (.slice a is.length cap) ss ts is w ms st av kv vs Bm m T w2.heap.size (w.heap.size+1) [] [] ms av kv vs (.slice none 0 0) ov c t ask nm stp V):=by
  have hbA:Below w.heap.size w V:=Bo (Bo HB0.o hb2) hbV;have hg:=hgn.bl hbV;refine⟨HS.o.bl hbA,HI.o.1,by have:=HI.o.2;simpa using this,⟨HV.o,fun i hi=>by simp at hi,rfl⟩,fun _ _ k=>k,hg,?_,Ag hbV (Ag hb2 HRB.o),⟨rfl,Or.inl ⟨rfl,rfl⟩⟩,fun x d b _ q=>by simp[Value.ownBlock] at q,KP.old hbA hBw,Cc.refl _ _,Cc.refl _ _,Mz.refl _ _ _,?_⟩
  ·rw[<- eV];exact Aj _ _
  ·rintro rfl b q v e q2;obtain⟨_,v',_,_,e',hrow⟩:=hg.mach;rw[e] at e';cases e';have q3:=(hrow b q2.symm).1
   rcases q with q|q
   ·have:=(Hm HS.o.ask b q).2;omega
   ·have:=(Hm HS.o.stk b q).2;omega
 have HBB:Hd (1<Bm):=by have:=HTP.o.2.two;have:=HC.o.h4;show _<_;omega
 clear hb2 hgn hbV HI HS HRB k1 HBG
 go_wp2_with fail
 go_loopw [6] (fun v wr=>∃(ys:List R3) (ls:List G3) (m1:Ms) (av1 kv1:Value) (vs1:ByteArray->Value) (la:Option Addr) (lc:Nat) (ov:Bool) (c:Int) (t:ByteArray) (ask:Bool) (nm:ByteArray) (stp:Int),v=.slice la ls.length lc/\Hd (RI W0 h mb (.slice sa ss.length c1) (.slice ta ts.length c2) fv (.slice a is.length cap) ss ts is w ms st av kv vs Bm m T w2.heap.size (w.heap.size+1) ys ls m1 av1 kv1 vs1 (.slice la ls.length lc) ov c t ask nm stp wr)) (fun v _=>201-lenV v)
 case atStart=>exact⟨[],[],ms,av,kv,vs,none,0,ov,c,t,ask,nm,stp,rfl,HRI.o⟩
 case round=>
  clear HRI;obtain⟨ys,ls,m1,av1,kv1,vs1,la,lc,ov,c,t,ask,nm,stp,rfl,HR⟩:=hrel;obtain⟨x0,x1,x2,x3,x4,x5,xf⟩:=Ei HR.o.tb
  cases ov with
  | true=>
   obtain⟨n,hful⟩:∃ n,Az is ys Gc (.over c t n):=by
    rcases HR.o.gn.2.2.2.2.full with ⟨_,n,q⟩|⟨q,_⟩
    ·exact⟨n,q⟩
    ·cases q
   have HDN:Hd (Av ss ts ms st (.run is [] []) m1 (.ok ⟨c,t,ls⟩)):=HR.o.dd _ _ (.over hful);clear hful;obtain⟨U,eU⟩:∃ U,wr.drew=U:=⟨_,rfl⟩;have hbU:Below wr.heap.size wr U:=by rw[<- eU];exact(Below.refl _ _).drew
   have HRU:=HR.o.bl hbU (by have:=HR.o.kp.bl.size;omega);obtain⟨y0,y1,y2,y3,y4,y5,yf⟩:=Ei HRU.tb;obtain⟨z0,z1,z2,zf⟩:=Gi HRU.rb;have HU2:Hd (RI W0 h mb (.slice sa ss.length c1) (.slice ta ts.length c2) fv (.slice a is.length cap) ss ts is w ms st av kv vs Bm m T w2.heap.size (w.heap.size+1) ys ls m1 av1 kv1 vs1 (.slice la ls.length lc) true c t ask nm stp U):=HRU
   have hXR:¬ w2.heap.size=w.heap.size+1:=fun e=>by
    have q:=HRU.rb;rw[<- e,HRU.tb] at q;injection q with q;injection q with _ q;exact absurd q (by decide)
   clear hbU HRU
   go_upto_region 7 with fail
   go_region;clear eU;go_wp2_with fail;have hR:=HU2.o;obtain⟨v0,v1,v2,_⟩:=Gi (Cz hR.rb (.int .i64 c) (.string t) (.slice none 0 0));exact bR (v:=.tuple #[.slice la ls.length lc,.agg #[.int .i64 c,.string t,.slice none 0 0]]) (by simp[results,Tryz.results73,go_sem,v0,v1,v2]) rfl ⟨hR.kp.set3 (by omega) (by omega) _ _ _,m1,_,HDN.o,Or.inl ⟨⟨c,t,ls⟩,_,av1,kv1,vs1,rfl,rfl,⟨(Sb hR.lo hBw).keptB (fun b q=>Ju (fun e=>by subst e;exact Ad hR.lo (by decide) hR.rb q) _ _ _),fun b q=>(hR.lo.lt b q).1⟩,hR.ma.set3 hR.rb (by decide) (by decide) (by omega) _ _ _,hR.ra,hR.rk,hR.fr⟩⟩
  | false=>
   obtain⟨rfl,rfl⟩:c=0/\t=⟨#[]⟩:=by
    rcases HR.o.gn.2.2.2.2 with ⟨q,_⟩|⟨_,q1,q2,_⟩
    ·cases q
    ·exact⟨q1,q2⟩
   have HLE:Hd (ls.length<200):=by
    obtain⟨n,hful⟩:∃ n,Az is ys Gc (.wait ask nm n):=by
     rcases HR.o.gn.2.2.2.2.full with ⟨q,_⟩|⟨_,n,q⟩
     ·cases q
     ·exact⟨n,q⟩
    have h1:=(HR.o.ro.wait hful).1;have h2:=HR.o.ro.eq;show _<_;omega
   have hl200:ls.length<200:=HLE.o;have HL:=look_any W0 h mb sa ta c1 c2 fv (.slice a is.length cap) ss ts is w ms st av kv vs Bm m T w2.heap.size (w.heap.size+1) ys ls m1 av1 kv1 vs1 (.slice la ls.length lc) 0 ⟨#[]⟩ ask nm stp wr HE.o HU.o (HW.o.trans (HR.o.kp.bl)) HC.o HR.o;clear HR;go_wp2_with fail;refine HL.mono ?_;clear x0 x1 x2 x3 x4 x5 xf HL;rintro e w3 (⟨m2,av2,kv2,vs2,⟨yh,yc,yt⟩,y',f,rfl,hN⟩|⟨v,ms',an,rfl,hkp,hdo,hv⟩)
   ·dsimp only;obtain⟨V3,eV3⟩:∃ V3,w3.alloc (.cells #[.bool yh,.int .i64 yc,.string yt] 122)=V3:=⟨_,rfl⟩;(have hb3:Below w3.heap.size w3 V3:=by rw[<- eV3];exact Ak _ _);have hw3:w.heap.size<=w3.heap.size:=hN.kp.bl.size;have HN:Hd (NI W0 h mb (.slice sa ss.length c1) (.slice ta ts.length c2) fv (.slice a is.length cap) ss ts is w ms st av kv vs Bm m T w2.heap.size (w.heap.size+1) ys ls m2 av2 kv2 vs2 (.slice la ls.length lc) 0 ⟨#[]⟩ ask nm stp ⟨yh,yc,yt⟩ y' f V3):=hN.bl hb3 (by omega)
    have HY:Hd (V3.heap[w3.heap.size]?=some (.cells #[.bool yh,.int .i64 yc,.string yt] 122 (0,0))):=by
     show _=_;rw[<- eV3];exact Aj _ _
    have hV3:w3.heap.size<=V3.heap.size:=hb3.size;obtain⟨x0,x1,x2,x3,x4,x5,xf⟩:=Ei HN.o.tb;obtain⟨i0,hi0,hz0,hz1,hz2⟩:=info_parts Tryz.info45;have HLA:Hd (∀ o:Obj,(V3.alloc o).ownsRow w.heap.size 45 3 (.slice la ls.length lc) ls.length (Ig ls)):=fun o=>HN.o.lo.alloc o;clear hb3 hN
    go_upto_region 6 with (at_builtin;refine wpList_append_lies _ rfl (.tmp 29) (.tmp 36) 29 rfl w.heap.size 45 i0 (.agg #[.string ⟨#[]⟩,.bool false,.string ⟨#[]⟩]) 3 40 Tryz.underlying29 hi0 hz0 hz1 hz2 rfl (by decide) _ ls.length (Ig ls) rfl (HLA.o _) ⟨V3.heap.size,0,none⟩ 1 1 [.string nm,.bool ask,.string f] rfl rfl (Jn _ _ _ _ _) (by intro u hu;simp at hu;rcases hu with rfl|rfl|rfl<;>rfl) (by omega) (by unfold maxLen;omega) (by omega) (by simp;omega) (V3.heap.size+1) (by simp) ?_;intro g5 cp5 w5 hown5 hgrow5 hl5 hlt5)
    clear x0 x1 x2 x3 x4 x5 xf;obtain⟨s5,gn5,ap5,kp5,keep5⟩:=RI.appd (cp:=cp5) (x:=⟨nm,ask,f⟩) HC.o HN.o.ma HN.o.gn HN.o.lo HN.o.ap HN.o.kp hgrow5 hl5;(have tb5:w5.heap[w2.heap.size]?=some (.cells #[.bool false,.int .i64 0,.string ⟨#[]⟩,.bool ask,.string nm,.int .i64 stp] 115 (0,0)):=by rw[keep5 _ _ 115 (by decide) HN.o.tb];exact HN.o.tb);(have rb5:w5.heap[w.heap.size+1]?=some (.cells #[.int .i64 0,.string ⟨#[]⟩,.slice none 0 0] 32 (0,0)):=by rw[keep5 _ _ 32 (by decide) HN.o.rb];exact HN.o.rb);(have yb5:w5.heap[w3.heap.size]?=some (.cells #[.bool yh,.int .i64 yc,.string yt] 122 (0,0)):=by rw[keep5 _ _ 122 (by decide) HY.o];exact HY.o);obtain⟨hBm5,mv5,mcs5,hmb5,hmc5,hmr5⟩:=HN.o.gn.mach;have hm5:w5.heap[m]?=V3.heap[m]?:=keep5 m _ 157 (by decide) hmb5;have no5:∀ b,(av2.ownBlock=some b\/kv2.ownBlock=some b)->Fc w5 m b:=fun b q=>(HN.o.no b q).congr hm5;have hbW5:Below W0.heap.size W0 w5:=HW.o.trans kp5.bl
    have HGO:Hd (Calls Tryz.prog 89 #[.agg #[.bool yh,.int .i64 yc,.string yt],.pointer (some ⟨m,0,none⟩),.pointer (some ⟨T,0,none⟩)] w5 _):=Zm Bm m T is a cap ys ask nm stp ⟨yh,yc,yt⟩ y' w5 gn5 (by have:=Af gn5.1;have:=gn5.2.2.1;omega) HBB.o ⟨HRW.o.bl hbW5,fun b off e=>by
     have h1:=(Ed HV.o).1;obtain⟨b',off',e',q1,_,_⟩:=HRW.o 0 (by omega);rw[e] at e';cases e';have q2:b<W0.heap.size:=World.block_lt_of_cell? _ _ q1;have:=HC.o.h4;omega⟩ (HTP.o.1.bl hbW5) (HTP.o.2.bl hbW5) HV.o HN.o.yt HN.o.yy
    obtain⟨r0,r1,r2,_⟩:=Gi yb5;have HG5:Hd (Bm<=m/\Bm<=T/\(∃ cs,w5.heap[T]?=some (.cells cs 115 (0,0)))/\∃ cs,w5.heap[m]?=some (.cells cs 157 (0,0))):=⟨hBm5,gn5.2.2.1,⟨_,gn5.1⟩,⟨mcs5,by rw[hm5];exact hmb5⟩⟩;have HO5:Hd (w5.ownsRow w.heap.size 45 3 (.slice (some ⟨g5,0,none⟩) (ls.length+1) cp5) (ls.length+1) (Ig ls++[.string nm,.bool ask,.string f])):=hown5;have HS5:Hd (Ml W0.heap.size h mb (.slice sa ss.length c1) (.slice ta ts.length c2) fv w5 m2 st av2 kv2 vs2):=s5;have HT5:Hd _:=tb5;have HR5:Hd _:=rb5;have HK5:Hd (KP W0.heap.size h mb av kv w w5):=kp5;have HNO5:Hd (∀ b,(av2.ownBlock=some b\/kv2.ownBlock=some b)->Fc w5 m b):=no5;have HAP5:Hd (∀ x d b,lk m2 x=some (some d)->(Value.slice (some ⟨g5,0,none⟩) (ls.length+1) cp5).ownBlock=some b->(vs2 x).ownBlock≠some b):=ap5;clear s5 gn5 ap5 kp5 keep5 tb5 rb5 yb5 hm5 no5 hbW5 hown5 hgrow5 hl5 hlt5 hmb5 hmc5 hmr5 hBm5 HLA HY;go_wp2_with fail;refine HGO.o.mono ?_;rintro e w6 ⟨⟨hb6,hk6⟩,ho6,ov',c',t',ask',nm',st',rfl,hg6⟩;obtain⟨s6,lo6,tb6,rb6,kp6,no6⟩:=RI.went (wr:=w5) HC.o HS5.o HG5.o.1 HG5.o.2.1 HO5.o HT5.o HR5.o HK5.o HNO5.o HG5.o.2.2.1 HG5.o.2.2.2 hb6 hk6 ho6;obtain⟨j0,j1,j2,j3,j4,j5,jf⟩:=Ei tb6;have HFIN:Hd (RI W0 h mb (.slice sa ss.length c1) (.slice ta ts.length c2) fv (.slice a is.length cap) ss ts is w ms st av kv vs Bm m T w2.heap.size (w.heap.size+1) (ys++[y']) (ls++[⟨nm,ask,f⟩]) m2 av2 kv2 vs2 (.slice (some ⟨g5,0,none⟩) (ls.length+1) cp5) ov' c' t' ask' nm' st' _):=RI.turned (ls':=[]) HC.o s6 HN.o.inv HN.o.phi HN.o.ro HN.o.dd hg6 tb6 rb6 (by rw[List.length_append,List.length_singleton,Ph];exact lo6) HAP5.o kp6 HN.o.ra HN.o.rk HN.o.fr no6;unfold Ao;dsimp only;clear hb6 hk6 ho6 hg6 s6 lo6 tb6 rb6 kp6 no6 HGO r0 r1 r2;go_wp2_with fail;refine⟨⟨ys++[y'],ls++[⟨nm,ask,f⟩],m2,av2,kv2,vs2,some ⟨g5,0,none⟩,cp5,ov',c',t',ask',nm',st',by simp,?_⟩,by simp[lenV];omega⟩;rw[List.length_append,List.length_singleton];exact HFIN.o
   ·unfold Ty;dsimp only;have HDV:Hd (KP W0.heap.size h mb av kv w w3/\Av ss ts ms st (.run is [] []) ms' an/\Ie W0.heap.size w3 an v):=⟨hkp,hdo,hv⟩;clear hkp hdo hv;go_wp2_with fail;exact⟨rfl,HDV.o.1,ms',an,HDV.o.2.1,Or.inr ⟨v,rfl,HDV.o.2.2⟩⟩
end
end Go.Proofs.YtjlnkepkkdefdaaGreatDoor
