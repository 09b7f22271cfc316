import Derived.Test.YtjlnkepkkdefdaaGreatDoorTClB
import Derived.Deep.AppendLies
import Derived.Test.YtjlnkepkkdefdaaGreatDoorTVoA
namespace Go.Proofs.YtjlnkepkkdefdaaGreatDoor
open Go.RowKit
set_option linter.unusedVariables false
set_option maxHeartbeats 8000000
set_option maxRecDepth 100000
set_option linter.unusedSimpArgs false
def Vz (e:ByteArray × Option Md) (v:Value):List Value:=
 match e.2 with
 | none=>[.string e.1,.int .i64 0,.string ⟨#[]⟩,.slice none 0 0,.slice none 0 0,.bool false]
 | some d=>[.string e.1,.int .i64 d.c,.string d.t,.slice none 0 0,v,.bool true]
theorem Ji (e:ByteArray × Option Md) (v:Value):(Vz e v).length=6:=by unfold Vz;split<;>rfl
def Ox:Ms->(Nat->Value)->List Value
 | [],_=>[]
 | e :: r,vs=>Vz e (vs 0)++Ox r (fun i=>vs (i+1))
theorem Rw:∀(ms:Ms) (vs:Nat->Value),(Ox ms vs).length=ms.length*6
 | [],vs=>rfl
 | e :: r,vs=>by simp only[Ox,List.length_append,Ji,Rw r,List.length_cons];omega
def mx (ms:Ms) (i:Nat):ByteArray × Option Md:=ms.getD i (ByteArray.empty,none)
theorem Dt (e:ByteArray × Option Md) (r:Ms) (i:Nat):mx (e :: r) (i+1)=mx r i:=by simp[mx]
theorem Ov:∀(ms:Ms) (vs:Nat->Value) (i j:Nat),i<ms.length->j<6->(Ox ms vs)[i*6+j]?=(Vz (mx ms i) (vs i))[j]?
 | [],vs,i,j,h,_=>by simp at h
 | e :: r,vs,0,j,h,hj=>by
  simp only[Ox,Nat.zero_mul,Nat.zero_add];rw[List.getElem?_append_left (by rw[Ji];exact hj)];simp[mx]
 | e :: r,vs,i+1,j,h,hj=>by
  simp only[Ox];rw[List.getElem?_append_right (by rw[Ji];omega),Ji,show (i+1)*6+j-6=i*6+j from by omega,Ov r (fun i=>vs (i+1)) i j (by simpa using h) hj,Dt]
theorem Yl:∀(ms:Ms) (e:ByteArray × Option Md) (vs:Nat->Value),Ox (ms++[e]) vs=Ox ms vs++Vz e (vs ms.length)
 | [],e,vs=>by simp[Ox]
 | x :: r,e,vs=>by simp only[List.cons_append,Ox,Yl r,List.append_assoc,List.length_cons]
theorem Qe:∀(ms:Ms) (vs vs':Nat->Value),(∀ i,i<ms.length->vs i=vs' i)->Ox ms vs=Ox ms vs'
 | [],_,_,_=>rfl
 | e :: r,vs,vs',h=>by
  simp only[Ox];rw[h 0 (by simp),Qe r (fun i=>vs (i+1)) (fun i=>vs' (i+1)) (fun i hi=>h (i+1) (by simpa using hi))]
theorem mx_nm {ms:Ms} {i:Nat}:(mx ms i).1=nx (Eo ms) i:=by
 unfold mx nx Eo
 rw[gG,gG,List.getElem?_map]
 cases ms[i]?<;>rfl
theorem lk_at {ms:Ms} {nm:ByteArray} {i:Nat} (h:i<ms.length) (e:(mx ms i).1=nm) (hf:∀ j,j<i->(mx ms j).1≠nm):lk ms nm=some (mx ms i).2:=by
 induction ms generalizing i with
 | nil=>simp at h
 | cons x r ih=>
  obtain⟨a,o⟩:=x
  cases i with
  | zero=>have ha:a=nm:=e;subst ha;rw[Du];rfl
  | succ i=>
   have ha:a≠nm:=hf 0 (by omega);rw[Bt ha,Dt];exact ih (by simpa using h) (by rw[Dt] at e;exact e) (fun j hj=>by have:=hf (j+1) (by omega);rw[Dt] at this;exact this)
theorem lk_not {ms:Ms} {nm:ByteArray} (hf:∀ j,j<ms.length->(mx ms j).1≠nm):lk ms nm=none:=by
 induction ms with
 | nil=>rfl
 | cons x r ih=>
  obtain⟨a,o⟩:=x;have ha:a≠nm:=hf 0 (by simp);rw[Bt ha];exact ih (fun j hj=>by have:=hf (j+1) (by simpa using hj);rw[Dt] at this;exact this)
theorem Yk {ms:Ms} (h:(Eo ms).Nodup) {i j:Nat} (hi:i<ms.length) (hj:j<ms.length) (e:(mx ms i).1=(mx ms j).1):i=j:=by
 rw[mx_nm,mx_nm] at e
 have hl:(Eo ms).length=ms.length:=by simp[Eo]
 unfold nx at e
 rw[gG,gG,gQ (by omega),gQ (by omega)] at e
 simp only[Option.getD_some] at e
 have hp:=List.pairwise_iff_getElem.mp h
 rcases Nat.lt_trichotomy i j with k|k|k
 ·exact absurd e (hp i j (by omega) (by omega) k)
 ·exact k
 ·exact absurd e.symm (hp j i (by omega) (by omega) k)
def Ar (w:World) (B:Nat) (v:Value) (ls:List G3):Prop:=∃ xs,w.ownsRow B 45 3 v ls.length xs/\Fe ls ls.length xs
structure KS (B h:Nat) (w w':World):Prop where
 bl:Below B w w'
 keep:∀ b cs T,T≠9->T≠72->b≠h->w.heap[b]?=some (.cells cs T (0,0))->w'.heap[b]?=some (.cells cs T (0,0))
theorem KS.trans {B h:Nat} {w w' w'':World} (k:KS B h w w') (l:KS B h w' w''):KS B h w w'':=⟨k.bl.trans l.bl,fun b cs T h1 h2 h3 h4=>l.keep b cs T h1 h2 h3 (k.keep b cs T h1 h2 h3 h4)⟩
theorem KS.old {B h:Nat} {w w':World} (hb:Below w.heap.size w w') (hB:B<=w.heap.size):KS B h w w':=⟨hb.mono hB,fun b cs T _ _ _ k=>by rw[hb.block b (Af k)];exact k⟩
theorem KS.setH {B h:Nat} {w w':World} (k:KS B h w w') (hB:B<=h) (j:Nat) (v:Value):KS B h w (w'.setCell ⟨h,j,none⟩ v):=⟨k.bl.setCell (p:=⟨h,j,none⟩) hB _,fun b cs T h1 h2 h3 h4=>by rw[hC w' ⟨h,j,none⟩ _ b h3];exact k.keep b cs T h1 h2 h3 h4⟩
theorem KS.setN {B h b':Nat} {w w':World} (k:KS B h w w') (hB:B<=b') (hn:w.heap.size<=b') (j:Nat) (v:Value):KS B h w (w'.setCell ⟨b',j,none⟩ v):=⟨k.bl.setCell (p:=⟨b',j,none⟩) hB _,fun b cs T h1 h2 h3 h4=>by rw[hC w' ⟨b',j,none⟩ _ b (by have:=Af h4;simp;omega)];exact k.keep b cs T h1 h2 h3 h4⟩
theorem KS.grown {B h T0 n sz:Nat} {w w':World} {v:Value} {xs:List Value} (hT:T0=9\/T0=72) (ho:w.ownsRow B T0 sz v n xs) (hg:w.grownBy w' v.ownBlock) (hB:B<=w.heap.size):KS B h w w':=by
 refine⟨(Below.refl _ _).grown hg hB (fun k hk=>(ho.lt k hk).1),fun b cs T h1 h2 h3 h4=>?_⟩
 rw[hg.block b (Af h4) ?_]
 ·exact h4
 ·intro e
  rcases ho.2 with ⟨rfl,_⟩|⟨g,cap,cur,rfl,hgB,hh,_⟩
  ·simp[Value.ownBlock] at e
  ·simp[Value.ownBlock] at e;subst e;rw[h4] at hh;injection hh with hh;injection hh with _ h5
   rcases hT with e|e
   ·exact h1 (h5.trans e)
   ·exact h2 (h5.trans e)
structure Bh (B h:Nat) (sv tv:Value) (w:World) (ms:Ms) (st:List ByteArray) (mv kv:Value) (vs:Nat->Value):Prop where
 hB:B<=h
 blk:w.heap[h]?=some (.cells #[sv,tv,mv,kv,.int .i64 0,.string ⟨#[]⟩,.slice none 0 0,.bool false] 69 (0,0))
 row:w.ownsRow B 72 6 mv ms.length (Ox ms vs)
 stk:w.ownsRow B 9 1 kv st.length (Bf st)
 lks:∀ i d,i<ms.length->(mx ms i).2=some d->Ar w B (vs i) d.ls
theorem Ar.same {w w':World} {B:Nat} {v:Value} {ls:List G3} (h:Ar w B v ls) (hk:∀(b:Nat) (cs:Array Value),w.heap[b]?=some (Obj.cells cs 45 (0,0))->w'.heap[b]?=some (Obj.cells cs 45 (0,0))):Ar w' B v ls:=by
 obtain⟨xs,h1,h2⟩:=h
 refine⟨xs,⟨h1.1,?_⟩,h2⟩
 rcases h1.2 with k|⟨g,cap,cur,e,hg,hh,r⟩
 ·exact Or.inl k
 ·exact Or.inr ⟨g,cap,cur,e,hg,hk _ _ hh,r⟩
theorem Ar.bl {w w':World} {B:Nat} {v:Value} {ls:List G3} (h:Ar w B v ls) (hb:Below w.heap.size w w'):Ar w' B v ls:=h.same fun b cs k=>by rw[hb.block b (Af k)];exact k
theorem Bh.bl {B h:Nat} {sv tv:Value} {w w':World} {ms:Ms} {st:List ByteArray} {mv kv:Value} {vs:Nat->Value} (s:Bh B h sv tv w ms st mv kv vs) (hb:Below w.heap.size w w'):Bh B h sv tv w' ms st mv kv vs:=
 ⟨s.hB,by rw[hb.block h (Af s.blk)];exact s.blk,Ac s.row hb,Ac s.stk hb,fun i d hi e=>(s.lks i d hi e).bl hb⟩
theorem Bh.cells {B h:Nat} {sv tv:Value} {w:World} {ms:Ms} {st:List ByteArray} {mv kv:Value} {vs:Nat->Value} (s:Bh B h sv tv w ms st mv kv vs):w.cell? ⟨h,0,none⟩=some sv/\w.cell? ⟨h,1,none⟩=some tv/\w.cell? ⟨h,2,none⟩=some mv/\w.cell? ⟨h,3,none⟩=some kv/\w.cell? ⟨h,7,none⟩=some (.bool false)/\∀ j,w.frozen? ⟨h,j,none⟩=false:=by
 refine⟨?_,?_,?_,?_,?_,fun j=>fH s.blk j⟩<;>rw[cH s.blk]<;>rfl
theorem Bh.at_ {B h:Nat} {sv tv:Value} {w:World} {ms:Ms} {st:List ByteArray} {mv kv:Value} {vs:Nat->Value} (s:Bh B h sv tv w ms st mv kv vs):∃ a cap,mv=.slice a ms.length cap/\∀ i,i<ms.length->∃ g,a=some ⟨g,0,none⟩/\∀ j,j<6->w.cell? ⟨g,i*6+j,none⟩=(Vz (mx ms i) (vs i))[j]?:=by
 have hr:=s.row
 rcases hr.2 with ⟨e,h0⟩|⟨g,cap,cur,rfl,_⟩
 ·exact⟨none,0,by rw[e,h0],fun i hi=>by omega⟩
 ·exact⟨some ⟨g,0,none⟩,cap,rfl,fun i hi=>⟨g,rfl,fun j hj=>by rw[hr.cellAt (i*6+j) (by omega),Ov ms vs i j hi hj]⟩⟩
theorem Su (B h:Nat) (sv tv:Value) (ms:Ms) (st:List ByteArray) (mv kv:Value) (vs:Nat->Value) (nm:ByteArray) (w:World) (s:Bh B h sv tv w ms st mv kv vs) (hl:ms.length<=1048576) :
  Calls Tryz.prog 22 #[.pointer (some ⟨h,0,none⟩),.string nm] w fun e w'=>w'=w/\((∃ i:Nat,e=.returned (.int .i64 i)/\i<ms.length/\(mx ms i).1=nm/\∀ j,j<i->(mx ms j).1≠nm)\/(e=.returned (.int .i64 (-1))/\∀ j,j<ms.length->(mx ms j).1≠nm)):=by
 obtain⟨_,_,c2,_⟩:=s.cells
 obtain⟨a,cap,rfl,hat⟩:=s.at_
 have HAT:Hd (∀ i,i<ms.length->∃ g,a=some ⟨g,0,none⟩/\∀ j,j<6->w.cell? ⟨g,i*6+j,none⟩=(Vz (mx ms i) (vs i))[j]?):=hat
 clear hat s
 go_enter Tryz.func22,Tryz.ntmps22
 go_wp2
 go_loop [5] (fun i=>∃ k:Nat,k<=ms.length/\i=.int .i64 k/\Hd (∀ j,j<k->(mx ms j).1≠nm)) (fun i=>ms.length-(intOf i).toNat)
 case atStart=>exact⟨0,Nat.zero_le _,rfl,(fun j hj=>by omega:∀ j,j<0->(mx ms j).1≠nm)⟩
 case round=>
  obtain⟨k,hk,rfl,HK⟩:=hrel
  by_cases hlt:k<ms.length
  ·have hkI:(k:Int)<(ms.length:Int):=by omega
   obtain⟨g,rfl,hc⟩:=HAT.o k hlt;have e0:=hc 0 (by omega)
   have e1:w.cell? ⟨g,k*6,none⟩=some (.string (mx ms k).1):=by
    rw[Nat.add_zero] at e0;rw[e0];unfold Vz
    split<;>rfl
   clear e0 hc;have HQ:Hd ((mx ms k).1=nm->∃ i:Nat,(Ending.returned (.int .i64 k):Ending)=.returned (.int .i64 i)/\i<ms.length/\(mx ms i).1=nm/\∀ j,j<i->(mx ms j).1≠nm):=fun q=>⟨k,rfl,hlt,q,HK.o⟩;have HN:Hd ((mx ms k).1≠nm->∀ j,j<k+1->(mx ms j).1≠nm):=fun q=>Dc HK.o q;generalize (mx ms k).1=x at e1 HQ HN
   by_cases q:x=nm
   ·have dq:=Eh q;have HO:Hd _:=HQ.o q;clear q HQ HN;go_wp2_with fail;go_ret;exact⟨rfl,Or.inl HO.o⟩
   ·have dq:=Es q;have HO:Hd (∀ j,j<k+1->(mx ms j).1≠nm):=HN.o q;clear q HQ HN;go_wp2_with fail
    go_round
    case rel=>exact⟨k+1,by omega,by go_num,HO.o⟩
    case measure=>simp[intOf];omega
  ·have hkI:¬ (k:Int)<(ms.length:Int):=by omega
   have HO:Hd (∀ j,j<ms.length->(mx ms j).1≠nm):=fun j hj=>HK.o j (by omega);go_wp2_with fail;go_ret;exact⟨rfl,Or.inr ⟨rfl,HO.o⟩⟩
open Classical in
noncomputable def Ii (ts:List T2) (ms:Ms):Nat:=((Eo ms).filter fun n=>decide (Fi (Ae ts) n)).length
theorem Ro (ts:List T2) (ms:Ms) (nm:ByteArray) (o:Option Md):Ii ts (ms++[(nm,o)])=Ii ts ms+(if @decide (Fi (Ae ts) nm) (Classical.propDecidable _)=true then 1 else 0):=by
 unfold Ii Eo
 rw[List.map_append,List.filter_append,List.length_append]
 by_cases h:Fi (Ae ts) nm<;>simp[h]
theorem tcount_set (ts:List T2) (ms:Ms) (nm:ByteArray) (d:Md):Ii ts (Fx ms nm d)=Ii ts ms:=by unfold Ii;rw[Mo]
theorem set_length (ms:Ms) (nm:ByteArray) (d:Md):(Fx ms nm d).length=ms.length:=by simp[Fx]
theorem Yj {α:Type} [DecidableEq α]:∀(l m:List α),l.Nodup->(∀ x∈l,x∈m)->l.length<=m.length
 | [],m,_,_=>Nat.zero_le _
 | a :: l,m,h,hs=>by
  have h':=List.nodup_cons.mp h;have h1:(m.filter fun x=>decide (x≠a)).length<m.length:=List.length_filter_lt_length_iff_exists.mpr ⟨a,hs a (by simp),by simp⟩
  have h2:=Yj l (m.filter fun x=>decide (x≠a)) h'.2 (fun x hx=>by
   rw[List.mem_filter];refine⟨hs x (by simp[hx]),?_⟩;have:x≠a:=fun e=>h'.1 (e▸hx);simp[this])
  simp only[List.length_cons];omega
theorem tcount_le {ts:List T2} {ms:Ms} (h:(Eo ms).Nodup):Ii ts ms<=ts.length:=by
 classical
 unfold Ii
 have h1:((Eo ms).filter fun n=>decide (Fi (Ae ts) n)).Nodup:=List.Pairwise.filter _ h
 have h2:∀ x∈(Eo ms).filter (fun n=>decide (Fi (Ae ts) n)),x∈Ae ts:=by
  intro x hx;simp at hx;obtain⟨j,hj,e⟩:=hx.2;unfold nx at e;rw[gG,gQ hj] at e;simp at e;rw[<- e];exact List.getElem_mem _
 have h3:=Yj _ _ h1 h2
 rw[Bj] at h3
 simpa using h3
noncomputable def phi (ts:List T2) (ms:Ms):Int:=(ms.length:Int)-200*(Ii ts ms:Int)
theorem Qa {ts:List T2} {ms:Ms} {nm:ByteArray} {o:Option Md}:phi ts (ms++[(nm,o)])<=phi ts ms+1:=by
 unfold phi
 rw[Ro,List.length_append,List.length_singleton]
 split<;>omega
theorem Ok {ts:List T2} {ms:Ms} {nm:ByteArray} {o:Option Md} (h:Fi (Ae ts) nm):phi ts (ms++[(nm,o)])=phi ts ms-199:=by
 unfold phi
 rw[Ro,List.length_append,List.length_singleton,if_pos (by simp[h])]
 omega
theorem phi_set (ts:List T2) (ms:Ms) (nm:ByteArray) (d:Md):phi ts (Fx ms nm d)=phi ts ms:=by unfold phi;rw[tcount_set,set_length]
theorem Ol {ss:List S2} {ts:List T2} {ms:Ms} {st:List ByteArray} (h:Ja ss ts ms st) (hl:ts.length<=200) (hp:phi ts ms<=1):ms.length<=40001:=by
 have:=tcount_le (ts:=ts) h.nd
 unfold phi at hp
 omega
theorem Av.phi_le {ss:List S2} {ts:List T2} (hv:SpV ss ts) {ms:Ms} {st:List ByteArray} {j:Job} {ms':Ms} {a:Um} (h:Av ss ts ms st j ms' a):JobOk j->Ja ss ts ms st->(match j with|.run is ys ls=>ys.length<=200|_=>True)->phi ts ms'<=phi ts ms+(match j with|.make _=>1|.run _ ys _=>200-(ys.length:Int)):=by
 induction h with
 | known=>intro _ _ _;simp only;omega
 | circle=>intro _ _ _;simp only;omega
 | source=>intro _ _ _;exact Qa
 | missing=>intro _ _ _;exact Qa
 | deep=>intro _ _ _;exact Qa
 | made h1 h2 h3 h4 h5 _ ih=>
  intro hj hi _;have hth:=h4▸Dv h3;have:=ih ⟨hv.pr _ h3,fun i hi=>by simp at hi,rfl⟩ (hi.push h1 hth) (by simp);rw[Ok hth] at this;rw[phi_set];simp only[List.length_nil] at this ⊢;omega
 | fell h1 h2 h3 h4 h5 _ _ ih=>
  intro hj hi _;have hth:=h4▸Dv h3;have:=ih ⟨hv.pr _ h3,fun i hi=>by simp at hi,rfl⟩ (hi.push h1 hth) (by simp);rw[Ok hth] at this;simp only[List.length_nil] at this ⊢;omega
 | over=>intro _ _ hl;simp only at hl ⊢;omega
 | has h1 _ ih=>
  intro hj hi hl;obtain⟨k1,k2⟩:=hj.wait h1;have:=ih (hj.has _ _) hi (by simp;omega);simp only[List.length_append,List.length_singleton] at this ⊢;omega
 | asked h1 hm _ ih1 ih2=>
  intro hj hi hl;obtain⟨k1,k2⟩:=hj.wait h1;have e1:=ih1 k2 hi trivial;obtain⟨i1,_,i3⟩:=hm.inv hv hi k2 trivial _ rfl;have e2:=ih2 (hj.asked (i1.done _ _ i3) _) i1 (by simp;omega);simp only[List.length_append,List.length_singleton] at e1 e2 ⊢;omega
 | askfell h1 _ _ ih=>
  intro hj hi hl;obtain⟨k1,k2⟩:=hj.wait h1;have e1:=ih k2 hi trivial;simp only at e1 ⊢;omega
theorem Dl {w:World} {b b':Nat} (h:b'≠b) (v0 v1 v2 v3 v4 v5:Value):((((((w.setCell ⟨b,0,none⟩ v0).setCell ⟨b,1,none⟩ v1).setCell ⟨b,2,none⟩ v2).setCell ⟨b,3,none⟩ v3).setCell ⟨b,4,none⟩ v4).setCell ⟨b,5,none⟩ v5).heap[b']?=w.heap[b']?:=by
 rw[hC _ ⟨b,5,none⟩ _ b' h,hC _ ⟨b,4,none⟩ _ b' h,hC _ ⟨b,3,none⟩ _ b' h,hC _ ⟨b,2,none⟩ _ b' h,hC _ ⟨b,1,none⟩ _ b' h,hC _ ⟨b,0,none⟩ _ b' h]
theorem Dg {B:Nat} {w w':World} (hb:Below B w w') {b:Nat} (h:B<=b) (v0 v1 v2 v3 v4 v5:Value):Below B w ((((((w'.setCell ⟨b,0,none⟩ v0).setCell ⟨b,1,none⟩ v1).setCell ⟨b,2,none⟩ v2).setCell ⟨b,3,none⟩ v3).setCell ⟨b,4,none⟩ v4).setCell ⟨b,5,none⟩ v5):=
 (((((hb.setCell (p:=⟨b,0,none⟩) h _).setCell (p:=⟨b,1,none⟩) h _).setCell (p:=⟨b,2,none⟩) h _).setCell (p:=⟨b,3,none⟩) h _).setCell (p:=⟨b,4,none⟩) h _).setCell (p:=⟨b,5,none⟩) h _
theorem Ei {w:World} {b:Nat} {v0 v1 v2 v3 v4 v5:Value} (h:w.heap[b]?=some (.cells #[v0,v1,v2,v3,v4,v5] 115 (0,0))):w.cell? ⟨b,0,none⟩=some v0/\w.cell? ⟨b,1,none⟩=some v1/\w.cell? ⟨b,2,none⟩=some v2/\w.cell? ⟨b,3,none⟩=some v3/\w.cell? ⟨b,4,none⟩=some v4/\w.cell? ⟨b,5,none⟩=some v5/\∀ j,w.frozen? ⟨b,j,none⟩=false:=by
 refine⟨?_,?_,?_,?_,?_,?_,fun j=>fH h j⟩<;>rw[cH h]<;>rfl
theorem Ld.two {w:World} (h:Ld w):1<w.heap.size:=by
 unfold Ld Lib.TabIs World.var? at h
 rw[show Tryz.prog.globalNamed "internal/strconv.uint64pow10"=some 1 from by kernel_rfl] at h
 simp only[Option.bind_some] at h
 rcases Nat.lt_or_ge 1 w.heap.size with h'|h'
 ·exact h'
 ·rw[Array.getElem?_eq_none h'] at h;cases h
def Gn (is:List I3) (ys:List R3) (B m T:Nat) (cd:Value) (ov:Bool) (c:Int) (t:ByteArray) (ask:Bool) (nm:ByteArray) (st:Int) (w:World):Prop:=
 w.heap[T]?=some (.cells #[.bool ov,.int .i64 c,.string t,.bool ask,.string nm,.int .i64 st] 115 (0,0))/\T≠m/\B<=T/\m<w.heap.size/\VAt is ys B m cd ov c t ask nm st w
theorem Gn.bl {is:List I3} {ys:List R3} {B m T:Nat} {cd:Value} {ov:Bool} {c:Int} {t:ByteArray} {ask:Bool} {nm:ByteArray} {st:Int} {w w':World} (h:Gn is ys B m T cd ov c t ask nm st w) (hb:Below w.heap.size w w'):Gn is ys B m T cd ov c t ask nm st w':=
 ⟨by rw[hb.block _ (Af h.1)];exact h.1,h.2.1,h.2.2.1,Nat.lt_of_lt_of_le h.2.2.2.1 hb.size,h.2.2.2.2.mono (fun _ _ _ _ k=>k.bl hb)⟩
theorem Vh (a:Option Addr) (cap:Nat) (is:List I3) (w:World) (hT:Jr w) (hP:Ld w) (hc:Dr w a is) (hv:Ah is=true) :
  Calls Tryz.prog 57 #[.agg #[.slice a is.length cap]] w fun e w'=>Below w.heap.size w w'/\∃ B m T ov c t ask nm st,w.heap.size<=B/\B<=w'.heap.size/\e=.returned (.tuple #[Ao ov c t ask nm st,.func (.func 89) #[] #[.pointer (some ⟨m,0,none⟩),.pointer (some ⟨T,0,none⟩)]])/\Gn is [] B m T (.slice a is.length cap) ov c t ask nm st w':=by
 have hP2:=hP.two
 obtain⟨W,eW⟩:∃ W,((w.alloc (.cells #[.slice a is.length cap] 37)).alloc (.cells #[.bool false,.int .i64 0,.string ⟨#[]⟩,.bool false,.string ⟨#[]⟩,.int .i64 0] 115))=W:=⟨_,rfl⟩
 have hb0:Below w.heap.size w W:=by rw[<- eW];exact(aN _ _).alloc (by simp) _
 have hWs:W.heap.size=w.heap.size+1+1:=by rw[<- eW];simp
 have x0:W.cell? ⟨w.heap.size,0,none⟩=some (.slice a is.length cap):=by rw[<- eW];simp[go_sem]
 have HR:Hd (W.heap[w.heap.size+1]?=some (.cells #[.bool false,.int .i64 0,.string ⟨#[]⟩,.bool false,.string ⟨#[]⟩,.int .i64 0] 115 (0,0))):=by
  show W.heap[w.heap.size+1]?=_;rw[<- eW];have h:=Aj (w.alloc (.cells #[.slice a is.length cap] 37)) (.cells #[.bool false,.int .i64 0,.string ⟨#[]⟩,.bool false,.string ⟨#[]⟩,.int .i64 0] 115);rw[show (w.alloc (.cells #[.slice a is.length cap] 37)).heap.size=w.heap.size+1 from by simp] at h;exact h
 have hbm:Below W.heap.size W (W.alloc (.cells #[.slice none 0 0,.slice a is.length cap,.int .i64 0,.int .i64 0,.int .i64 0] 157)):=aN _ _
 have HMK:Hd (Bx W.heap.size (W.alloc (.cells #[.slice none 0 0,.slice a is.length cap,.int .i64 0,.int .i64 0,.int .i64 0] 157)) W.heap.size Gc.stack (.slice a is.length cap) Gc.pl Gc.steps Gc.looks):=⟨Nat.le_refl _,.slice none 0 0,Aj _ _,⟨by simp[Gc,Bf],Or.inl ⟨rfl,rfl⟩⟩⟩
 have HCB:Hd (Ni W.heap.size W a is):=⟨hc.bl hb0,fun b off e=>by
  have:=(Ed hv).1;obtain⟨b',off',e',c1,_,_⟩:=hc.bl hb0 0 (by omega);rw[e] at e';cases e';exact World.block_lt_of_cell? _ _ c1⟩
 have HT2:Hd (Jr W):=hT.bl hb0
 have HP2:Hd (Ld W):=hP.bl hb0
 have HBM:Hd (Below W.heap.size W (W.alloc (.cells #[.slice none 0 0,.slice a is.length cap,.int .i64 0,.int .i64 0,.int .i64 0] 157))):=hbm
 have HV:Hd (Ah is=true):=hv
 have HB0:Hd (Below w.heap.size w W):=hb0
 have HWS:Hd (W.heap.size=w.heap.size+1+1):=hWs
 clear hT hP hc hv hbm hb0 hWs
 go_enter Tryz.func57,Tryz.ntmps57
 go_wp2_with fail
 clear eW
 refine(Vw W.heap.size W.heap.size is a cap Gc _ HMK.o (by simp) (by have:=HWS.o;omega) (HCB.o.belowB HBM.o) (HT2.o.bl HBM.o) (HP2.o.bl HBM.o) HV.o (Px is)).mono ?_
 rintro e w3 ⟨hk3,hpost⟩
 obtain⟨ov,c,t,ask,nm,st,rfl,hat⟩:=run_vat HV.o hpost
 have hz3:W.heap.size+1<=w3.heap.size:=by have:=hk3.size;simpa using this
 have HB3:Hd (Below W.heap.size W w3):=HBM.o.trans hk3.bl
 have HAT:Hd (VAt is [] W.heap.size W.heap.size (.slice a is.length cap) ov c t ask nm st (w3.alloc (.cells #[.bool ov,.int .i64 c,.string t,.bool ask,.string nm,.int .i64 st] 115))):=hat.mono (fun _ _ _ _ k=>k.alloc _)
 have HR4:Hd ((w3.alloc (.cells #[.bool ov,.int .i64 c,.string t,.bool ask,.string nm,.int .i64 st] 115)).heap[w.heap.size+1]?=some (.cells #[.bool false,.int .i64 0,.string ⟨#[]⟩,.bool false,.string ⟨#[]⟩,.int .i64 0] 115 (0,0))):=by
  show (w3.alloc (.cells #[.bool ov,.int .i64 c,.string t,.bool ask,.string nm,.int .i64 st] 115)).heap[w.heap.size+1]?=_;have:=HWS.o;rw[Lib.alloc_old w3 _ _ (by omega),HB3.o.block _ (by omega)];exact HR.o
 have HTN:Hd ((w3.alloc (.cells #[.bool ov,.int .i64 c,.string t,.bool ask,.string nm,.int .i64 st] 115)).heap[w3.heap.size]?=some (.cells #[.bool ov,.int .i64 c,.string t,.bool ask,.string nm,.int .i64 st] 115 (0,0))):=Aj _ _
 have HB4:Hd (Below W.heap.size W (w3.alloc (.cells #[.bool ov,.int .i64 c,.string t,.bool ask,.string nm,.int .i64 st] 115))):=HB3.o.alloc (by omega) _
 obtain⟨z0,z1,z2,z3,z4,z5,zf⟩:=Ei HR4.o
 clear hat hpost hk3 x0 HR
 unfold Ao
 go_wp2_with fail
 obtain⟨n1,n2⟩:=Rq rfl HR4.o (.bool ov) (.int .i64 c) (.string t) (.bool ask) (.string nm) (.int .i64 st)
 obtain⟨y0,y1,y2,y3,y4,y5,yf⟩:=Ei n1
 refine bR (v:=.tuple #[Ao ov c t ask nm st,.func (.func 89) #[] #[.pointer (some ⟨W.heap.size,0,none⟩),.pointer (some ⟨w3.heap.size,0,none⟩)]]) (by simp[results,Tryz.results57,go_sem,Ao,z0,z1,z2,z3,z4,z5]) rfl ⟨Dg (HB0.o.trans (HB4.o.mono (by have:=HWS.o;omega))) (by omega) _ _ _ _ _ _,W.heap.size,W.heap.size,w3.heap.size,ov,c,t,ask,nm,st,by have:=HWS.o;omega,by simp;omega,rfl,?_,by omega,by omega,by simp;omega,?_⟩
 ·rw[Dl (by have:=HWS.o;omega)];exact HTN.o
 ·exact HAT.o.mono (fun ss pl st' lk k=>n2 _ _ _ _ _ _ _ k)
theorem Fc.congr {w w':World} {m b:Nat} (h:w'.heap[m]?=w.heap[m]?) (k:Fc w m b):Fc w' m b:=fun v hv=>k v (by
 have e:w'.cell? ⟨m,0,none⟩=w.cell? ⟨m,0,none⟩:=by simp only[World.cell?,h]
 rw[<- e];exact hv)
theorem Zm (B m T:Nat) (is:List I3) (a:Option Addr) (cap:Nat) (ys:List R3) (ask:Bool) (nm:ByteArray) (st:Int) (y y':R3) (w:World) (hG:Gn is ys B m T (.slice a is.length cap) false 0 ⟨#[]⟩ ask nm st w) (hB:B<=w.heap.size) (hB1:1<B) (hcode:Ni B w a is) (hT:Jr w) (hP:Ld w) (hv:Ah is=true) (hy:y.text.size<=2000) (hyy:∀ nm s,Dy ask nm y s=Dy ask nm y' s) :
  Calls Tryz.prog 89 #[.agg #[.bool y.has,.int .i64 y.code,.string y.text],.pointer (some ⟨m,0,none⟩),.pointer (some ⟨T,0,none⟩)] w fun e w'=>(Below B w w'/\∀ b cs X,X≠9->b≠m->b≠T->w.heap[b]?=some (.cells cs X (0,0))->w'.heap[b]?=some (.cells cs X (0,0)))/\(∀ b cs X,b≠m->b≠T->Fc w m b->w.heap[b]?=some (.cells cs X (0,0))->w'.heap[b]?=some (.cells cs X (0,0))/\Fc w' m b)/\∃ ov c t ask' nm' st',e=.returned (Ao ov c t ask' nm' st')/\Gn is (ys++[y']) B m T (.slice a is.length cap) ov c t ask' nm' st' w':=by
 obtain⟨hTb,hTm,hBT,hml,hV⟩:=hG
 rcases hV with ⟨h0,_⟩|⟨_,_,_,s1,s',rfl,g1,g2,g3,g4,g5⟩
 ·cases h0
 obtain⟨q1,q2,q3,q4,q5,q6,q7,q8⟩:=Gm g1
 have h50:s'.stack.length<50:=by rw[q7,Bi];have:=g3.len;omega
 have hTl:=Af hTb
 obtain⟨W,eW⟩:∃ W,((w.alloc (.cells #[.bool y.has,.int .i64 y.code,.string y.text] 122)).alloc (.cells #[.bool false,.int .i64 0,.string ⟨#[]⟩,.bool false,.string ⟨#[]⟩,.int .i64 0] 115))=W:=⟨_,rfl⟩
 have hb0:Below w.heap.size w W:=by rw[<- eW];exact(aN _ _).alloc (by simp) _
 have hWs:W.heap.size=w.heap.size+1+1:=by rw[<- eW];simp
 have x0:W.cell? ⟨w.heap.size,0,none⟩=some (.bool y.has):=by rw[<- eW];simp[go_sem]
 have x1:W.cell? ⟨w.heap.size,1,none⟩=some (.int .i64 y.code):=by rw[<- eW];simp[go_sem]
 have x2:W.cell? ⟨w.heap.size,2,none⟩=some (.string y.text):=by rw[<- eW];simp[go_sem]
 have HR:Hd (W.heap[w.heap.size+1]?=some (.cells #[.bool false,.int .i64 0,.string ⟨#[]⟩,.bool false,.string ⟨#[]⟩,.int .i64 0] 115 (0,0))):=by
  show W.heap[w.heap.size+1]?=_;rw[<- eW];have h:=Aj (w.alloc (.cells #[.bool y.has,.int .i64 y.code,.string y.text] 122)) (.cells #[.bool false,.int .i64 0,.string ⟨#[]⟩,.bool false,.string ⟨#[]⟩,.int .i64 0] 115);rw[show (w.alloc (.cells #[.bool y.has,.int .i64 y.code,.string y.text] 122)).heap.size=w.heap.size+1 from by simp] at h;exact h
 have HTW:Hd (W.heap[T]?=some (.cells #[.bool false,.int .i64 0,.string ⟨#[]⟩,.bool ask,.string nm,.int .i64 s'.steps] 115 (0,0))):=by
  show W.heap[T]?=_;rw[hb0.block _ hTl];exact hTb
 have HKB:Hd (KB B m w W):=KB.old hb0 hB
 have HAn:Hd (∀ _:Unit,Calls Tryz.prog 90 #[.pointer (some ⟨m,0,none⟩),Ao false 0 ⟨#[]⟩ ask nm s'.steps,.agg #[.bool y.has,.int .i64 y.code,.string y.text]] W fun e w'=>AnsPost is ask nm y s' B m (.slice a is.length cap) W e w'):=fun _=>
  answer_any B m is a cap ask nm y s' W (g5.bl hb0) (by omega) hB1 (hcode.belowB (hb0.mono hB)) (hT.bl hb0) (hP.bl hb0) hv g4 (by omega) h50 hy
 have HG:Hd (Bk is s1=.look ask nm s'/\RQ is ys s1/\Ec is s1/\Ec is s'/\Dy ask nm y s'=Dy ask nm y' s'):=⟨g1,g2,g3,g4,hyy nm s'⟩
 have HV:Hd (Ah is=true):=hv
 have HWS:Hd (W.heap.size=w.heap.size+1+1):=hWs
 have HML0:Hd (m<w.heap.size):=hml
 have HIN:Hd (B<=T/\T≠m/\T<w.heap.size/\B<=w.heap.size):=⟨hBT,hTm,hTl,hB⟩
 obtain⟨k0,k1,k2,k3,k4,k5,kf⟩:=Ei HTW.o
 obtain⟨_,_,_,_,_,_,_,_,hmw,_,_⟩:=g5.all
 clear g1 g2 g3 g4 g5 hcode hT hP hv hb0 hTb q1 q2 q3 q4 q5 q6 q7 q8 h50 hWs
 unfold Ao at HAn
 go_enter Tryz.func89,Tryz.ntmps89
 go_wp2_with fail
 clear eW
 refine(HAn.o ()).mono ?_
 rintro e w4 ⟨hk4,hpost⟩
 obtain⟨ov',c',t',ask',nm',st',rfl,hnext⟩:=ans_vat HV.o HG.o.1 HG.o.2.1 hy HG.o.2.2.2.2 HG.o.2.2.1 HG.o.2.2.2.1 hpost
 have hT4:w4.heap[T]?=some (.cells #[.bool false,.int .i64 0,.string ⟨#[]⟩,.bool ask,.string nm,.int .i64 s'.steps] 115 (0,0)):=hk4.keep _ _ 115 (by decide) HIN.o.2.1 HTW.o
 have hR4:w4.heap[w.heap.size+1]?=some (.cells #[.bool false,.int .i64 0,.string ⟨#[]⟩,.bool false,.string ⟨#[]⟩,.int .i64 0] 115 (0,0)):=hk4.keep _ _ 115 (by decide) (by omega) HR.o
 obtain⟨n1,n2⟩:=Rq rfl hT4 (.bool ov') (.int .i64 c') (.string t') (.bool ask') (.string nm') (.int .i64 st')
 have hTR:T≠w.heap.size+1:=by have:=HIN.o.2.2.1;omega
 have hTR':w.heap.size+1≠T:=fun e=>hTR e.symm
 have hR5:=(Dl (w:=w4) (b:=T) (b':=w.heap.size+1) (fun e=>hTR e.symm) (.bool ov') (.int .i64 c') (.string t') (.bool ask') (.string nm') (.int .i64 st')).trans hR4
 obtain⟨r1,r2⟩:=Rq rfl hR5 (.bool ov') (.int .i64 c') (.string t') (.bool ask') (.string nm') (.int .i64 st')
 have HKB2:Hd (KB B m w w4):=HKB.o.trans hk4
 have HML:Hd (m<((((((((((((w4.setCell ⟨T,0,none⟩ (.bool ov')).setCell ⟨T,1,none⟩ (.int .i64 c')).setCell ⟨T,2,none⟩ (.string t')).setCell ⟨T,3,none⟩ (.bool ask')).setCell ⟨T,4,none⟩ (.string nm')).setCell ⟨T,5,none⟩ (.int .i64 st')).setCell ⟨w.heap.size+1,0,none⟩ (.bool ov')).setCell ⟨w.heap.size+1,1,none⟩ (.int .i64 c')).setCell ⟨w.heap.size+1,2,none⟩ (.string t')).setCell ⟨w.heap.size+1,3,none⟩ (.bool ask')).setCell ⟨w.heap.size+1,4,none⟩ (.string nm')).setCell ⟨w.heap.size+1,5,none⟩ (.int .i64 st')).heap.size):=Nat.lt_of_lt_of_le hmw (Dg (Dg HKB2.o.bl HIN.o.1 _ _ _ _ _ _) (b:=w.heap.size+1) (by have:=HIN.o.2.2.2;omega) _ _ _ _ _ _).size
 have HNX:Hd (VAt is (ys++[y']) B m (.slice a is.length cap) ov' c' t' ask' nm' st' w4):=hnext
 obtain⟨j0,j1,j2,j3,j4,j5,jf⟩:=Ei hT4
 obtain⟨z0,z1,z2,z3,z4,z5,zf⟩:=Ei hR4
 have HN1:Hd _:=n1
 have HN2:Hd _:=n2
 have HR2:Hd _:=r2
 clear k0 k1 k2 k3 k4 k5 kf hk4 hpost hnext HAn n1 n2 r1 r2 hR5 x0 x1 x2
 unfold Ao
 go_wp2_with fail
 refine bR (v:=Ao ov' c' t' ask' nm' st') (by simp[results,Tryz.results89,go_sem,Ao,z0,z1,z2,z3,z4,z5]) rfl ⟨⟨Dg (Dg HKB2.o.bl HIN.o.1 _ _ _ _ _ _) (by have:=HIN.o.2.2.2;omega) _ _ _ _ _ _,?_⟩,?_,ov',c',t',ask',nm',st',rfl,?_,HIN.o.2.1,HIN.o.1,HML.o,?_⟩
 ·intro b cs X hX hbm hbT hb;have hbl:=Af hb;rw[Dl (by omega),Dl hbT];exact HKB2.o.keep b cs X hX hbm hb
 ·intro b cs X hbm hbT hno hb;have hbl:=Af hb;have hml':=HML0.o;obtain⟨q1,q2⟩:=HKB2.o.own hml' b cs X hbm hno hb;refine⟨?_,Fc.congr ?_ q2⟩
  ·rw[Dl (by omega),Dl hbT];exact q1
  ·rw[Dl (by omega),Dl (fun e=>HIN.o.2.1 e.symm)]
 ·rw[Dl hTR];exact HN1.o
 ·exact HNX.o.mono (fun ss pl st' lk k=>HR2.o _ _ _ _ _ _ _ (HN2.o _ _ _ _ _ _ _ k))
end Go.Proofs.YtjlnkepkkdefdaaGreatDoor
