import Derived.Test.YtjlnkepkkdefdaaGreatDoorTValid
import Derived.Test.YtjlnkepkkdefdaaGreatDoorTNPiece
import Derived.Deep.AppendLies
import Derived.Deep.RegionHeld
namespace Go.Proofs.YtjlnkepkkdefdaaGreatDoor
open Go.RowKit
set_option linter.unusedVariables false
set_option maxHeartbeats 8000000
set_option maxRecDepth 100000
set_option linter.unusedSimpArgs false
structure R3 where
 has:Bool
 code:Int
 text:ByteArray
def rr0:R3:=⟨false,0,ByteArray.empty⟩
def rx (is:List R3) (i:Nat):R3:=is.getD i rr0
def Nx (w:World) (a:Option Addr) (is:List R3):Prop:=
 ∀ i,i<is.length->∃ b off,a=some ⟨b,off,none⟩/\w.cell? ⟨b,off+i*3,none⟩=some (.bool (rx is i).has)/\w.cell? ⟨b,off+i*3+1,none⟩=some (.int .i64 (rx is i).code)/\w.cell? ⟨b,off+i*3+2,none⟩=some (.string (rx is i).text)
theorem Nx.bl {w w':World} {a:Option Addr} {is:List R3} (h:Nx w a is) (hb:Below w.heap.size w w'):Nx w' a is:=by
 intro i hi
 obtain⟨b,off,ha,h1,h2,h3⟩:=h i hi
 exact⟨b,off,ha,Ab hb h1,Ab hb h2,Ab hb h3⟩
theorem Tryz.info122:(Tryz.prog.info? 122).map (fun i=>(i.zero,i.size,i.bytes))=some (some (.agg #[.bool false,.int .i64 0,.string ByteArray.empty]),3,32):=by kernel_rfl
def Fg (r:R3):Bool:=decide (r.text.size<=2000) && decide (0<=r.code) && decide (r.code<=7)
def Lv (rs:List R3):Bool:=decide (rs.length<=200) && decide (∀ i,i<rs.length->Fg (rx rs i)=true)
structure St where
 pl:Nat
 stack:List ByteArray
 steps:Nat
 looks:Nat
inductive Out where
 | go (s:St)
 | over (c:Int) (t:ByteArray) (n:Nat)
 | look (ask:Bool) (nm:ByteArray) (s:St)
def Dx (n:Nat):ByteArray:=⟨(Lib.decDigits n).toArray⟩
def Lc (a:ByteArray):Bool:=a.toList.isEmpty || a.toList == [48]
def Cl (o:Nat) (t:ByteArray) (n:Nat) (a b:ByteArray):List ByteArray:=
 match o with
 | 1=>[t]
 | 2=>[b++a]
 | 3=>[a.extract 0 (min n a.size)]
 | 4=>[a.extract (min n a.size) a.size]
 | 5=>[Kd a n]
 | 6=>[Cw (b.toList == a.toList)]
 | 7=>[a,a]
 | 8=>[a,b]
 | _=>[]
def Eu (o n pl:Nat) (a:ByteArray):Nat:=if o=10 then n else if o=11/\Lc a=true then n else pl+1
def An (o:Nat):Nat:=(Fo.getD o 0).toNat
def Bq (l:List ByteArray):ByteArray:=l.getD (l.length-1) ByteArray.empty
def Ij (l:List ByteArray):ByteArray:=l.getD (l.length-2) ByteArray.empty
def Be (l:List ByteArray) (k:Nat):List ByteArray:=l.take (l.length-k)
open Classical in
noncomputable def Iu (i:I3) (s:St):Out:=
 let o:=i.op.toNat
 let n:=i.n.toNat
 let a:=Bq s.stack
 let b:=Ij s.stack
 let r:=Be s.stack (An o)
 if s.stack.length<An o then .over 2 (Dx s.pl) (s.steps+1)
 else if o=15 then .over 0 a (s.steps+1)
 else if o=14 then .over 1 a (s.steps+1)
 else if o=12\/o=13 then
  (if ¬ Aq a then .over 2 (Dx s.pl) (s.steps+1)
   else if s.looks=200 then .over 3 ⟨#[]⟩ (s.steps+1)
   else .look (o == 12) a ⟨s.pl,r,s.steps+1,s.looks+1⟩)
 else if 50<r.length+(Cl o i.text n a b).length\/∃ x∈Cl o i.text n a b,2000<x.size then .over 2 (Dx s.pl) (s.steps+1)
 else .go ⟨Eu o n s.pl a,r++Cl o i.text n a b,s.steps+1,s.looks⟩
noncomputable def Bk (is:List I3) (s:St):Out:=
 if is.length<=s.pl then .over 2 (Dx s.pl) s.steps
 else if s.steps=2000 then .over 3 ⟨#[]⟩ s.steps
 else Iu (ix is s.pl) s
structure Ec (is:List I3) (s:St):Prop where
 pl:s.pl<=200
 len:s.stack.length<=50
 size:∀ x∈s.stack,x.size<=2000
 steps:s.steps<=2000
 looks:s.looks<=200
inductive My (is:List I3):St->Out->Prop
 | over {s c t n}:Bk is s=.over c t n->My is s (.over c t n)
 | look {s ask nm s'}:Bk is s=.look ask nm s'->My is s (.look ask nm s')
 | go {s s' o}:Bk is s=.go s'->My is s' o->My is s o
def Dy (ask:Bool) (nm:ByteArray) (y:R3) (s:St):Out:=
 if ask=false then .go ⟨s.pl+1,s.stack++[Cw y.has],s.steps,s.looks⟩
 else if y.has=false then .over 4 nm s.steps
 else if y.code≠0 then .over 5 nm s.steps
 else .go ⟨s.pl+1,s.stack++[y.text],s.steps,s.looks⟩
inductive Res where
 | over (c:Int) (t:ByteArray) (n:Nat)
 | wait (ask:Bool) (nm:ByteArray) (n:Nat)
inductive Az (is:List I3) (ys:List R3):St->Res->Prop
 | over {s c t n}:Bk is s=.over c t n->Az is ys s (.over c t n)
 | go {s s' r}:Bk is s=.go s'->Az is ys s' r->Az is ys s r
 | wait {s ask nm s'}:Bk is s=.look ask nm s'->ys.length<=s.looks->Az is ys s (.wait ask nm s'.steps)
 | ans {s ask nm s' s'' r}:Bk is s=.look ask nm s'->s.looks<ys.length->Dy ask nm (rx ys s.looks) s'=.go s''->Az is ys s'' r->Az is ys s r
 | end {s ask nm s' c t n}:Bk is s=.look ask nm s'->s.looks<ys.length->Dy ask nm (rx ys s.looks) s'=.over c t n->Az is ys s (.over c t n)
theorem Az.unique {is:List I3} {ys:List R3} {s:St} {o o':Res} (h:Az is ys s o) (h':Az is ys s o'):o=o':=by
 induction h with
 | over h1=>cases h' with
  | over h2=>rw[h1] at h2;cases h2;rfl
  | go h2 _=>rw[h1] at h2;cases h2
  | wait h2 _=>rw[h1] at h2;cases h2
  | ans h2 _ _ _=>rw[h1] at h2;cases h2
  | «end» h2 _ _=>rw[h1] at h2;cases h2
 | go h1 _ ih=>cases h' with
  | over h2=>rw[h1] at h2;cases h2
  | go h2 h3=>rw[h1] at h2;cases h2;exact ih h3
  | wait h2 _=>rw[h1] at h2;cases h2
  | ans h2 _ _ _=>rw[h1] at h2;cases h2
  | «end» h2 _ _=>rw[h1] at h2;cases h2
 | wait h1 k1=>cases h' with
  | over h2=>rw[h1] at h2;cases h2
  | go h2 h3=>rw[h1] at h2;cases h2
  | wait h2 _=>rw[h1] at h2;cases h2;rfl
  | ans h2 k2 _ _=>omega
  | «end» h2 k2 _=>omega
 | ans h1 k1 a1 _ ih=>cases h' with
  | over h2=>rw[h1] at h2;cases h2
  | go h2 h3=>rw[h1] at h2;cases h2
  | wait h2 k2=>omega
  | ans h2 k2 a2 h3=>rw[h1] at h2;cases h2;rw[a1] at a2;cases a2;exact ih h3
  | «end» h2 k2 a2=>rw[h1] at h2;cases h2;rw[a1] at a2;cases a2
 | «end» h1 k1 a1=>cases h' with
  | over h2=>rw[h1] at h2;cases h2
  | go h2 h3=>rw[h1] at h2;cases h2
  | wait h2 k2=>omega
  | ans h2 k2 a2 h3=>rw[h1] at h2;cases h2;rw[a1] at a2;cases a2
  | «end» h2 k2 a2=>rw[h1] at h2;cases h2;rw[a1] at a2;cases a2;rfl
theorem Gm {is:List I3} {s s':St} {ask:Bool} {nm:ByteArray} (h:Bk is s=.look ask nm s'):s'.looks=s.looks+1/\s'.pl=s.pl/\s'.steps=s.steps+1/\s.looks≠200/\s.pl<is.length/\1<=s.stack.length/\s'.stack=Be s.stack 1/\nm=Bq s.stack:=by
 unfold Bk at h
 split at h
 ·cases h
 ·split at h
  ·cases h
  ·rename_i h1 h2
   simp only[Iu] at h
   split at h
   ·cases h
   ·split at h
    ·cases h
    ·split at h
     ·cases h
     ·split at h
      ·rename_i h3 h4 h5 h6
       split at h
       ·cases h
       ·split at h
        ·cases h
        ·rename_i h7 h8
         cases h;(have ht:An (ix is s.pl).op.toNat=1:=by rcases h6 with h6|h6<;>rw[h6]<;>rfl);rw[ht] at h3 ⊢;exact⟨rfl,rfl,rfl,h8,by omega,by omega,rfl,rfl⟩
      ·split at h
       ·cases h
       ·cases h
theorem Af {w:World} {b:Nat} {o:Obj} (h:w.heap[b]?=some o):b<w.heap.size:=by
 rcases Nat.lt_or_ge b w.heap.size with h'|h'
 ·exact h'
 ·rw[Array.getElem?_eq_none h'] at h;cases h
theorem Nt {w w':World} {b:Nat} {o:Obj} (hb:Below w.heap.size w w') (h:w.heap[b]?=some o):w'.heap[b]?=some o:=by
 rw[hb.block _ (Af h)];exact h
abbrev zR:Obj:=.cells #[.int .i64 0,.slice none 0 0,.int .i64 0,.int .i64 0,.bool false,.int .i64 0,.string ⟨#[]⟩,.bool false,.string ⟨#[]⟩,.bool false] 193 (0,0)
theorem b10 {B b:Nat} {w w':World} (h:Below B w w') (hb:B<=b) {v0 v1 v2 v3 v4 v5 v6 v7 v8 v9:Value}:Below B w (((((((((((w').setCell ⟨b,0,none⟩ v0).setCell ⟨b,1,none⟩ v1).setCell ⟨b,2,none⟩ v2).setCell ⟨b,3,none⟩ v3).setCell ⟨b,4,none⟩ v4).setCell ⟨b,5,none⟩ v5).setCell ⟨b,6,none⟩ v6).setCell ⟨b,7,none⟩ v7).setCell ⟨b,8,none⟩ v8).setCell ⟨b,9,none⟩ v9):=((((((((((h).setCell (p:=⟨b,0,none⟩) hb _).setCell (p:=⟨b,1,none⟩) hb _).setCell (p:=⟨b,2,none⟩) hb _).setCell (p:=⟨b,3,none⟩) hb _).setCell (p:=⟨b,4,none⟩) hb _).setCell (p:=⟨b,5,none⟩) hb _).setCell (p:=⟨b,6,none⟩) hb _).setCell (p:=⟨b,7,none⟩) hb _).setCell (p:=⟨b,8,none⟩) hb _).setCell (p:=⟨b,9,none⟩) hb _
theorem gA {α:Type} {l:List α} {i:Nat}:l.toArray[i]?=l[i]?:=List.getElem?_toArray
theorem gB {α:Type} {a:α} {l:List α}:(a :: l)[0]?=some a:=List.getElem?_cons_zero
theorem gC {α:Type} {a:α} {l:List α} {i:Nat}:(a :: l)[i+1]?=l[i]?:=List.getElem?_cons_succ
theorem gD {α:Type} {l:List α} {i:Nat} {a:α}:l.toArray.setIfInBounds i a=(l.set i a).toArray:=by simp
theorem gE {α:Type} {a b:α} {l:List α}:(a :: l).set 0 b=b :: l:=rfl
theorem gF {α:Type} {a b:α} {l:List α} {n:Nat}:(a :: l).set (n+1) b=a :: l.set n b:=rfl
theorem alK (W1:World):∀(p:Addr) (v:Value) (x:Obj),W1.cell? p=some v->(W1.alloc x).cell? p=some v:=fun p v x h=>by rw[World.cell?_alloc_lt _ _ _ (World.block_lt_of_cell? _ _ h)];exact h
theorem Hh {w:World} {b B n T:Nat} {cs:Array Value} {v:Value} {xs:List Value} (hT:T≠9) (h:w.heap[b]?=some (.cells cs T (0,0))) (ho:w.ownsRow B 9 1 v n xs):some b≠v.ownBlock:=by
 intro e
 rcases ho.2 with ⟨rfl,_⟩|⟨g,cap,cur,rfl,hg,hh,_⟩
 ·simp[Value.ownBlock] at e
 ·simp[Value.ownBlock] at e;subst e;rw[h] at hh;injection hh with hh;injection hh with _ h2;exact hT h2
def Fc (w:World) (m b:Nat):Prop:=∀ v,w.cell? ⟨m,0,none⟩=some v->some b≠v.ownBlock
structure KB (B m:Nat) (w w':World):Prop where
 bl:Below B w w'
 keep:∀ b cs T,T≠9->b≠m->w.heap[b]?=some (.cells cs T (0,0))->w'.heap[b]?=some (.cells cs T (0,0))
 own:m<w.heap.size->∀ b cs T,b≠m->Fc w m b->w.heap[b]?=some (.cells cs T (0,0))->w'.heap[b]?=some (.cells cs T (0,0))/\Fc w' m b
theorem KB.size {B m:Nat} {w w':World} (h:KB B m w w'):w.heap.size<=w'.heap.size:=h.bl.size
theorem KB.refl (B m:Nat) (w:World):KB B m w w:=⟨Below.refl _ _,fun _ _ _ _ _ h=>h,fun _ _ _ _ _ h2 h3=>⟨h3,h2⟩⟩
theorem KB.trans {B m:Nat} {w w' w'':World} (h:KB B m w w') (k:KB B m w' w''):KB B m w w'':=⟨h.bl.trans k.bl,fun b cs T h1 h2 h3=>k.keep b cs T h1 h2 (h.keep b cs T h1 h2 h3),fun hm b cs T h1 h2 h3=>k.own (Nat.lt_of_lt_of_le hm h.bl.size) b cs T h1 (h.own hm b cs T h1 h2 h3).2 (h.own hm b cs T h1 h2 h3).1⟩
theorem KB.drew {B m:Nat} {w w':World} (h:KB B m w w'):KB B m w w'.drew:=⟨h.bl.drew,h.keep,h.own⟩
theorem KB.old {B m:Nat} {w w':World} (h:Below w.heap.size w w') (hB:B<=w.heap.size):KB B m w w':=⟨h.mono hB,fun b cs T h1 h2 h3=>by rw[h.block b (Af h3)];exact h3,fun hm b cs T h1 h2 h3=>⟨by rw[h.block b (Af h3)];exact h3,fun v hv=>h2 v ((h.cell (p:=⟨m,0,none⟩) hm).symm.trans hv)⟩⟩
theorem KB.setM {B m:Nat} {w w':World} (h:KB B m w w') (j:Nat) (hB:B<=m) (v:Value) (hj:j≠0:=by decide):KB B m w (w'.setCell ⟨m,j,none⟩ v):=⟨h.bl.setCell (p:=⟨m,j,none⟩) hB _,fun b cs T h1 h2 h3=>by rw[hC w' ⟨m,j,none⟩ _ b h2];exact h.keep b cs T h1 h2 h3,fun hm b cs T h1 h2 h3=>⟨by rw[hC w' ⟨m,j,none⟩ _ b h1];exact(h.own hm b cs T h1 h2 h3).1,fun u hu=>(h.own hm b cs T h1 h2 h3).2 u (by rw[World.cell?_setCell_other (w:=w') (a:=⟨m,j,none⟩) (b:=⟨m,0,none⟩) (v:=v) (by simp)] at hu;exact hu)⟩⟩
theorem KB.setN {B m:Nat} {w w':World} (h:KB B m w w') (j:Nat) (hB:B<=w.heap.size) (v:Value):KB B m w (w'.setCell ⟨w.heap.size,j,none⟩ v):=⟨h.bl.setCell (p:=⟨w.heap.size,j,none⟩) hB _,fun b cs T h1 h2 h3=>by rw[hC w' ⟨w.heap.size,j,none⟩ _ b (by have:=Af h3;simp;omega)];exact h.keep b cs T h1 h2 h3,fun hm b cs T h1 h2 h3=>⟨by rw[hC w' ⟨w.heap.size,j,none⟩ _ b (by have:=Af h3;simp;omega)];exact(h.own hm b cs T h1 h2 h3).1,fun u hu=>(h.own hm b cs T h1 h2 h3).2 u (by rw[World.cell?_setCell_far _ _ _ _ (by simp;omega)] at hu;exact hu)⟩⟩
theorem Fl {w w2:World} {o:Obj} {ob:Option Nat} (hgrow:(w.alloc o).grownBy w2 ob) (HO:∀(b:Nat) (cs:Array Value) (T:Nat),T≠9->w.heap[b]?=some (.cells cs T (0,0))->some b≠ob):∀(b:Nat) (cs:Array Value) (T:Nat),T≠9->w.heap[b]?=some (.cells cs T (0,0))->w2.heap[b]?=some (.cells cs T (0,0)):=by
 intro b cs T hT hb
 have hl:=Af hb
 rw[hgrow.block b (by simp;omega) (HO b cs T hT hb),Lib.alloc_old w _ b hl]
 exact hb
theorem Gl (B m:Nat) (ss:List ByteArray) (cd:Value) (pl st lk:Int) (t:ByteArray) (w:World) (hM:Bx B w m ss cd pl st lk) (hB:B<=w.heap.size) (h1:t.size<=2000) (h2:ss.length<50) :
  Calls Tryz.prog 121 #[.pointer (some ⟨m,0,none⟩),.string t] w fun e w'=>e=.returned (.bool true)/\KB B m w w'/\Bx B w' m (ss++[t]) cd pl st lk:=by
 obtain⟨hBm,v,hm,hown⟩:=hM
 obtain⟨ao,cap,rfl⟩:∃ ao cap,v=.slice ao ss.length cap:=by
  rcases hown.2 with ⟨hv,h0⟩|⟨g,cap,cur,hv,_⟩
  ·exact⟨none,0,by rw[hv,h0]⟩
  ·exact⟨_,_,hv⟩
 have c0:w.cell? ⟨m,0,none⟩=some (.slice ao ss.length cap):=by rw[cH hm];rfl
 have hlt:=hm.lt
 have HO:Hd (∀(b:Nat) (cs:Array Value) (T:Nat),T≠9->w.heap[b]?=some (.cells cs T (0,0))->some b≠(Value.slice ao ss.length cap).ownBlock):=fun b cs T hT hb=>Hh hT hb hown
 have d1:decide ((2000:Int)<t.size)=false:=by simp;omega
 have d2:((ss.length:Int) == 50)=false:=by simp;omega
 obtain⟨i0,hi,hz0,hz1,hz2⟩:=info_parts Tryz.info9b
 go_enter Tryz.func121,Tryz.ntmps121
 go_wp2_with (first|(at_builtin;refine wpList_append_lies _ rfl (.tmp 20) (.tmp 22) 30 rfl B 9 i0 (.string ⟨#[]⟩) 1 16 Tryz.underlying30 hi hz0 hz1 hz2 rfl (by decide) _ _ _ rfl (hown.alloc _) ⟨w.heap.size,0,none⟩ 1 1 [.string t] rfl rfl (cell_one_new _ _ _) (by intro u hu;simp at hu;subst hu;rfl) (by omega) (by unfold maxLen;omega) (by omega) (by simp;omega) _ rfl ?_;intro g' cap2 w2 hown' hgrow hlie hlt2;have hK2:Hd (∀(b:Nat) (cs:Array Value) (T:Nat),T≠9->w.heap[b]?=some (.cells cs T (0,0))->w2.heap[b]?=some (.cells cs T (0,0))):=Fl hgrow HO.o;have hm2:Fd w2 m (.slice ao ss.length cap) cd pl st lk:=(by have hne:=hm.ne' hown;unfold Fd at *;rw[hgrow.block m (by simp;omega) hne,Lib.alloc_old w _ m hlt];exact hm);have e0:w2.cell? ⟨m,0,none⟩=some (.slice ao ss.length cap):=(by rw[cH hm2];rfl);have f0:w2.frozen? ⟨m,0,none⟩=false:=fH hm2 0;have hbB:Below B w w2:=((Below.refl _ _).alloc (by omega) _).grown hgrow (by simp;omega) (fun k hk=>(Hm hown k hk).1);have HLIE:Hd ((Value.slice ao ss.length cap).ownBlock=some g'\/w.heap.size<=g'):=(by rcases hlie with h|h;exact Or.inl h;exact Or.inr (by rw[h];simp));have HGR:Hd (∀ b cs T,some b≠(Value.slice ao ss.length cap).ownBlock->w.heap[b]?=some (.cells cs T (0,0))->w2.heap[b]?=some (.cells cs T (0,0))):=(fun b cs T h1 h2=>by have hl:=Af h2;rw[hgrow.block b (by simp;omega) h1,Lib.alloc_old w _ b hl];exact h2)))
 go_ret
 exact⟨rfl,⟨hbB.setCell (p:=⟨m,0,none⟩) hBm _,fun b cs T hT hbm hb=>by rw[hC _ ⟨m,0,none⟩ _ b hbm];exact hK2.out b cs T hT hb,fun _ b cs T hbm hno hb=>⟨by rw[hC _ ⟨m,0,none⟩ _ b hbm];exact HGR.o b cs T (hno _ c0) hb,fun u hu=>by
  rw[World.cell?_setCell_same (h:=e0)] at hu;cases hu;have hl:=Af hb;intro heq
  rcases HLIE.o with h|h
  ·exact hno _ c0 (heq.trans h.symm)
  ·simp[Value.ownBlock] at heq;omega⟩⟩,Bx.put hBm hm2 (by simpa [Bf] using hown')⟩
theorem Cd (B m:Nat) (ss:List ByteArray) (x:ByteArray) (cd:Value) (pl st lk:Int) (w:World) (hM:Bx B w m (ss++[x]) cd pl st lk) (hB:B<=w.heap.size) (h2:ss.length<50) :
  Calls Tryz.prog 119 #[.pointer (some ⟨m,0,none⟩)] w fun e w'=>e=.returned (.string x)/\KB B m w w'/\Bx B w' m ss cd pl st lk/\∀ b,b≠m->w'.heap[b]?=w.heap[b]?:=by
 obtain⟨hBm,v,hm,hown⟩:=hM
 rw[List.length_append,List.length_singleton] at hown
 obtain⟨g,cap,rfl⟩:∃ g cap,v=.slice (some ⟨g,0,none⟩) (ss.length+1) cap:=by
  rcases hown.2 with ⟨_,h0⟩|⟨g,cap,cur,hv,_⟩
  ·omega
  ·exact⟨_,_,hv⟩
 have c0:w.cell? ⟨m,0,none⟩=some (.slice (some ⟨g,0,none⟩) (ss.length+1) cap):=by rw[cH hm];rfl
 have f0:w.frozen? ⟨m,0,none⟩=false:=fH hm 0
 have cx:w.cell? ⟨g,ss.length,none⟩=some (.string x):=by rw[hown.cellAt ss.length (by omega)];simp[Bf]
 have hcap:ss.length+1<=cap:=by
  rcases hown.2 with ⟨h0,_⟩|⟨g',cap',cur,hv,hg,hh,h1,_⟩
  ·simp at h0
  ·simp only[Value.slice.injEq,Option.some.injEq,Addr.mk.injEq,and_true,true_and] at hv;omega
 have HS:Hd (Bx B (w.setCell ⟨m,0,none⟩ (.slice (some ⟨g,0,none⟩) ss.length cap)) m ss cd pl st lk):=Bx.put hBm hm (Rv hown)
 clear hown hm
 go_enter Tryz.func119,Tryz.ntmps119
 go_wp2
 go_ret
 exact⟨rfl,⟨(Below.refl _ _).setCell (p:=⟨m,0,none⟩) hBm _,fun b cs T hT hbm hb=>by rw[hC w ⟨m,0,none⟩ _ b hbm];exact hb,fun _ b cs T hbm hno hb=>⟨by rw[hC w ⟨m,0,none⟩ _ b hbm];exact hb,fun u hu=>by
  rw[World.cell?_setCell_same (h:=c0)] at hu;cases hu;have hno2:=hno _ c0;simpa [Value.ownBlock] using hno2⟩⟩,HS.o,fun b hb=>hC w ⟨m,0,none⟩ _ b hb⟩
theorem Bx.place {B:Nat} {w:World} {m:Nat} {ss:List ByteArray} {cd:Value} {pl st lk:Int} (h:Bx B w m ss cd pl st lk) (p:Int):Bx B (w.setCell ⟨m,2,none⟩ (.int .i64 p)) m ss cd p st lk:=by
 obtain⟨hB,v,hm,ho⟩:=h
 refine⟨hB,v,?_,?_⟩
 ·unfold Fd at *;rw[jB hm];rfl
 ·have hne:=hm.ne' ho;refine⟨ho.1,?_⟩
  rcases ho.2 with h0|⟨g,cap,cur,hv,hg,hh,r⟩
  ·exact Or.inl h0
  ·refine Or.inr ⟨g,cap,cur,hv,hg,?_,r⟩;rw[hC w ⟨m,2,none⟩ _ g (by rintro e;apply hne;rw[hv];simp[Value.ownBlock,e])];exact hh
theorem Bx.cell2 {B:Nat} {w:World} {m:Nat} {ss:List ByteArray} {cd:Value} {pl st lk:Int} (h:Bx B w m ss cd pl st lk):w.cell? ⟨m,2,none⟩=some (.int .i64 pl)/\w.frozen? ⟨m,2,none⟩=false/\m<w.heap.size/\B<=m:=by
 obtain⟨hB,v,hm,ho⟩:=h
 exact⟨by rw[cH hm];rfl,fH hm 2,hm.lt,hB⟩
theorem Wr (B m:Nat) (ss:List ByteArray) (cd:Value) (pl st lk:Int) (t:ByteArray) (n:Int) (w:World) (hM:Bx B w m ss cd pl st lk) (hB:B<=w.heap.size) (h1:t.size<=2000) (h2:ss.length<50) (hp0:0<=pl) (hp1:pl<=2000) :
  Calls Tryz.prog 120 #[.pointer (some ⟨m,0,none⟩),.agg #[.int .i64 1,.string t,.int .i64 n]] w fun e w'=>e=.returned (.bool true)/\KB B m w w'/\Bx B w' m (ss++[t]) cd (pl+1) st lk:=by
 have hba:Below w.heap.size w (w.alloc (.cells #[.int .i64 1,.string t,.int .i64 n] 106)):=aN _ _
 have hM1:=hM.bl hba
 obtain⟨c2,f2,hml,hBm⟩:=hM1.cell2
 go_enter Tryz.func120,Tryz.ntmps120
 go_wp2_with fail
 go_region_with (first|(go_at_call 121;refine(Gl B m ss cd pl st lk t _ ?_ ?_ h1 h2).mono ?_;(focus (exact hM1));(focus (simp;omega));rintro e w1 ⟨rfl,hb1,hM2⟩))
 all_goals
  obtain⟨d2,e2,_,_⟩:=hM2.cell2;have HM:Hd (Bx B w1 m (ss++[t]) cd pl st lk):=hM2;clear hM2 hM hM1;go_wp2;go_ret;exact⟨rfl,(((KB.old hba hB).drew).trans hb1).setM 2 hBm _,HM.o.place _⟩
theorem Ws (B m:Nat) (ss:List ByteArray) (cd:Value) (pl st lk:Int) (t:ByteArray) (n:Nat) (w:World) (hM:Bx B w m (ss) cd pl st lk) (hB:B<=w.heap.size) (hp0:0<=pl) (hp1:pl<=2000) (hn:n<=2000) (h1:t.size<=2000) (h2:ss.length=50) :
  Calls Tryz.prog 120 #[.pointer (some ⟨m,0,none⟩),.agg #[.int .i64 1,.string t,.int .i64 n]] w fun e w'=>e=.returned (.bool false)/\KB B m w w'/\Bx B w' m (ss) cd pl st lk:=by
 have hba:Below w.heap.size w (w.alloc (.cells #[.int .i64 1,.string t,.int .i64 n] 106)):=aN _ _
 have hmw:=hM.cell2.2.2.1
 have hM1:=hM.bl hba
 obtain⟨c2,f2,hml,hBm⟩:=hM1.cell2
 have hs1:B<=(w.alloc (.cells #[.int .i64 1,.string t,.int .i64 n] 106)).heap.size:=by simp;omega
 go_enter Tryz.func120,Tryz.ntmps120
 go_wp2_with fail
 go_region_with (first|(go_at_call 121;refine(put_no B m (ss) cd pl st lk (t) _ ?_ ?_ ?_ ?_).mono ?_;(focus (exact hM1));(focus (first|omega|(simp;omega)));(focus (first|omega|(simp;omega)));(focus (exact Or.inr h2));rintro e w1 ⟨rfl,rfl⟩))
 all_goals
  go_wp2;go_ret;exact⟨rfl,(KB.old hba hB).drew,hM1⟩
theorem work_jump (B m:Nat) (ss:List ByteArray) (cd:Value) (pl st lk:Int) (t:ByteArray) (n:Nat) (w:World) (hM:Bx B w m (ss) cd pl st lk) (hB:B<=w.heap.size) (hp0:0<=pl) (hp1:pl<=2000) (hn:n<=2000)  :
  Calls Tryz.prog 120 #[.pointer (some ⟨m,0,none⟩),.agg #[.int .i64 10,.string t,.int .i64 n]] w fun e w'=>e=.returned (.bool true)/\KB B m w w'/\Bx B w' m (ss) cd n st lk:=by
 have hba:Below w.heap.size w (w.alloc (.cells #[.int .i64 10,.string t,.int .i64 n] 106)):=aN _ _
 have hM1:=hM.bl hba
 obtain⟨c2,f2,hml,hBm⟩:=hM1.cell2
 have hs1:B<=(w.alloc (.cells #[.int .i64 10,.string t,.int .i64 n] 106)).heap.size:=by simp;omega
 go_enter Tryz.func120,Tryz.ntmps120
 go_wp2
 go_ret
 exact⟨rfl,(KB.old hba hB).setM 2 hBm _,hM1.place _⟩
theorem work_drop (B m:Nat) (r:List ByteArray) (x:ByteArray) (cd:Value) (pl st lk:Int) (t:ByteArray) (n:Nat) (w:World) (hM:Bx B w m (r++[x]) cd pl st lk) (hB:B<=w.heap.size) (hp0:0<=pl) (hp1:pl<=2000) (hn:n<=2000) (h2:r.length<50) :
  Calls Tryz.prog 120 #[.pointer (some ⟨m,0,none⟩),.agg #[.int .i64 9,.string t,.int .i64 n]] w fun e w'=>e=.returned (.bool true)/\KB B m w w'/\Bx B w' m (r) cd (pl+1) st lk:=by
 have hba:Below w.heap.size w (w.alloc (.cells #[.int .i64 9,.string t,.int .i64 n] 106)):=aN _ _
 have hmw:=hM.cell2.2.2.1
 have hM1:=hM.bl hba
 obtain⟨c2,f2,hml,hBm⟩:=hM1.cell2
 have hs1:B<=(w.alloc (.cells #[.int .i64 9,.string t,.int .i64 n] 106)).heap.size:=by simp;omega
 go_enter Tryz.func120,Tryz.ntmps120
 go_wp2_with (first|(go_at_call 119;refine(Cd B m (r) x cd pl st lk _ ?_ ?_ ?_).mono ?_;(focus (exact hM1));(focus (exact hs1));(focus (first|omega|(simp;omega)));rintro e w1 ⟨rfl,hb1,hM2,hk1⟩;have hs2:B<=w1.heap.size:=(Nat.le_trans hs1 hb1.size);obtain⟨dd1,ee1,_,_⟩:=hM2.cell2;clear hk1))
 go_ret
 exact⟨rfl,((KB.old hba hB).trans hb1).setM 2 hBm _,hM2.place _⟩
theorem Tt (B m:Nat) (r:List ByteArray) (x:ByteArray) (cd:Value) (pl st lk:Int) (t:ByteArray) (n:Nat) (w:World) (hM:Bx B w m (r++[x]) cd pl st lk) (hB:B<=w.heap.size) (hp0:0<=pl) (hp1:pl<=2000) (hn:n<=2000) (h2:r.length<50) (hx:x.toList.isEmpty=true) :
  Calls Tryz.prog 120 #[.pointer (some ⟨m,0,none⟩),.agg #[.int .i64 11,.string t,.int .i64 n]] w fun e w'=>e=.returned (.bool true)/\KB B m w w'/\Bx B w' m (r) cd n st lk:=by
 have hba:Below w.heap.size w (w.alloc (.cells #[.int .i64 11,.string t,.int .i64 n] 106)):=aN _ _
 have hmw:=hM.cell2.2.2.1
 have hM1:=hM.bl hba
 obtain⟨c2,f2,hml,hBm⟩:=hM1.cell2
 have hs1:B<=(w.alloc (.cells #[.int .i64 11,.string t,.int .i64 n] 106)).heap.size:=by simp;omega
 go_enter Tryz.func120,Tryz.ntmps120
 go_wp2_with (first|(go_at_call 119;refine(Cd B m (r) x cd pl st lk _ ?_ ?_ ?_).mono ?_;(focus (exact hM1));(focus (exact hs1));(focus (first|omega|(simp;omega)));rintro e w1 ⟨rfl,hb1,hM2,hk1⟩;have hs2:B<=w1.heap.size:=(Nat.le_trans hs1 hb1.size);obtain⟨dd1,ee1,_,_⟩:=hM2.cell2;have cn:w1.cell? ⟨w.heap.size,2,none⟩=some (.int .i64 (n:Int)):=(by rw[World.cell?_of_block (hk1 w.heap.size (by omega))];simp[go_sem]);clear hk1))
 go_ret
 exact⟨rfl,((KB.old hba hB).trans hb1).setM 2 hBm _,hM2.place _⟩
theorem Ts (B m:Nat) (r:List ByteArray) (x:ByteArray) (cd:Value) (pl st lk:Int) (t:ByteArray) (n:Nat) (w:World) (hM:Bx B w m (r++[x]) cd pl st lk) (hB:B<=w.heap.size) (hp0:0<=pl) (hp1:pl<=2000) (hn:n<=2000) (h2:r.length<50) (hx:x.toList.isEmpty=false) (hx2:(x.toList == [48])=true) :
  Calls Tryz.prog 120 #[.pointer (some ⟨m,0,none⟩),.agg #[.int .i64 11,.string t,.int .i64 n]] w fun e w'=>e=.returned (.bool true)/\KB B m w w'/\Bx B w' m (r) cd n st lk:=by
 have hba:Below w.heap.size w (w.alloc (.cells #[.int .i64 11,.string t,.int .i64 n] 106)):=aN _ _
 have hmw:=hM.cell2.2.2.1
 have hM1:=hM.bl hba
 obtain⟨c2,f2,hml,hBm⟩:=hM1.cell2
 have hs1:B<=(w.alloc (.cells #[.int .i64 11,.string t,.int .i64 n] 106)).heap.size:=by simp;omega
 go_enter Tryz.func120,Tryz.ntmps120
 go_wp2_with (first|(go_at_call 119;refine(Cd B m (r) x cd pl st lk _ ?_ ?_ ?_).mono ?_;(focus (exact hM1));(focus (exact hs1));(focus (first|omega|(simp;omega)));rintro e w1 ⟨rfl,hb1,hM2,hk1⟩;have hs2:B<=w1.heap.size:=(Nat.le_trans hs1 hb1.size);obtain⟨dd1,ee1,_,_⟩:=hM2.cell2;have cn:w1.cell? ⟨w.heap.size,2,none⟩=some (.int .i64 (n:Int)):=(by rw[World.cell?_of_block (hk1 w.heap.size (by omega))];simp[go_sem]);clear hk1))
 go_ret
 exact⟨rfl,((KB.old hba hB).trans hb1).setM 2 hBm _,hM2.place _⟩
theorem Tr (B m:Nat) (r:List ByteArray) (x:ByteArray) (cd:Value) (pl st lk:Int) (t:ByteArray) (n:Nat) (w:World) (hM:Bx B w m (r++[x]) cd pl st lk) (hB:B<=w.heap.size) (hp0:0<=pl) (hp1:pl<=2000) (hn:n<=2000) (h2:r.length<50) (hx:x.toList.isEmpty=false) (hx2:(x.toList == [48])=false) :
  Calls Tryz.prog 120 #[.pointer (some ⟨m,0,none⟩),.agg #[.int .i64 11,.string t,.int .i64 n]] w fun e w'=>e=.returned (.bool true)/\KB B m w w'/\Bx B w' m (r) cd (pl+1) st lk:=by
 have hba:Below w.heap.size w (w.alloc (.cells #[.int .i64 11,.string t,.int .i64 n] 106)):=aN _ _
 have hmw:=hM.cell2.2.2.1
 have hM1:=hM.bl hba
 obtain⟨c2,f2,hml,hBm⟩:=hM1.cell2
 have hs1:B<=(w.alloc (.cells #[.int .i64 11,.string t,.int .i64 n] 106)).heap.size:=by simp;omega
 go_enter Tryz.func120,Tryz.ntmps120
 go_wp2_with (first|(go_at_call 119;refine(Cd B m (r) x cd pl st lk _ ?_ ?_ ?_).mono ?_;(focus (exact hM1));(focus (exact hs1));(focus (first|omega|(simp;omega)));rintro e w1 ⟨rfl,hb1,hM2,hk1⟩;have hs2:B<=w1.heap.size:=(Nat.le_trans hs1 hb1.size);obtain⟨dd1,ee1,_,_⟩:=hM2.cell2;have cn:w1.cell? ⟨w.heap.size,2,none⟩=some (.int .i64 (n:Int)):=(by rw[World.cell?_of_block (hk1 w.heap.size (by omega))];simp[go_sem]);clear hk1))
 go_ret
 exact⟨rfl,((KB.old hba hB).trans hb1).setM 2 hBm _,hM2.place _⟩
theorem Wv (B m:Nat) (r:List ByteArray) (x y:ByteArray) (cd:Value) (pl st lk:Int) (t:ByteArray) (n:Nat) (w:World) (hM:Bx B w m (r++[x]++[y]) cd pl st lk) (hB:B<=w.heap.size) (hp0:0<=pl) (hp1:pl<=2000) (hn:n<=2000) (h2:r.length+2<=50) (hx:x.size<=2000) (hy:y.size<=2000) (hxy:(x++y).size<=2000) :
  Calls Tryz.prog 120 #[.pointer (some ⟨m,0,none⟩),.agg #[.int .i64 2,.string t,.int .i64 n]] w fun e w'=>e=.returned (.bool true)/\KB B m w w'/\Bx B w' m (r++[x++y]) cd (pl+1) st lk:=by
 have hba:Below w.heap.size w (w.alloc (.cells #[.int .i64 2,.string t,.int .i64 n] 106)):=aN _ _
 have hmw:=hM.cell2.2.2.1
 have hM1:=hM.bl hba
 obtain⟨c2,f2,hml,hBm⟩:=hM1.cell2
 have hs1:B<=(w.alloc (.cells #[.int .i64 2,.string t,.int .i64 n] 106)).heap.size:=by simp;omega
 go_enter Tryz.func120,Tryz.ntmps120
 go_wp2_with fail
 go_region_with (first|(go_at_call 119;refine(Cd B m (r) x cd pl st lk _ ?_ ?_ ?_).mono ?_;(focus (exact hM2));(focus (exact hs2));(focus (first|omega|(simp;omega)));rintro e w2 ⟨rfl,hb2,hM3,hk2⟩;have hs3:B<=w2.heap.size:=(Nat.le_trans hs2 hb2.size);obtain⟨dd2,ee2,_,_⟩:=hM3.cell2;clear hk2)|(go_at_call 119;refine(Cd B m (r++[x]) y cd pl st lk _ ?_ ?_ ?_).mono ?_;(focus (exact hM1));(focus (exact hs1));(focus (first|omega|(simp;omega)));rintro e w1 ⟨rfl,hb1,hM2,hk1⟩;have hs2:B<=w1.heap.size:=(Nat.le_trans hs1 hb1.size);obtain⟨dd1,ee1,_,_⟩:=hM2.cell2;clear hk1))
 all_goals
  go_wp2_with (first|(go_at_call 121;refine(Gl B m (r) cd pl st lk (x++y) _ ?_ ?_ hxy ?_).mono ?_;(focus (exact hM3));(focus (exact hs3));(focus (first|omega|(simp;omega)));rintro e w3 ⟨rfl,hb3,hM4⟩;have hs4:B<=w3.heap.size:=(Nat.le_trans hs3 hb3.size);obtain⟨dd3,ee3,_,_⟩:=hM4.cell2))
  go_ret;exact⟨rfl,(((KB.old hba hB).drew.trans hb1).trans (hb2.trans hb3)).setM 2 hBm _,hM4.place _⟩
theorem Ww (B m:Nat) (r:List ByteArray) (x y:ByteArray) (cd:Value) (pl st lk:Int) (t:ByteArray) (n:Nat) (w:World) (hM:Bx B w m (r++[x]++[y]) cd pl st lk) (hB:B<=w.heap.size) (hp0:0<=pl) (hp1:pl<=2000) (hn:n<=2000) (h2:r.length+2<=50) (hx:x.size<=2000) (hy:y.size<=2000) (hxy:2000<(x++y).size) (hxy2:(x++y).size<=4000) :
  Calls Tryz.prog 120 #[.pointer (some ⟨m,0,none⟩),.agg #[.int .i64 2,.string t,.int .i64 n]] w fun e w'=>e=.returned (.bool false)/\KB B m w w'/\Bx B w' m (r) cd pl st lk:=by
 have hba:Below w.heap.size w (w.alloc (.cells #[.int .i64 2,.string t,.int .i64 n] 106)):=aN _ _
 have hmw:=hM.cell2.2.2.1
 have hM1:=hM.bl hba
 obtain⟨c2,f2,hml,hBm⟩:=hM1.cell2
 have hs1:B<=(w.alloc (.cells #[.int .i64 2,.string t,.int .i64 n] 106)).heap.size:=by simp;omega
 go_enter Tryz.func120,Tryz.ntmps120
 go_wp2_with fail
 go_region_with (first|(go_at_call 119;refine(Cd B m (r) x cd pl st lk _ ?_ ?_ ?_).mono ?_;(focus (exact hM2));(focus (exact hs2));(focus (first|omega|(simp;omega)));rintro e w2 ⟨rfl,hb2,hM3,hk2⟩;have hs3:B<=w2.heap.size:=(Nat.le_trans hs2 hb2.size);obtain⟨dd2,ee2,_,_⟩:=hM3.cell2;clear hk2)|(go_at_call 119;refine(Cd B m (r++[x]) y cd pl st lk _ ?_ ?_ ?_).mono ?_;(focus (exact hM1));(focus (exact hs1));(focus (first|omega|(simp;omega)));rintro e w1 ⟨rfl,hb1,hM2,hk1⟩;have hs2:B<=w1.heap.size:=(Nat.le_trans hs1 hb1.size);obtain⟨dd1,ee1,_,_⟩:=hM2.cell2;clear hk1))
 all_goals
  go_wp2_with (first|(go_at_call 121;refine(put_no B m (r) cd pl st lk (x++y) _ ?_ ?_ ?_ ?_).mono ?_;(focus (exact hM3));(focus (first|omega|(simp;omega)));(focus (first|omega|(simp;omega)));(focus (exact Or.inl hxy));rintro e w3 ⟨rfl,rfl⟩))
  go_ret;exact⟨rfl,((KB.old hba hB).drew.trans hb1).trans hb2,hM3⟩
end Go.Proofs.YtjlnkepkkdefdaaGreatDoor
