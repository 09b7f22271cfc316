import Derived.Test.YtoihflimijabjaaGreatDoorBvF
import Derived.Test.YtoihflimijabjaaGreatDoorTForm
namespace Go.Proofs.YtoihflimijabjaaGreatDoor
open Option renaming some->M,none->N
open Obj renaming cells->O
open Go renaming Value->Z,World->E
open Value renaming bool->F
open _root_ renaming List->L,Nat->X
set_option maxHeartbeats 8000000
set_option maxRecDepth 100000
open _root_.Go.Proofs.Tryz Go.RowKit
set_option linter.unusedVariables false
set_option linter.unusedSimpArgs false
variable {w':E} {is:L I3} {b B i:X}
structure R3 where
 has:Bool
 code:Int
 text:By
def rr0:R3:=⟨false,0,ByteArray.empty⟩
def rx(is:L R3)(i:X):R3:=is.getD i rr0
def Ob(w:E)(a:Option Addr)(is:L R3):Prop:=
 ∀i,i<is.length->∃b off,a=M ⟨b,off,N⟩/\w.cell? ⟨b,off+i*3,N⟩=M (F (rx is i).has)/\w.cell? ⟨b,off+i*3+1,N⟩=M (I (rx is i).code)/\w.cell? ⟨b,off+i*3+2,N⟩=M (.string (rx is i).text)
theorem Ob.bl{w:E}{a:Option Addr}{is:L R3}(h:Ob w a is)(hb:Bw w w'):Ob w' a is:=by
 exact qeg
def Jh(r:R3):Bool:=decide (r.text.size<=2000)&&decide (0<=r.code)&&decide (r.code<=7)
def Lb(rs:L R3):Bool:=decide (rs.length<=200)&&decide (∀i,i<rs.length->Jh (rx rs i)=true)
structure St where
 pl:X
 stack:L By
 steps:X
 looks:X
inductive Out where
 | go (s:St)
 | over (c:Int) (t:By) (n:X)
 | look (ask:Bool) (nm:By) (s:St)
def Gn(n:X):By:=⟨(Lib.decDigits n).toArray⟩
def Vr(a:By):Bool:=a.toList.isEmpty||a.toList == [48]
def El(o:X)(t:By)(n:X)(a b:By):L By:=
 match o with
 | 1=>[t]
 | 2=>[b++a]
 | 3=>[a.extract 0 (min n a.size)]
 | 4=>[a.extract (min n a.size) a.size]
 | 5=>[Uz a n]
 | 6=>[De (b.toList == a.toList)]
 | 7=>[a,a]
 | 8=>[a,b]
 | _=>[]
def Iv(o n pl:X)(a:By):X:=if o=10 then n else if o=11/\Vr a=true then n else pl+1
def Bd(o:X):X:=(Kd.getD o 0).toNat
def Ea(l:L By):By:=l.getD (l.length-1) ByteArray.empty
def Om(l:L By):By:=l.getD (l.length-2) ByteArray.empty
def Dg(l:L By)(k:X):L By:=l.take (l.length-k)
open Classical in
noncomputable def Ki (i:I3) (s:St):Out:=
 let o:=i.op.toNat
 let n:=i.n.toNat
 let a:=Ea s.stack
 let b:=Om s.stack
 let r:=Dg s.stack (Bd o)
 if s.stack.length<Bd o then .over 2 (Gn s.pl) (s.steps+1)
 else if o=15 then .over 0 a (s.steps+1)
 else if o=14 then .over 1 a (s.steps+1)
 else if o=12\/o=13 then
  (if ¬ Ay a then .over 2 (Gn s.pl) (s.steps+1)
   else if s.looks=200 then .over 3 ⟨#[]⟩ (s.steps+1)
   else .look (o == 12) a ⟨s.pl,r,s.steps+1,s.looks+1⟩)
 else if 50<r.length+(El o i.text n a b).length\/∃x∈El o i.text n a b,2000<x.size then .over 2 (Gn s.pl) (s.steps+1)
 else .go ⟨Iv o n s.pl a,r++El o i.text n a b,s.steps+1,s.looks⟩
noncomputable def Dn (is:L I3) (s:St):Out:=
 if is.length<=s.pl then .over 2 (Gn s.pl) s.steps
 else if s.steps=2000 then .over 3 ⟨#[]⟩ s.steps
 else Ki (ix is s.pl) s
structure Gf (is:L I3) (s:St):Prop where
 pl:s.pl<=200
 len:s.stack.length<=50
 size:∀x∈s.stack,x.size<=2000
 steps:s.steps<=2000
 looks:s.looks<=200
def Ql(ask:Bool)(nm:By)(y:R3)(s:St):Out:=
 if ask=false then .go ⟨s.pl+1,s.stack++[De y.has],s.steps,s.looks⟩
 else if y.has=false then .over 4 nm s.steps
 else if y.code≠0 then .over 5 nm s.steps
 else .go ⟨s.pl+1,s.stack++[y.text],s.steps,s.looks⟩
inductive Res where
 | over (c:Int) (t:By) (n:X)
 | wait (ask:Bool) (nm:By) (n:X)
inductive Cu (is:L I3) (ys:L R3):St->Res->Prop
 | over {s c t n}:Dn is s=.over c t n->Cu is ys s (.over c t n)
 | go {s s' r}:Dn is s=.go s'->Cu is ys s' r->Cu is ys s r
 | wait {s ask nm s'}:Dn is s=.look ask nm s'->ys.length<=s.looks->Cu is ys s (.wait ask nm s'.steps)
 | ans {s ask nm s' s'' r}:Dn is s=.look ask nm s'->s.looks<ys.length->Ql ask nm (rx ys s.looks) s'=.go s''->Cu is ys s'' r->Cu is ys s r
 | end {s ask nm s' c t n}:Dn is s=.look ask nm s'->s.looks<ys.length->Ql ask nm (rx ys s.looks) s'=.over c t n->Cu is ys s (.over c t n)
theorem Cu.unique{ys:L R3}{s:St}{o o':Res}(h:Cu is ys s o)(h':Cu is ys s o'):o=o':=by
 induction h with
 | over h1=>cases h' with
  | over h2=>rw[h1]at h2;cases h2;rfl
  | go h2 _=>rw[h1]at h2;cases h2
  | wait h2 _=>rw[h1]at h2;cases h2
  | ans h2 _ _ _=>rw[h1]at h2;cases h2
  | «end» h2 _ _=>rw[h1]at h2;cases h2
 | go h1 _ ih=>cases h' with
  | over h2=>rw[h1]at h2;cases h2
  | go h2 h3=>rw[h1]at h2;cases h2;exact ih h3
  | wait h2 _=>rw[h1]at h2;cases h2
  | ans h2 _ _ _=>rw[h1]at h2;cases h2
  | «end» h2 _ _=>rw[h1]at h2;cases h2
 | wait h1 k1=>cases h' with
  | over h2=>rw[h1]at h2;cases h2
  | go h2 h3=>rw[h1]at h2;cases h2
  | wait h2 _=>rw[h1]at h2;cases h2;rfl
  | ans h2 k2 _ _=>omega
  | «end» h2 k2 _=>omega
 | ans h1 k1 a1 _ ih=>cases h' with
  | over h2=>rw[h1]at h2;cases h2
  | go h2 h3=>rw[h1]at h2;cases h2
  | wait h2 k2=>omega
  | ans h2 k2 a2 h3=>rw[h1]at h2;cases h2;rw[a1]at a2;cases a2;exact ih h3
  | «end» h2 k2 a2=>rw[h1]at h2;cases h2;rw[a1]at a2;cases a2
 | «end» h1 k1 a1=>cases h' with
  | over h2=>rw[h1]at h2;cases h2
  | go h2 h3=>rw[h1]at h2;cases h2
  | wait h2 k2=>omega
  | ans h2 k2 a2 h3=>rw[h1]at h2;cases h2;rw[a1]at a2;cases a2
  | «end» h2 k2 a2=>rw[h1]at h2;cases h2;rw[a1]at a2;cases a2;rfl
theorem Kf{s s':St}{ask:Bool}{nm:By}(h:Dn is s=.look ask nm s'):s'.looks=s.looks+1/\s'.pl=s.pl/\s'.steps=s.steps+1/\s.looks≠200/\s.pl<is.length/\1<=s.stack.length/\s'.stack=Dg s.stack 1/\nm=Ea s.stack:=by
 unfold Dn at h
 split at h
 ·cases h
 ·split at h
  ·cases h
  ·rename_i h1 h2
   simp only[Ki]at h
   split at h
   ·cases h
   ·split at h
    ·cases h
    ·split at h
     ·cases h
     ·split at h
      ·rename_i h3 h4 h5 h6
       split at h
       ·cases h
       ·split at h
        ·cases h
        ·rename_i h7 h8
         cases h;(have ht:Bd (ix is s.pl).op.toNat=1:=by rcases h6 with h6|h6<;>rw[h6]<;>rfl);rw[ht]at h3 ⊢;exact⟨rfl,rfl,rfl,h8,qg,qg,rfl,rfl⟩
      ·split at h
       ·cases h
       ·cases h
theorem Bq{w:E}{o:Obj}(h:w.heap[b]?=M o):b<w.heap.size:=by
 exact qkq
theorem Mv{w:E}{o:Obj}(hb:Bw w w')(h:w.heap[b]?=M o):w'.heap[b]?=M o:=by
 rw[hb.block _ (Bq h)];exact h
abbrev zR:Obj:=O #[I 0,nS,I 0,I 0,F false,I 0,ze,F false,ze,F false] 163 (0,0)
theorem b10{w:E}(h:Below B w w')(hb:B<=b){v0 v1 v2 v3 v4 v5 v6 v7 v8 v9:Z}:Below B w (((((((((((w').setCell ⟨b,0,N⟩ v0).setCell ⟨b,1,N⟩ v1).setCell ⟨b,2,N⟩ v2).setCell ⟨b,3,N⟩ v3).setCell ⟨b,4,N⟩ v4).setCell ⟨b,5,N⟩ v5).setCell ⟨b,6,N⟩ v6).setCell ⟨b,7,N⟩ v7).setCell ⟨b,8,N⟩ v8).setCell ⟨b,9,N⟩ v9):=((((((((((h).setCell (p:=⟨b,0,N⟩) hb _).setCell (p:=⟨b,1,N⟩) hb _).setCell (p:=⟨b,2,N⟩) hb _).setCell (p:=⟨b,3,N⟩) hb _).setCell (p:=⟨b,4,N⟩) hb _).setCell (p:=⟨b,5,N⟩) hb _).setCell (p:=⟨b,6,N⟩) hb _).setCell (p:=⟨b,7,N⟩) hb _).setCell (p:=⟨b,8,N⟩) hb _).setCell (p:=⟨b,9,N⟩) hb _
theorem gA{α:Type}{l:L α}:l.toArray[i]?=l[i]?:=List.getElem?_toArray
theorem gB{α:Type}{a:α}{l:L α}:(a::l)[0]?=M a:=List.getElem?_cons_zero
theorem gC{α:Type}{a:α}{l:L α}:(a::l)[i+1]?=l[i]?:=List.getElem?_cons_succ
theorem alK(W1:E):∀(p:Addr)(v:Z)(x:Obj),W1.cell? p=M v->(W1.alloc x).cell? p=M v:=λp v x h=>qfa
theorem Hp{w:E}{n T:X}{cs:Array Z}{v:Z}{xs:L Z}(hT:T≠9)(h:w.heap[b]?=M (O cs T (0,0)))(ho:w.ownsRow B 9 1 v n xs):M b≠v.ownBlock:=by
 intro e
 rcases ho.2 with⟨rfl,_⟩|⟨g,cap,cur,rfl,hg,hh,_⟩
 ·simp[Value.ownBlock]at e
 ·simp[Value.ownBlock]at e;subst e;rw[h]at hh;injection hh with hh;injection hh with _ h2;exact hT h2
theorem Fy{w w2:E}{o:Obj}{ob:Option X}(ae:(w.alloc o).grownBy w2 ob)(HO:∀(b:X)(cs:Array Z)(T:X),T≠9->w.heap[b]?=M (O cs T (0,0))->M b≠ob):∀(b:X)(cs:Array Z)(T:X),T≠9->w.heap[b]?=M (O cs T (0,0))->w2.heap[b]?=M (O cs T (0,0)):=by
 intro b cs T hT hb
 have hl:=Bq hb
 rw[ae.block b qj (HO b cs T hT hb),Lib.alloc_old w _ b hl]
 exact hb
open Go.RowKit
set_option linter.unusedVariables false
end Go.Proofs.YtoihflimijabjaaGreatDoor
