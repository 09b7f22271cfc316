import Derived.Test.YtjlnkepkkdefdaaGreatDoorVsP
import Derived.Test.YtjlnkepkkdefdaaGreatDoorVsN
import Derived.Test.YtjlnkepkkdefdaaGreatDoorTImI
import Derived.Below
import Derived.BigQuiet
import Derived.Deep.DeepCutAuto
import Derived.Deep.RegionHeld3
import Derived.Deep.RegionWith
import Derived.OpenShut
import Derived.ProofKit
import Derived.WalkKit
namespace Go.Proofs.YtjlnkepkkdefdaaGreatDoor
open Go.RowKit
set_option linter.unusedVariables false
set_option maxHeartbeats 8000000
set_option maxRecDepth 100000
set_option linter.unusedSimpArgs false
theorem Cr.lt {w:World} {g:Nat} {n:Int} {ta ra:Option Addr} {tl tc rl rc:Nat} {sv:Value} (h:Cr w g n ta ra tl tc rl rc sv):g<w.heap.size:=by
 unfold Cr at h
 rcases Nat.lt_or_ge g w.heap.size with h'|h'
 ·exact h'
 ·rw[Array.getElem?_eq_none h'] at h;cases h
theorem Cr.bl {w w':World} {g:Nat} {n:Int} {ta ra:Option Addr} {tl tc rl rc:Nat} {sv:Value} (h:Cr w g n ta ra tl tc rl rc sv) (hb:Below w.heap.size w w'):Cr w' g n ta ra tl tc rl rc sv:=by
 have:=h.lt
 unfold Cr at h ⊢
 rw[hb.block _ this];exact h
theorem get_any (n:Nat) (g:Nat) (ta ra sa:Option Addr) (tc rn rc sc:Nat) (ts:List ByteArray) (t:ByteArray) (w:World) (hg:Cr w g n ta ra ts.length tc rn rc (.slice sa ts.length sc)) (hst:Cp w sa (ts.map (Ap n))) (hc:Cp w ta ts) (hl:ts.length<=1048576) (hasc:Ey (ts.map (Ap n))) :
  Calls Tryz.prog 59 #[.pointer (some ⟨g,0,none⟩),.string t] w fun e w'=>w=w'/\∃ A ok,e=.returned (.tuple #[.string A,.bool ok])/\Jq n ts t A ok:=by
 have k1:w.cell? ⟨g,1,none⟩=some (.slice ta ts.length tc):=by unfold Cr at hg;rw[cH hg];rfl
 have k3:w.cell? ⟨g,3,none⟩=some (.slice sa ts.length sc):=by unfold Cr at hg;rw[cH hg];rfl
 have HC:Hd (Cp w ta ts):=hc
 have HB:Hd (Calls Tryz.prog 47 #[.slice sa ts.length sc,.string t] w fun e w'=>w=w'/\∃(r:Nat) (b:Bool),e=.returned (.tuple #[.int .i64 r,.bool b])/\((b=true/\r<ts.length/\Ap n (nx ts r)=t)\/(b=false/\¬ Fi (ts.map (Ap n)) t))):=by
  have:=Pj sa sc (ts.map (Ap n)) t w hst (by rw[List.length_map];exact hl) hasc;rw[List.length_map] at this;refine this.mono ?_;rintro e w' ⟨rfl,r,b,rfl,h⟩;refine⟨rfl,r,b,rfl,?_⟩
  rcases h with ⟨h1,h2,h3⟩|h
  ·exact Or.inl ⟨h1,h2,by rw[<- Ir n ts r h2];exact h3⟩
  ·exact Or.inr h
 clear hc hst hasc hg
 go_enter Tryz.func59,Tryz.ntmps59
 go_wp2_with fail
 refine HB.o.mono ?_
 rintro e w2 ⟨rfl,r,b,rfl,hr⟩
 rcases hr with ⟨rfl,h3,h4⟩|⟨rfl,h3⟩
 ·obtain⟨b,off,rfl,c1⟩:=HC.o r h3;replace c1:w.cell? ⟨b,off+r,none⟩=some (.string (nx ts r)):=c1;have HO:Hd (Jq n ts t (nx ts r) true):=Or.inl ⟨rfl,r,h3,h4,rfl⟩;have hrI:(r:Int)<(ts.length:Int):=by omega
  clear h4;generalize nx ts r=x at c1 HO;go_wp2_with fail
  go_ret2
  exact⟨rfl,x,true,rfl,HO.o⟩
 ·have HO:Hd (Jq n ts t ⟨#[]⟩ false):=Or.inr ⟨rfl,rfl,h3⟩;clear h3;go_wp2_with fail
  go_ret2
  exact⟨rfl,⟨#[]⟩,false,rfl,HO.o⟩
theorem Mw.unique {is:List I3} {gs:List G3} {tell:G3->Option R3} {fin:Int->ByteArray->Int} {ys:List R3} {c c':Int} (h:Mw is gs tell fin ys c) (h':Mw is gs tell fin ys c'):c'=c:=by
 induction h with
 | few h1 k1=>cases h' with
  | few h2 k2=>rfl
  | fin h2 k2=>omega
  | none h2 _=>rfl
  | other h2 _ _=>rfl
  | untold h2=>cases Az.unique h1 h2
  | go h2=>cases Az.unique h1 h2
 | fin h1 k1=>cases h' with
  | few h2 k2=>omega
  | fin h2 k2=>cases Az.unique h1 h2;rfl
  | none h2 _=>cases Az.unique h1 h2
  | other h2 _ _=>cases Az.unique h1 h2
  | untold h2=>cases Az.unique h1 h2
  | go h2=>cases Az.unique h1 h2
 | none h1 k1=>cases h' with
  | few h2 k2=>rfl
  | fin h2 k2=>cases Az.unique h1 h2
  | none h2 _=>rfl
  | other h2 _ _=>rfl
  | untold h2=>omega
  | go h2=>omega
 | other h1 k1 m1=>cases h' with
  | few h2 k2=>rfl
  | fin h2 k2=>omega
  | none h2 _=>rfl
  | other h2 _ _=>rfl
  | untold h2 _ m2=>cases Az.unique h1 h2;exact absurd m2 m1
  | go h2 _ m2=>cases Az.unique h1 h2;exact absurd m2 m1
 | untold h1 k1 m1 t1=>cases h' with
  | few h2 k2=>cases Az.unique h1 h2
  | fin h2 k2=>omega
  | none h2 _=>omega
  | other h2 _ m2=>cases Az.unique h1 h2;exact absurd m1 m2
  | untold h2 _ m2=>rfl
  | go h2 _ m2 t2=>rw[t1] at t2;cases t2
 | go h1 k1 m1 t1 _ ih=>cases h' with
  | few h2 k2=>cases Az.unique h1 h2
  | fin h2 k2=>omega
  | none h2 _=>omega
  | other h2 _ m2=>cases Az.unique h1 h2;exact absurd m1 m2
  | untold h2 _ m2 t2=>rw[t1] at t2;cases t2
  | go h2 _ m2 t2 h3=>rw[t1] at t2;cases t2;exact ih h3
def Xx (s:ByteArray):Prop:=∃ h:2<=s.size,s.size<=2002/\48<=(s[0].toNat:Int)/\(s[0].toNat:Int)<=53/\(s[1].toNat:Int)=58
def resA (c:Int) (t:ByteArray):Value:=.agg #[.int .i64 c,.string t,.slice none 0 0]
def Xz (c:Int) (t:ByteArray) (b:Bool):Value:=.tuple #[resA c t,.bool b]
theorem parts_no {s:ByteArray} (h:¬ Xx s):s.size<2\/∃ h:2<=s.size,2002<s.size\/(s[0].toNat:Int)<48\/53<(s[0].toNat:Int)\/(s[1].toNat:Int)≠58:=by
 by_cases h1:s.size<2
 ·exact .inl h1
 ·refine .inr ⟨by omega,?_⟩;have h2:2<=s.size:=by omega
  have:¬ (s.size<=2002/\48<=(s[0].toNat:Int)/\(s[0].toNat:Int)<=53/\(s[1].toNat:Int)=58):=fun k=>h ⟨h2,k⟩;omega
theorem Zj (s:ByteArray) (w:World) (hs:s.size<=1048576) (h:¬ Xx s) :
  Calls Tryz.prog 92 #[.string s] w fun e w'=>e=.returned (Xz 0 ⟨#[]⟩ false)/\Below w.heap.size w w':=by
 rcases parts_no h with h|⟨h,k⟩
 ·go_enter Tryz.func92,Tryz.ntmps92;go_wp2;exact bR (v:=Xz 0 ⟨#[]⟩ false) (by simp[results,Tryz.results92,go_sem,Xz,resA]) rfl ⟨rfl,aN _ _⟩
 ·have hcase:(s[1].toNat:Int)=58\/((s[1].toNat:Int) != 58)=true:=by by_cases e:(s[1].toNat:Int)=58;exact .inl e;exact .inr (by simpa using e)
  rcases hcase with hcase|hcase
  all_goals
   go_enter Tryz.func92,Tryz.ntmps92;go_wp2
  all_goals first
   | exact bR (v:=Xz 0 ⟨#[]⟩ false) (by simp[results,Tryz.results92,go_sem,Xz,resA]) rfl ⟨rfl,aN _ _⟩
   | (exfalso;omega)
theorem Wh (s:ByteArray) (w:World) (h:Xx s) (h0:0<s.size) :
  Calls Tryz.prog 92 #[.string s] w fun e w'=>e=.returned (Xz ((s[0].toNat:Int)-48) (s.extract 2 s.size) true)/\Below w.heap.size w w':=by
 obtain⟨h,h2,h3,h4,h5⟩:=h
 go_enter Tryz.func92,Tryz.ntmps92
 go_wp2
 go_region
 go_wp2
 exact bR (v:=Xz ((s[0].toNat:Int)-48) (s.extract 2 s.size) true) (by simp[results,Tryz.results92,go_sem,Xz,resA]) rfl ⟨rfl,(aN _ _).drew⟩
def Got (n:Nat) (ts:List ByteArray) (t:ByteArray):Prop:=∃ i,i<ts.length/\Ap n (nx ts i)=t
open Classical in
noncomputable def Gg (n:Nat) (ts:List ByteArray) (t:ByteArray):ByteArray:=if h:Got n ts t then nx ts h.choose else ⟨#[]⟩
theorem Wl {n:Nat} {ts:List ByteArray} {t A:ByteArray} {ok:Bool} (ha:Ey (ts.map (Ap n))) (h:Jq n ts t A ok):A=Gg n ts t/\(ok=true↔Got n ts t):=by
 by_cases hg:Got n ts t
 ·have k:Jq n ts t (Gg n ts t) true:=Or.inl ⟨rfl,hg.choose,hg.choose_spec.1,hg.choose_spec.2,by unfold Gg;rw[dif_pos hg]⟩;obtain⟨e1,e2⟩:=Jq.unique ha k h;exact⟨e1,by rw[e2];simp[hg]⟩
 ·have k:Jq n ts t (Gg n ts t) false:=Or.inr ⟨rfl,by unfold Gg;rw[dif_neg hg],fun ⟨i,hi,e⟩=>hg ⟨i,by rw[List.length_map] at hi;exact hi,by rw[<- Ir n ts i (by rw[List.length_map] at hi;exact hi)];exact e⟩⟩;obtain⟨e1,e2⟩:=Jq.unique ha k h;exact⟨e1,by rw[e2];simp[hg]⟩
theorem getA_size {n:Nat} {ts:List ByteArray} {t:ByteArray} (hs:∀ i,i<ts.length->(nx ts i).size<=2002):(Gg n ts t).size<=2002:=by
 unfold Gg
 split
 ·rename_i h;exact hs _ h.choose_spec.1
 ·decide
def Wo (A:ByteArray):Int:=if h:0<A.size then (A[0].toNat:Int)-48 else 0
def rdT (A:ByteArray):ByteArray:=A.extract 2 A.size
theorem rdC_eq {A:ByteArray} (h:0<A.size):(A[0].toNat:Int)-48=Wo A:=by unfold Wo;rw[dif_pos h]
theorem rr_pos {A:ByteArray} (h:Xx A):0<A.size:=by obtain⟨h,_⟩:=h;omega
theorem rr_code {A:ByteArray} (h:Xx A):0<=Wo A/\Wo A<=5:=by
 rw[<- rdC_eq (rr_pos h)]
 obtain⟨h1,h2,h3,h4,h5⟩:=h
 omega
theorem rr_text {A:ByteArray} (h:Xx A):(rdT A).size<=2000:=by
 obtain⟨h1,h2,h3,h4,h5⟩:=h
 unfold rdT
 rw[ByteArray.size_extract]
 omega
open Classical in
noncomputable def Gd (n:Nat) (ts:List ByteArray) (g:G3):Option R3:=
 if g.ask=false then (if g.sum=Ap n ⟨#[49]⟩ then some ⟨true,0,⟨#[]⟩⟩ else if g.sum=Ap n ⟨#[48]⟩ then some ⟨false,0,⟨#[]⟩⟩ else none)
 else if Xx (Gg n ts g.sum) then (if Wo (Gg n ts g.sum)=4/\rdT (Gg n ts g.sum)=g.name then some ⟨false,0,⟨#[]⟩⟩ else some ⟨true,Wo (Gg n ts g.sum),rdT (Gg n ts g.sum)⟩)
 else none
theorem Ps {n:Nat} {ts:List ByteArray} {g:G3} (ha:g.ask=false) (h:g.sum=Ap n ⟨#[49]⟩):Gd n ts g=some ⟨true,0,⟨#[]⟩⟩:=by unfold Gd;rw[if_pos ha,if_pos h]
theorem Pt {n:Nat} {ts:List ByteArray} {g:G3} (ha:g.ask=false) (h:¬ g.sum=Ap n ⟨#[49]⟩) (h':g.sum=Ap n ⟨#[48]⟩):Gd n ts g=some ⟨false,0,⟨#[]⟩⟩:=by unfold Gd;rw[if_pos ha,if_neg h,if_pos h']
theorem Up {n:Nat} {ts:List ByteArray} {g:G3} (ha:g.ask=false) (h:¬ g.sum=Ap n ⟨#[49]⟩) (h':¬ g.sum=Ap n ⟨#[48]⟩):Gd n ts g=none:=by unfold Gd;rw[if_pos ha,if_neg h,if_neg h']
theorem tell_no {n:Nat} {ts:List ByteArray} {g:G3} (ha:g.ask=true) (h:¬ Xx (Gg n ts g.sum)):Gd n ts g=none:=by unfold Gd;rw[if_neg (by rw[ha];decide),if_neg h]
theorem Ku {n:Nat} {ts:List ByteArray} {g:G3} (ha:g.ask=true) (h:Xx (Gg n ts g.sum)) (h':Wo (Gg n ts g.sum)=4/\rdT (Gg n ts g.sum)=g.name):Gd n ts g=some ⟨false,0,⟨#[]⟩⟩:=by unfold Gd;rw[if_neg (by rw[ha];decide),if_pos h,if_pos h']
theorem Ob {n:Nat} {ts:List ByteArray} {g:G3} (ha:g.ask=true) (h:Xx (Gg n ts g.sum)) (h':¬ (Wo (Gg n ts g.sum)=4/\rdT (Gg n ts g.sum)=g.name)):Gd n ts g=some ⟨true,Wo (Gg n ts g.sum),rdT (Gg n ts g.sum)⟩:=by unfold Gd;rw[if_neg (by rw[ha];decide),if_pos h,if_neg h']
theorem tell_ok {n:Nat} {ts:List ByteArray} {g:G3} {y:R3} (h:Gd n ts g=some y):Fg y=true:=by
 have hz:Fg ⟨true,0,⟨#[]⟩⟩=true:=by decide
 have hz':Fg ⟨false,0,⟨#[]⟩⟩=true:=by decide
 cases ha:g.ask
 ·by_cases h1:g.sum=Ap n ⟨#[49]⟩
  ·rw[Ps ha h1] at h;cases h;exact hz
  ·by_cases h2:g.sum=Ap n ⟨#[48]⟩
   ·rw[Pt ha h1 h2] at h;cases h;exact hz'
   ·rw[Up ha h1 h2] at h;cases h
 ·by_cases h1:Xx (Gg n ts g.sum)
  ·by_cases h2:Wo (Gg n ts g.sum)=4/\rdT (Gg n ts g.sum)=g.name
   ·rw[Ku ha h1 h2] at h;cases h;exact hz'
   ·rw[Ob ha h1 h2] at h;cases h;have k1:=rr_code h1;have k2:=rr_text h1;simp only[Fg,Bool.and_eq_true,decide_eq_true_eq];omega
  ·rw[tell_no ha h1] at h;cases h
def Ny (n:Nat) (ts:List ByteArray) (g:G3) (y:R3) (told:Bool):Prop:=(told=false/\Gd n ts g=none)\/(told=true/\∃ y',Gd n ts g=some y'/\y.text.size<=2000/\∀ nm s,Dy g.ask nm y s=Dy g.ask nm y' s)
theorem Wi (A:ByteArray) (w:World) (hs:A.size<=2002):Calls Tryz.prog 92 #[.string A] w fun e w'=>Below w.heap.size w w'/\((Xx A/\e=.returned (.tuple #[.agg #[.int .i64 (Wo A),.string (rdT A),.slice none 0 0],.bool true]))\/(¬ Xx A/\e=.returned (.tuple #[.agg #[.int .i64 0,.string ⟨#[]⟩,.slice none 0 0],.bool false]))):=by
 by_cases h:Xx A
 ·refine(Wh A w h (rr_pos h)).mono ?_;rintro e w' ⟨rfl,hb⟩;rw[rdC_eq (rr_pos h)];exact⟨hb,Or.inl ⟨h,rfl⟩⟩
 ·refine(Zj A w (by omega) h).mono ?_;rintro e w' ⟨rfl,hb⟩;exact⟨hb,Or.inr ⟨h,rfl⟩⟩
theorem set3_same {w:World} {b:Nat} {v0 v1 v2:Value} {T:TypeId} (h:w.heap[b]?=some (.cells #[v0,v1,v2] T (0,0))):(((w.setCell ⟨b,0,none⟩ v0).setCell ⟨b,1,none⟩ v1).setCell ⟨b,2,none⟩ v2).heap[b]?=some (.cells #[v0,v1,v2] T (0,0)):=Cz h v0 v1 v2
theorem Xw {w:World} {b c j:Nat} {v:Value} (hp:b≠c) (v0 v1 v2:Value) (h:w.cell? ⟨c,j,none⟩=some v):(((w.setCell ⟨b,0,none⟩ v0).setCell ⟨b,1,none⟩ v1).setCell ⟨b,2,none⟩ v2).cell? ⟨c,j,none⟩=some v:=by
 rw[World.cell?_setCell_far _ _ _ _ hp,World.cell?_setCell_far _ _ _ _ hp,World.cell?_setCell_far _ _ _ _ hp];exact h
theorem keepR {W:World} {A B:Prop} {R:Nat} (h:A/\B) (k:W.heap[R]?=some (.cells #[.bool false,.int .i64 0,.string ⟨#[]⟩] 122 (0,0))):(A/\B)/\W.heap[R]?=some (.cells #[.bool false,.int .i64 0,.string ⟨#[]⟩] 122 (0,0))/\W.cell? ⟨R,0,none⟩=some (.bool false)/\W.cell? ⟨R,1,none⟩=some (.int .i64 0)/\W.cell? ⟨R,2,none⟩=some (.string ⟨#[]⟩)/\∀ j,W.frozen? ⟨R,j,none⟩=false:=⟨h,k,Gi k⟩
theorem Ya (n g:Nat) (ta ra sa:Option Addr) (tc rn rc sc:Nat) (ts:List ByteArray) (gn gs:ByteArray) (w:World) (h1:1<=n) (h8:n<=8) (hsh:Cr w g n ta ra ts.length tc rn rc (.slice sa ts.length sc)) :
  Calls Tryz.prog 58 #[.pointer (some ⟨g,0,none⟩),.agg #[.string gn,.bool false,.string gs]] w fun e w'=>Below w.heap.size w w'/\∃ y told,e=.returned (.tuple #[.agg #[.bool y.has,.int .i64 y.code,.string y.text],.bool told])/\Ny n ts ⟨gn,false,gs⟩ y told:=by
 obtain⟨W,eW⟩:∃ W,((w.alloc (.cells #[.string gn,.bool false,.string gs] 85)).alloc (.cells #[.bool false,.int .i64 0,.string ⟨#[]⟩] 122))=W:=⟨_,rfl⟩
 have hb0:Below w.heap.size w W:=by rw[<- eW];exact(aN _ _).alloc (by simp) _
 have hgl:g<w.heap.size:=hsh.lt
 have x0:W.cell? ⟨g,0,none⟩=some (.int .i64 n):=by unfold Cr at hsh;exact Ab hb0 (by rw[cH hsh];rfl)
 have x1:W.cell? ⟨w.heap.size,1,none⟩=some (.bool false):=by rw[<- eW];simp[go_sem]
 have x2:W.cell? ⟨w.heap.size,2,none⟩=some (.string gs):=by rw[<- eW];simp[go_sem]
 have HR:Hd (W.heap[w.heap.size+1]?=some (.cells #[.bool false,.int .i64 0,.string ⟨#[]⟩] 122 (0,0))):=by
  show W.heap[w.heap.size+1]?=_;rw[<- eW];have h:=Aj (w.alloc (.cells #[.string gn,.bool false,.string gs] 85)) (.cells #[.bool false,.int .i64 0,.string ⟨#[]⟩] 122);rw[show (w.alloc (.cells #[.string gn,.bool false,.string gs] 85)).heap.size=w.heap.size+1 from by simp] at h;exact h
 have HONE:Hd (∀ V:World,Calls Tryz.prog 91 #[.bool true] V fun e w'=>e=.returned (.string ⟨#[49]⟩)/\V=w'):=fun V=>Km true V
 have HZERO:Hd (∀ V:World,Calls Tryz.prog 91 #[.bool false] V fun e w'=>e=.returned (.string ⟨#[48]⟩)/\V=w'):=fun V=>Km false V
 obtain⟨s1,e1⟩:∃ s1,Ap n ⟨#[49]⟩=s1:=⟨_,rfl⟩
 obtain⟨s0,e0⟩:∃ s0,Ap n ⟨#[48]⟩=s0:=⟨_,rfl⟩
 have HS1:Hd (∀ V:World,Calls Tryz.prog 29 #[.string ⟨#[49]⟩,.int .i64 n] V fun e w'=>e=.returned (.string s1)/\Below V.heap.size V w'):=fun V=>by rw[<- e1];exact Gv ⟨#[49]⟩ n V (by decide) h1 h8
 have HS0:Hd (∀ V:World,Calls Tryz.prog 29 #[.string ⟨#[48]⟩,.int .i64 n] V fun e w'=>e=.returned (.string s0)/\Below V.heap.size V w'):=fun V=>by rw[<- e0];exact Gv ⟨#[48]⟩ n V (by decide) h1 h8
 have E1:Hd (Ap n ⟨#[49]⟩=s1):=e1
 have E0:Hd (Ap n ⟨#[48]⟩=s0):=e0
 clear e1 e0
 have hbA:Below W.heap.size W W.drew:=(Below.refl _ _).drew
 by_cases q1:gs=s1
 ·have HO:Hd (Ny n ts ⟨gn,false,gs⟩ ⟨true,0,⟨#[]⟩⟩ true):=Or.inr ⟨rfl,_,Ps rfl (by rw[E1.o];exact q1),by decide,fun _ _=>rfl⟩;have d1:=Eh q1;clear q1;go_enter Tryz.func58,Tryz.ntmps58;go_wp2_with fail;clear eW
  go_region_held3 (fun w'=>w'.cell? ⟨g,0,none⟩=some (.int .i64 n)/\w'.cell? ⟨w.heap.size,2,none⟩=some (.string gs))
   (first|assumption|(simp[*];done)|exact⟨Ab hb2 (by simp[*]),Ab hb2 (by simp[*])⟩)
   (first|(go_at_call 91;refine(HONE.o _).mono ?_;rintro e w1 ⟨rfl,rfl⟩)|(go_at_call 29;refine(HS1.o _).mono ?_;rintro e w2 ⟨rfl,hb2⟩))
  all_goals
   have hB2:=bt hb0 (bt hbA hb2);have hR2:=Ag (bt hbA hb2) HR.o;obtain⟨z0,z1,z2,zf⟩:=Gi hR2;clear x0 x1 x2 hbA hb2;go_wp2_with fail;go_region
   all_goals
    go_wp2;exact bR (v:=.tuple #[.agg #[.bool true,.int .i64 0,.string ⟨#[]⟩],.bool true]) (by simp[results,Tryz.results58,go_sem,z0,z1,z2]) rfl ⟨(Bc hB2 (by omega) _ _ _).drew,⟨true,0,⟨#[]⟩⟩,true,rfl,HO.o⟩
 ·have d1:=Es q1
  obtain⟨told,dq,HO⟩:∃ told,(gs.toList == s0.toList)=told/\Hd (Ny n ts ⟨gn,false,gs⟩ ⟨false,0,⟨#[]⟩⟩ told):=by
   by_cases q0:gs=s0
   ·exact⟨true,Eh q0,Or.inr ⟨rfl,_,Pt rfl (by rw[E1.o];exact q1) (by rw[E0.o];exact q0),by decide,fun _ _=>rfl⟩⟩
   ·exact⟨false,Es q0,Or.inl ⟨rfl,Up rfl (by rw[E1.o];exact q1) (by rw[E0.o];exact q0)⟩⟩
  clear q1;go_enter Tryz.func58,Tryz.ntmps58;go_wp2_with fail;clear eW
  go_region_held3 (fun w'=>w'.cell? ⟨g,0,none⟩=some (.int .i64 n)/\w'.cell? ⟨w.heap.size,2,none⟩=some (.string gs))
   (first|assumption|(simp[*];done)|exact⟨Ab hb2 (by simp[*]),Ab hb2 (by simp[*])⟩)
   (first|(go_at_call 91;refine(HONE.o _).mono ?_;rintro e w1 ⟨rfl,rfl⟩)|(go_at_call 29;refine(HS1.o _).mono ?_;rintro e w2 ⟨rfl,hb2⟩))
  all_goals
   have hB2:=bt hb0 (bt hbA hb2);have hR2:=Ag (bt hbA hb2) HR.o;have y0:=Ab (bt hbA hb2) x0;have y2:=Ab (bt hbA hb2) x2;clear x0 x1 x2 hbA hb2;have hbC:Below w2.heap.size w2 w2.drew:=(Below.refl _ _).drew;have hlw:w.heap.size+1<w2.heap.size:=Af hR2;go_wp2_with fail
   go_region_held3 (fun w'=>(w'.cell? ⟨g,0,none⟩=some (.int .i64 n)/\w'.cell? ⟨w.heap.size,2,none⟩=some (.string gs))/\w'.heap[w.heap.size+1]?=some (.cells #[.bool false,.int .i64 0,.string ⟨#[]⟩] 122 (0,0))/\w'.cell? ⟨w.heap.size+1,0,none⟩=some (.bool false)/\w'.cell? ⟨w.heap.size+1,1,none⟩=some (.int .i64 0)/\w'.cell? ⟨w.heap.size+1,2,none⟩=some (.string ⟨#[]⟩)/\∀ j,w'.frozen? ⟨w.heap.size+1,j,none⟩=false)
    (first|exact keepR ⟨y0,y2⟩ hR2|(go_split_ands;with_reducible (refine keepR ⟨Ab hb4 ?_,Ab hb4 ?_⟩ (Ag hb4 ?_)<;>assumption))|(go_split_ands;with_reducible (refine keepR ⟨Xw (by omega) _ _ _ ?_,Xw (by omega) _ _ _ ?_⟩ (set3_same ?_)<;>assumption))|assumption|(simp[*];done))
    (first|(go_at_call 91;refine(HZERO.o _).mono ?_;rintro e w3 ⟨rfl,rfl⟩)|(go_at_call 29;refine(HS0.o _).mono ?_;rintro e w4 ⟨rfl,hb4⟩))
   all_goals
    go_wp2
    rename_i hh
    obtain⟨_,_,z0,z1,z2,zf⟩:=hh
    first
     | exact bR (v:=.tuple #[.agg #[.bool false,.int .i64 0,.string ⟨#[]⟩],.bool told]) (by simp[results,Tryz.results58,go_sem,z0,z1,z2]) rfl ⟨Bc (bt hB2 (bt hbC hb4)) (by omega) _ _ _,⟨false,0,⟨#[]⟩⟩,told,rfl,HO.o⟩
     | exact bR (v:=.tuple #[.agg #[.bool false,.int .i64 0,.string ⟨#[]⟩],.bool told]) (by simp[results,Tryz.results58,go_sem,z0,z1,z2]) rfl ⟨bt (Bc (bt hB2 hbC) (by omega) _ _ _) hb4,⟨false,0,⟨#[]⟩⟩,told,rfl,HO.o⟩
theorem Yb (n g:Nat) (ta ra sa:Option Addr) (tc rn rc sc:Nat) (ts:List ByteArray) (gn gs:ByteArray) (w:World) (h1:1<=n) (h8:n<=8) (hsh:Cr w g n ta ra ts.length tc rn rc (.slice sa ts.length sc)) (hsm:Cp w sa (ts.map (Ap n))) (hc:Cp w ta ts) (hl:ts.length<=1048576) (hs:∀ i,i<ts.length->(nx ts i).size<=2002) (hasc:Ey (ts.map (Ap n))) :
  Calls Tryz.prog 58 #[.pointer (some ⟨g,0,none⟩),.agg #[.string gn,.bool true,.string gs]] w fun e w'=>Below w.heap.size w w'/\∃ y told,e=.returned (.tuple #[.agg #[.bool y.has,.int .i64 y.code,.string y.text],.bool told])/\Ny n ts ⟨gn,true,gs⟩ y told:=by
 obtain⟨W,eW⟩:∃ W,((w.alloc (.cells #[.string gn,.bool true,.string gs] 85)).alloc (.cells #[.bool false,.int .i64 0,.string ⟨#[]⟩] 122))=W:=⟨_,rfl⟩
 have hb0:Below w.heap.size w W:=by rw[<- eW];exact(aN _ _).alloc (by simp) _
 have hgl:g<w.heap.size:=hsh.lt
 have x0:W.cell? ⟨g,0,none⟩=some (.int .i64 n):=by unfold Cr at hsh;exact Ab hb0 (by rw[cH hsh];rfl)
 have x5:W.cell? ⟨w.heap.size,0,none⟩=some (.string gn):=by rw[<- eW];simp[go_sem]
 have x1:W.cell? ⟨w.heap.size,1,none⟩=some (.bool true):=by rw[<- eW];simp[go_sem]
 have x2:W.cell? ⟨w.heap.size,2,none⟩=some (.string gs):=by rw[<- eW];simp[go_sem]
 have HR:Hd (W.heap[w.heap.size+1]?=some (.cells #[.bool false,.int .i64 0,.string ⟨#[]⟩] 122 (0,0))):=by
  show W.heap[w.heap.size+1]?=_;rw[<- eW];have h:=Aj (w.alloc (.cells #[.string gn,.bool true,.string gs] 85)) (.cells #[.bool false,.int .i64 0,.string ⟨#[]⟩] 122);rw[show (w.alloc (.cells #[.string gn,.bool true,.string gs] 85)).heap.size=w.heap.size+1 from by simp] at h;exact h
 have HC:Hd (Cp w ta ts):=hc
 have HS:Hd (∀ i,i<ts.length->(nx ts i).size<=2002):=hs
 have HA:Hd (Ey (ts.map (Ap n))):=hasc
 have HSH:Hd (Cr w g n ta ra ts.length tc rn rc (.slice sa ts.length sc)):=hsh
 have HSM:Hd (Cp w sa (ts.map (Ap n))):=hsm
 clear hc hs hasc hsh hsm
 go_enter Tryz.func58,Tryz.ntmps58
 go_wp2_with fail
 clear eW
 refine(get_any n g ta ra sa tc rn rc sc ts gs _ (HSH.o.bl hb0) (HSM.o.bl hb0) (HC.o.bl hb0) hl HA.o).mono ?_
 rintro e w1 ⟨hw1,A,ok,rfl,hg⟩
 have hb1:Below W.heap.size W w1:=by rw[<- hw1];exact Below.refl _ _
 clear hw1
 obtain⟨eA,_⟩:=Wl HA.o hg
 have hAs:A.size<=2002:=by rw[eA];exact getA_size HS.o
 have EA:Hd (Gg n ts gs=A):=eA.symm
 have hB1:=bt hb0 hb1
 have hR1:=Ag hb1 HR.o
 have y5:=Ab hb1 x5
 clear hg eA x0 x1 x2 x5 hb1 HR
 go_wp2_with fail
 refine(Wi A _ hAs).mono ?_
 rintro e w2 ⟨hb2,hrd⟩
 have hB2:=bt hB1 hb2
 have hR2:=Ag hb2 hR1
 have z5:=Ab hb2 y5
 have hlw:w.heap.size+1<w2.heap.size:=Af hR2
 clear hB1 hR1 y5 hb2
 rcases hrd with ⟨hr,rfl⟩|⟨hr,rfl⟩
 ·obtain⟨k1,k2⟩:=rr_code hr;have ht:=rr_text hr;have HRR:Hd (Xx (Gg n ts gs)):=by show Xx _;rw[EA.o];exact hr
  obtain⟨has,HO,hcs⟩:∃ has,Hd (Ny n ts ⟨gn,true,gs⟩ ⟨has,Wo A,rdT A⟩ true)/\((has=false/\(Wo A == 4)=true/\((rdT A).toList == gn.toList)=true)\/(has=true/\(Wo A == 4)=true/\((rdT A).toList == gn.toList)=false)\/(has=true/\(Wo A == 4)=false)):=by
   by_cases q1:Wo A=4
   ·by_cases q2:rdT A=gn
    ·exact⟨false,Or.inr ⟨rfl,_,Ku rfl HRR.o (by rw[EA.o];exact⟨q1,q2⟩),ht,fun _ _=>rfl⟩,Or.inl ⟨rfl,by simp[q1],Eh q2⟩⟩
    ·exact⟨true,Or.inr ⟨rfl,_,Ob rfl HRR.o (by rw[EA.o];exact fun h=>q2 h.2),ht,fun _ _=>by rw[EA.o]⟩,Or.inr (Or.inl ⟨rfl,by simp[q1],Es q2⟩)⟩
   ·exact⟨true,Or.inr ⟨rfl,_,Ob rfl HRR.o (by rw[EA.o];exact fun h=>q1 h.1),ht,fun _ _=>by rw[EA.o]⟩,Or.inr (Or.inr ⟨rfl,by simp[q1]⟩)⟩
  generalize Wo A=c at *;generalize rdT A=t at *;clear hr HRR EA
  rcases hcs with ⟨rfl,d1,d2⟩|⟨rfl,d1,d2⟩|⟨rfl,d1⟩
  ·obtain rfl:c=4:=by simpa using d1
   clear d1;have hb3:Below w2.heap.size w2 (w2.alloc (.cells #[.int .i64 4,.string t,.slice none 0 0] 32)):=aN _ _;obtain⟨r0,r1,r2,rf⟩:=Gi hR2;have s5:=Ab hb3 z5;have hB3:=bt hB2 hb3;clear hb3 z5;go_wp2_with fail;exact bR (v:=.tuple #[.agg #[.bool false,.int .i64 4,.string t],.bool true]) (by simp[results,Tryz.results58,go_sem,r0,r1,r2,hlw,World.cell?_alloc_lt]) rfl ⟨(by first|exact Bc hB3 (by omega) _ _ _|exact(Bc hB2 (by omega) _ _ _).alloc (Below.size (Bc hB2 (by omega) _ _ _)) _),⟨false,4,t⟩,true,rfl,HO.o⟩
  ·obtain rfl:c=4:=by simpa using d1
   clear d1;have hb3:Below w2.heap.size w2 (w2.alloc (.cells #[.int .i64 4,.string t,.slice none 0 0] 32)):=aN _ _;obtain⟨r0,r1,r2,rf⟩:=Gi hR2;have s5:=Ab hb3 z5;have hB3:=bt hB2 hb3;clear hb3 z5;go_wp2_with fail;exact bR (v:=.tuple #[.agg #[.bool true,.int .i64 4,.string t],.bool true]) (by simp[results,Tryz.results58,go_sem,r0,r1,r2,hlw,World.cell?_alloc_lt]) rfl ⟨(by first|exact Bc hB3 (by omega) _ _ _|exact(Bc hB2 (by omega) _ _ _).alloc (Below.size (Bc hB2 (by omega) _ _ _)) _),⟨true,4,t⟩,true,rfl,HO.o⟩
  ·skip;have hb3:Below w2.heap.size w2 (w2.alloc (.cells #[.int .i64 c,.string t,.slice none 0 0] 32)):=aN _ _;obtain⟨r0,r1,r2,rf⟩:=Gi hR2;have s5:=Ab hb3 z5;have hB3:=bt hB2 hb3;clear hb3 z5;go_wp2_with fail;exact bR (v:=.tuple #[.agg #[.bool true,.int .i64 c,.string t],.bool true]) (by simp[results,Tryz.results58,go_sem,r0,r1,r2,hlw,World.cell?_alloc_lt]) rfl ⟨(by first|exact Bc hB3 (by omega) _ _ _|exact(Bc hB2 (by omega) _ _ _).alloc (Below.size (Bc hB2 (by omega) _ _ _)) _),⟨true,c,t⟩,true,rfl,HO.o⟩
 ·have HO:Hd (Ny n ts ⟨gn,true,gs⟩ ⟨false,0,⟨#[]⟩⟩ false):=Or.inl ⟨rfl,tell_no rfl (by rw[EA.o];exact hr)⟩;have hb3:Below w2.heap.size w2 (w2.alloc (.cells #[.int .i64 0,.string ⟨#[]⟩,.slice none 0 0] 32)):=aN _ _;obtain⟨r0,r1,r2,rf⟩:=Gi hR2;have hB3:=bt hB2 hb3;clear hb3 hr;go_wp2_with fail;exact bR (v:=.tuple #[.agg #[.bool false,.int .i64 0,.string ⟨#[]⟩],.bool false]) (by simp[results,Tryz.results58,go_sem,r0,r1,r2,hlw,World.cell?_alloc_lt]) rfl ⟨(by first|exact Bc hB3 (by omega) _ _ _|exact(Bc hB2 (by omega) _ _ _).alloc (Below.size (Bc hB2 (by omega) _ _ _)) _),⟨false,0,⟨#[]⟩⟩,false,rfl,HO.o⟩
theorem Yc (n g:Nat) (ta ra sa:Option Addr) (tc rn rc sc:Nat) (ts:List ByteArray) (gl:G3) (w:World) (h1:1<=n) (h8:n<=8) (hsh:Cr w g n ta ra ts.length tc rn rc (.slice sa ts.length sc)) (hsm:Cp w sa (ts.map (Ap n))) (hc:Cp w ta ts) (hl:ts.length<=1048576) (hs:∀ i,i<ts.length->(nx ts i).size<=2002) (hasc:Ey (ts.map (Ap n))) :
  Calls Tryz.prog 58 #[.pointer (some ⟨g,0,none⟩),.agg #[.string gl.name,.bool gl.ask,.string gl.sum]] w fun e w'=>Below w.heap.size w w'/\∃ y told,e=.returned (.tuple #[.agg #[.bool y.has,.int .i64 y.code,.string y.text],.bool told])/\Ny n ts gl y told:=by
 obtain⟨gn,ga,gs⟩:=gl
 cases ga
 ·exact Ya n g ta ra sa tc rn rc sc ts gn gs w h1 h8 hsh
 ·exact Yb n g ta ra sa tc rn rc sc ts gn gs w h1 h8 hsh hsm hc hl hs hasc
theorem goOn_anyV (B m T:Nat) (is:List I3) (a:Option Addr) (cap:Nat) (ys:List R3) (ask:Bool) (nm:ByteArray) (st:Int) (y y':R3) (w:World) (hG:Gn is ys B m T (.slice a is.length cap) false 0 ⟨#[]⟩ ask nm st w) (hB:B<=w.heap.size) (hB1:1<B) (hcode:Ni B w a is) (hT:Jr w) (hP:Ld w) (hv:Ah is=true) (hy:y.text.size<=2000) (hyy:∀ nm s,Dy ask nm y s=Dy ask nm y' s) :
  Calls Tryz.prog 89 #[.agg #[.bool y.has,.int .i64 y.code,.string y.text],.pointer (some ⟨m,0,none⟩),.pointer (some ⟨T,0,none⟩)] w fun e w'=>(Below B w w'/\∀ b cs X,X≠9->b≠m->b≠T->w.heap[b]?=some (.cells cs X (0,0))->w'.heap[b]?=some (.cells cs X (0,0)))/\∃ ov c t ask' nm' st',e=.returned (Ao ov c t ask' nm' st')/\Gn is (ys++[y']) B m T (.slice a is.length cap) ov c t ask' nm' st' w':=(Zm B m T is a cap ys ask nm st y y' w hG hB hB1 hcode hT hP hv hy hyy).mono fun e w' ⟨h1,_,h3⟩=>⟨h1,h3⟩
open Classical in
noncomputable def Lb (n:Nat) (ts:List ByteArray) (out:ByteArray) (c:Int) (t:ByteArray):Int:=if Got n ts out/\Gg n ts out=Bn c t then 0 else 4
theorem Hr {c:Int} {t:ByteArray} (ht:t.size<=2000):(Bn c t).size<=2002:=by
 unfold Bn
 rw[ByteArray.size_append,ByteArray.size_append]
 show 1+1+t.size<=2002
 omega
theorem rx_size {n:Nat} {ts:List ByteArray} {ys:List R3} (h:∀ i,i<ys.length->Fg (rx ys i)=true):∀ i,i<ys.length->(rx ys i).text.size<=2000:=fun i hi=>by
 have:=h i hi
 simp only[Fg,Bool.and_eq_true,decide_eq_true_eq] at this
 exact this.1.1
def Mv (n:Nat) (ts:List ByteArray) (is:List I3) (gs:List G3) (out:ByteArray) (r:Int):Prop:=Mw is gs (Gd n ts) (Lb n ts out) [] r
theorem VAt.zero {is:List I3} {ys:List R3} {B m:Nat} {cd:Value} {c:Int} {t:ByteArray} {ask:Bool} {nm:ByteArray} {st:Int} {w:World} (h:VAt is ys B m cd false c t ask nm st w):c=0/\t=⟨#[]⟩:=by
 rcases h with ⟨h,_⟩|⟨_,h1,h2,_⟩
 ·cases h
 ·exact⟨h1,h2⟩
theorem Gn.set6 {is:List I3} {ys:List R3} {B m T b:Nat} {cd:Value} {ov:Bool} {c:Int} {t:ByteArray} {ask:Bool} {nm:ByteArray} {st:Int} {w:World} {cs:Array Value} (h:Gn is ys B m T cd ov c t ask nm st w) (hb:w.heap[b]?=some (.cells cs 115 (0,0))) (hc:cs.size=6) (hT:T≠b) (v0 v1 v2 v3 v4 v5:Value):Gn is ys B m T cd ov c t ask nm st ((((((w.setCell ⟨b,0,none⟩ v0).setCell ⟨b,1,none⟩ v1).setCell ⟨b,2,none⟩ v2).setCell ⟨b,3,none⟩ v3).setCell ⟨b,4,none⟩ v4).setCell ⟨b,5,none⟩ v5):=
 ⟨by rw[Dl hT];exact h.1,h.2.1,h.2.2.1,Nat.lt_of_lt_of_le h.2.2.2.1 (Dg (B:=0) (Below.refl 0 w) (Nat.zero_le _) v0 v1 v2 v3 v4 v5).size,h.2.2.2.2.mono (fun ss pl st' lk k=>(Rq hc hb v0 v1 v2 v3 v4 v5).2 _ _ _ _ _ _ _ k)⟩
theorem vouch_any (n g:Nat) (ta ra sa a la:Option Addr) (tc rn rc sc cap lc:Nat) (ts:List ByteArray) (is:List I3) (gs:List G3) (out:ByteArray) (w:World) (h1:1<=n) (h8:n<=8) (hsh:Cr w g n ta ra ts.length tc rn rc (.slice sa ts.length sc)) (hsm:Cp w sa (ts.map (Ap n))) (hT:Jr w) (hP:Ld w) (hc:Cp w ta ts) (hl:ts.length<=1048576) (hs:∀ i,i<ts.length->(nx ts i).size<=2002) (hasc:Ey (ts.map (Ap n))) (hv:Ah is=true) (hr:Dr w a is) (hg:Ks w la gs) (hgl:gs.length<=200) :
  Calls Tryz.prog 36 #[.pointer (some ⟨g,0,none⟩),.agg #[.slice a is.length cap,.slice la gs.length lc,.string out]] w fun e w'=>Below w.heap.size w w'/\∃ r:Int,e=.returned (.int .i64 r)/\Mv n ts is gs out r:=by
 obtain⟨W,eW⟩:∃ W,(w.alloc (.cells #[.slice a is.length cap,.slice la gs.length lc,.string out] 52))=W:=⟨_,rfl⟩
 have hb0:Below w.heap.size w W:=by rw[<- eW];exact aN _ _
 have hWs:W.heap.size=w.heap.size+1:=by rw[<- eW];simp
 have HR0:Hd (W.heap[w.heap.size]?=some (.cells #[.slice a is.length cap,.slice la gs.length lc,.string out] 52 (0,0))):=by
  show W.heap[w.heap.size]?=_;rw[<- eW];exact Aj _ _
 have HSH:Hd (Cr w g n ta ra ts.length tc rn rc (.slice sa ts.length sc)):=hsh
 have HSM:Hd (Cp w sa (ts.map (Ap n))):=hsm
 clear hsh hsm
 obtain⟨p0,p1,p2,_⟩:=Gi HR0.o
 have HWS:Hd (W.heap.size=w.heap.size+1):=hWs
 have HB0:Hd (Below w.heap.size w W):=hb0
 have HT:Hd (Jr w):=hT
 have HP:Hd (Ld w):=hP
 have HC:Hd (Cp w ta ts):=hc
 have HSZ:Hd (∀ i,i<ts.length->(nx ts i).size<=2002):=hs
 have HASC:Hd (Ey (ts.map (Ap n))):=hasc
 have HV:Hd (Ah is=true):=hv
 have HR:Hd (Dr w a is):=hr
 have HG:Hd (Ks w la gs):=hg
 clear hT hP hc hs hasc hv hr hg hb0 hWs
 go_enter Tryz.func36,Tryz.ntmps36
 go_wp2_with fail
 clear eW
 refine(Vh a cap is _ (HT.o.bl HB0.o) (HP.o.bl HB0.o) (HR.o.bl HB0.o) HV.o).mono ?_
 rintro e w1 ⟨hb1,B,m,T,ov,c,t,ask,nm,st,hB0,hB1,rfl,hG⟩
 have HGN:Hd (Gn is [] B m T (.slice a is.length cap) ov c t ask nm st (w1.alloc (.cells #[.bool ov,.int .i64 c,.string t,.bool ask,.string nm,.int .i64 st] 115))):=hG.bl (aN _ _)
 have HB1:Hd (Below W.heap.size W (w1.alloc (.cells #[.bool ov,.int .i64 c,.string t,.bool ask,.string nm,.int .i64 st] 115))):=hb1.alloc hb1.size _
 have HTN:Hd ((w1.alloc (.cells #[.bool ov,.int .i64 c,.string t,.bool ask,.string nm,.int .i64 st] 115)).heap[w1.heap.size]?=some (.cells #[.bool ov,.int .i64 c,.string t,.bool ask,.string nm,.int .i64 st] 115 (0,0))):=Aj _ _
 have HIN:Hd (W.heap.size<=B/\B<=w1.heap.size/\m<w1.heap.size/\T<w1.heap.size/\1<B):=⟨hB0,hB1,hG.2.2.2.1,Af hG.1,by have:=(HP.o.bl HB0.o).two;omega⟩
 have q0:=Ab (hb1.alloc hb1.size (.cells #[.bool ov,.int .i64 c,.string t,.bool ask,.string nm,.int .i64 st] 115)) p0
 have q1:=Ab (hb1.alloc hb1.size (.cells #[.bool ov,.int .i64 c,.string t,.bool ask,.string nm,.int .i64 st] 115)) p1
 clear hG hb1 hB0 hB1 p0 p1 p2
 have HCB:Hd (∀ b off,a=some ⟨b,off,none⟩->b<B):=fun b off e=>by
  have:=(Ed HV.o).1;obtain⟨b',off',e',c1,_,_⟩:=HR.o 0 (by omega);rw[e] at e';cases e';have h1:=World.block_lt_of_cell? _ _ c1;have h2:=HWS.o;have h3:=HIN.o.1;simp only at h1;omega
 unfold Ao
 go_wp2_with fail
 go_loopw [22] (fun i wr=>∃(ys:List R3) (ov:Bool) (c:Int) (t:ByteArray) (ask:Bool) (nm:ByteArray) (st:Int),ys.length<=gs.length/\i=.int .i64 ys.length/\Hd (∀ i,i<ys.length->Fg (rx ys i)=true)/\Hd (∀ r,Mw is gs (Gd n ts) (Lb n ts out) ys r->Mv n ts is gs out r)/\Hd (Gn is ys B m T (.slice a is.length cap) ov c t ask nm st wr)/\Hd (wr.heap[w1.heap.size]?=some (.cells #[.bool ov,.int .i64 c,.string t,.bool ask,.string nm,.int .i64 st] 115 (0,0)))/\Hd (Below W.heap.size W wr)) (fun i _=>gs.length-(intOf i).toNat)
 case atStart=>exact⟨[],ov,c,t,ask,nm,st,Nat.zero_le _,rfl,(fun i hi=>by simp at hi:∀ i,i<([]:List R3).length->Fg (rx [] i)=true),(fun r h=>h:∀ r,Mw is gs (Gd n ts) (Lb n ts out) [] r->Mv n ts is gs out r),HGN.o,HTN.o,HB1.o⟩
 case round=>
  clear HGN HTN HB1 q0 q1;obtain⟨ys,ov,c,t,ask,nm,st,hk,rfl,HOKS,HVP,HGN,HTN,HBW⟩:=hrel;have HBw:Hd (Below w.heap.size w wr):=HB0.o.trans (HBW.o.mono (by have:=HWS.o;omega))
  by_cases hlt:ys.length<gs.length
  ·have hkI:(ys.length:Int)<(gs.length:Int):=by omega
   obtain⟨b,off,rfl,c1,c2,c3⟩:=(HG.o.bl HBw.o) ys.length hlt;obtain⟨g,eg⟩:∃ g,gx gs ys.length=g:=⟨_,rfl⟩;rw[eg] at c1 c2 c3;have EG:Hd (gx gs ys.length=g):=eg;have HLT:Hd (ys.length<gs.length):=hlt;clear eg;obtain⟨gn,ga,gu⟩:=g;simp only at c1 c2 c3;have hbA:Below wr.heap.size wr (wr.alloc (.cells #[.string gn,.bool ga,.string gu] 85)):=aN _ _;have HBA:Hd (Below W.heap.size W (wr.alloc (.cells #[.string gn,.bool ga,.string gu] 85))):=HBW.o.alloc HBW.o.size _;have HBAw:Hd (Below w.heap.size w (wr.alloc (.cells #[.string gn,.bool ga,.string gu] 85))):=HBw.o.alloc HBw.o.size _;have HTA:Hd ((wr.alloc (.cells #[.string gn,.bool ga,.string gu] 85)).heap[w1.heap.size]?=some (.cells #[.bool ov,.int .i64 c,.string t,.bool ask,.string nm,.int .i64 st] 115 (0,0))):=Ag hbA HTN.o;have HGA:Hd (Gn is ys B m T (.slice a is.length cap) ov c t ask nm st (wr.alloc (.cells #[.string gn,.bool ga,.string gu] 85))):=HGN.o.bl hbA;obtain⟨k0,k1,k2,k3,k4,k5,kf⟩:=Ei HTA.o;clear hbA;cases ov
   ·obtain⟨rfl,rfl⟩:=HGN.o.2.2.2.2.zero
    obtain⟨n',hful⟩:∃ n',Az is ys Gc (.wait ask nm n'):=by
     rcases HGN.o.2.2.2.2.full with ⟨h,_⟩|⟨_,h⟩
     ·cases h
     ·exact h
    have HFU:Hd (Az is ys Gc (.wait ask nm n')):=hful;clear hful
    by_cases hm:gn=nm/\ga=ask
    ·obtain⟨rfl,rfl⟩:=hm;go_wp2_with fail;refine(Yc n g ta ra sa tc rn rc sc ts ⟨gn,ga,gu⟩ _ h1 h8 (HSH.o.bl HBAw.o) (HSM.o.bl HBAw.o) (HC.o.bl HBAw.o) hl HSZ.o HASC.o).mono ?_;rintro e w2 ⟨hb2,y,told,rfl,hrep⟩;have HB2:Hd (Below W.heap.size W w2):=bt HBA.o hb2;have HB2w:Hd (Below w.heap.size w w2):=bt HBAw.o hb2;have HT2:Hd (w2.heap[w1.heap.size]?=some (.cells #[.bool false,.int .i64 0,.string ⟨#[]⟩,.bool ga,.string gn,.int .i64 st] 115 (0,0))):=Ag hb2 HTA.o;have HG2:Hd (Gn is ys B m T (.slice a is.length cap) false 0 ⟨#[]⟩ ga gn st w2):=HGA.o.bl hb2;clear hb2 c1 c2 c3 k0 k1 k2 k3 k4 k5 kf
     rcases hrep with ⟨rfl,htl⟩|⟨rfl,y',htl,hyt,hyy⟩
     ·have HO:Hd (Mv n ts is gs out 3):=HVP.o 3 (.untold HFU.o HLT.o (by rw[EG.o];exact⟨rfl,rfl⟩) (by rw[EG.o];exact htl));clear htl;go_wp2_with fail;go_ret;exact⟨HB2w.o.alloc HB2w.o.size _,3,rfl,HO.o⟩
     ·have HVN:Hd (∀ r,Mw is gs (Gd n ts) (Lb n ts out) (ys++[y']) r->Mv n ts is gs out r):=fun r h=>HVP.o r (.go HFU.o HLT.o (by rw[EG.o];exact⟨rfl,rfl⟩) (by rw[EG.o];exact htl) h);have HOKN:Hd (∀ i,i<(ys++[y']).length->Fg (rx (ys++[y']) i)=true):=Vv HOKS.o (tell_ok htl);obtain⟨yh,yc,yt⟩:=y;simp only at hyt hyy ⊢;have hb3:Below w2.heap.size w2 (w2.alloc (.cells #[.bool yh,.int .i64 yc,.string yt] 122)):=aN _ _;have HB3:Hd (Below W.heap.size W (w2.alloc (.cells #[.bool yh,.int .i64 yc,.string yt] 122))):=bt HB2.o hb3;have HB3w:Hd (Below w.heap.size w (w2.alloc (.cells #[.bool yh,.int .i64 yc,.string yt] 122))):=bt HB2w.o hb3;have HT3:Hd ((w2.alloc (.cells #[.bool yh,.int .i64 yc,.string yt] 122)).heap[w1.heap.size]?=some (.cells #[.bool false,.int .i64 0,.string ⟨#[]⟩,.bool ga,.string gn,.int .i64 st] 115 (0,0))):=Ag hb3 HT2.o;have hsz3:w1.heap.size<(w2.alloc (.cells #[.bool yh,.int .i64 yc,.string yt] 122)).heap.size:=Af HT3.o
      have HON:Hd (∀ _:Unit,Calls Tryz.prog 89 #[.agg #[.bool yh,.int .i64 yc,.string yt],.pointer (some ⟨m,0,none⟩),.pointer (some ⟨T,0,none⟩)] (w2.alloc (.cells #[.bool yh,.int .i64 yc,.string yt] 122)) fun e w'=>(Below B (w2.alloc (.cells #[.bool yh,.int .i64 yc,.string yt] 122)) w'/\∀ b cs X,X≠9->b≠m->b≠T->(w2.alloc (.cells #[.bool yh,.int .i64 yc,.string yt] 122)).heap[b]?=some (.cells cs X (0,0))->w'.heap[b]?=some (.cells cs X (0,0)))/\∃ ov c t ask' nm' st',e=.returned (Ao ov c t ask' nm' st')/\Gn is (ys++[y']) B m T (.slice a is.length cap) ov c t ask' nm' st' w'):=fun _=>
       goOn_anyV B m T is a cap ys ga gn st ⟨yh,yc,yt⟩ y' _ (HG2.o.bl hb3) (by have:=HIN.o;omega) HIN.o.2.2.2.2 ⟨HR.o.bl HB3w.o,HCB.o⟩ (HT.o.bl HB3w.o) (HP.o.bl HB3w.o) HV.o hyt hyy
      clear hb3 htl hyt hyy hsz3;go_wp2_with fail;refine(HON.o ()).mono ?_;rintro e w4 ⟨⟨hb4,hk4⟩,ov',c',t',ask',nm',st',rfl,hG4⟩;have HT4:Hd (w4.heap[w1.heap.size]?=some (.cells #[.bool false,.int .i64 0,.string ⟨#[]⟩,.bool ga,.string gn,.int .i64 st] 115 (0,0))):=hk4 _ _ 115 (by decide) (by have:=HIN.o;omega) (by have:=HIN.o;omega) HT3.o;have HB4:Hd (Below W.heap.size W w4):=HB3.o.trans (hb4.mono HIN.o.1);have HG4:Hd (Gn is (ys++[y']) B m T (.slice a is.length cap) ov' c' t' ask' nm' st' w4):=hG4;obtain⟨j0,j1,j2,j3,j4,j5,jf⟩:=Ei HT4.o;have HG5:Hd _:=HG4.o.set6 HT4.o rfl (by have:=HIN.o;omega) (.bool ov') (.int .i64 c') (.string t') (.bool ask') (.string nm') (.int .i64 st');have HT5:Hd _:=(Rq rfl HT4.o (.bool ov') (.int .i64 c') (.string t') (.bool ask') (.string nm') (.int .i64 st')).1;have HB5:Hd _:=Dg HB4.o (b:=w1.heap.size) (by have:=HIN.o;omega) (.bool ov') (.int .i64 c') (.string t') (.bool ask') (.string nm') (.int .i64 st');clear hb4 hk4 hG4 HON;unfold Ao;go_wp2_with fail;go_roundw
      case rel=>exact⟨ys++[y'],ov',c',t',ask',nm',st',by rw[List.length_append,List.length_singleton];omega,by rw[List.length_append,List.length_singleton];go_num,HOKN.o,HVN.o,HG5.o,HT5.o,HB5.o⟩
      case measure=>simp[intOf];omega
    ·have HO:Hd (Mv n ts is gs out 2):=HVP.o 2 (.other HFU.o HLT.o (by rw[EG.o];exact hm))
     by_cases hn:nm.toList=gn.toList
     ·have hne:ask≠ga:=fun e=>hm ⟨WideShapes.bytes_inj (by rw[ByteArray.toList_eq,ByteArray.toList_eq] at hn;exact hn.symm),e.symm⟩
      cases ask<;>cases ga
      ·exact absurd rfl hne
      ·go_wp2_with fail;go_ret;exact⟨HBAw.o,2,rfl,HO.o⟩
      ·go_wp2_with fail;go_ret;exact⟨HBAw.o,2,rfl,HO.o⟩
      ·exact absurd rfl hne
     ·go_wp2_with fail;go_ret;exact⟨HBAw.o,2,rfl,HO.o⟩
   ·obtain⟨n',hful⟩:∃ n',Az is ys Gc (.over c t n'):=by
     rcases HGN.o.2.2.2.2.full with ⟨_,h⟩|⟨h,_⟩
     ·exact h
     ·cases h
    have HO:Hd (Mv n ts is gs out 2):=HVP.o 2 (.few hful HLT.o);clear hful;go_wp2_with fail;go_ret;exact⟨HBAw.o,2,rfl,HO.o⟩
  ·have hkI:¬ (ys.length:Int)<(gs.length:Int):=by omega
   have HGE:Hd (gs.length<=ys.length):=by show gs.length<=ys.length;omega
   obtain⟨k0,k1,k2,k3,k4,k5,kf⟩:=Ei HTN.o;obtain⟨p0,p1,p2,_⟩:=Gi ((HBW.o.block w.heap.size (by have:=HWS.o;omega)).trans HR0.o);cases ov
   ·obtain⟨n',hful⟩:∃ n',Az is ys Gc (.wait ask nm n'):=by
     rcases HGN.o.2.2.2.2.full with ⟨h,_⟩|⟨_,h⟩
     ·cases h
     ·exact h
    have HO:Hd (Mv n ts is gs out 2):=HVP.o 2 (.none hful HGE.o);clear hful;go_wp2_with fail;go_ret;exact⟨HBw.o,2,rfl,HO.o⟩
   ·obtain⟨n',hful⟩:∃ n',Az is ys Gc (.over c t n'):=by
     rcases HGN.o.2.2.2.2.full with ⟨_,h⟩|⟨h,_⟩
     ·exact h
     ·cases h
    have HO:Hd (Mv n ts is gs out (Lb n ts out c t)):=HVP.o _ (.fin hful HGE.o);obtain⟨ht,hc0,hc5⟩:=Az.size HV.o (rx_size (n:=n) (ts:=ts) HOKS.o) hful (Px is) rfl;clear hful;go_wp2_with fail;refine(get_any n g ta ra sa tc rn rc sc ts out _ (HSH.o.bl HBw.o) (HSM.o.bl HBw.o) (HC.o.bl HBw.o) hl HASC.o).mono ?_;rintro e w2 ⟨hw2,A,ok,rfl,hgo⟩;(have hb2:Below wr.heap.size wr w2:=by rw[<- hw2];exact Below.refl _ _);clear hw2;obtain⟨eA,hok⟩:=Wl HASC.o hgo;have HB2w:Hd (Below w.heap.size w w2):=bt HBw.o hb2;have r1:=Ab hb2 k1;have r2:=Ab hb2 k2;have EA:Hd (Gg n ts out=A):=eA.symm;clear hb2 k0 k1 k2 k3 k4 k5 kf p0 p1 p2 hgo eA;cases ok
    ·have HR4:Hd (Mv n ts is gs out 4):=by
      have h:=HO.o;unfold Lb at h;rw[if_neg (fun h=>absurd (hok.2 h.1) (by decide))] at h;exact h
     go_wp2_with fail;go_ret;exact⟨HB2w.o,4,rfl,HR4.o⟩
    ·have hgot:=hok.1 rfl;have hfs:=Hr (c:=c) ht;have HFM:Hd (∀ V:World,Calls Tryz.prog 12 #[.agg #[.int .i64 c,.string t,.slice none 0 0]] V fun e w'=>e=.returned (.string (Bn c t))/\Below V.heap.size V w'):=fun V=>Qz c t V hc0 hc5 ht
     have HYES:Hd (A=Bn c t->Mv n ts is gs out 0):=fun q=>by
      have h:=HO.o;unfold Lb at h;rw[if_pos ⟨hgot,by rw[EA.o];exact q⟩] at h;exact h
     have HNO:Hd (¬ A=Bn c t->Mv n ts is gs out 4):=fun q=>by
      have h:=HO.o;unfold Lb at h;rw[if_neg (fun h=>q (by rw[<- EA.o];exact h.2))] at h;exact h
     clear hok hgot;generalize Bn c t=f at *
     by_cases q:A=f
     ·have HZ:Hd (Mv n ts is gs out 0):=HYES.o q;have dq:=Eh q;clear q HYES HNO;go_wp2_with fail;refine(HFM.o _).mono ?_;rintro e w3 ⟨rfl,hb3⟩;go_wp2_with fail;go_ret;exact⟨bt HB2w.o hb3,0,rfl,HZ.o⟩
     ·have HZ:Hd (Mv n ts is gs out 4):=HNO.o q;have dq:=Es q;clear q HYES HNO;go_wp2_with fail;refine(HFM.o _).mono ?_;rintro e w3 ⟨rfl,hb3⟩;go_wp2_with fail;go_ret;exact⟨bt HB2w.o hb3,4,rfl,HZ.o⟩
def VouO (n:Int) (ts:List ByteArray) (rs:List T3) (is:List I3) (gs:List G3) (out:ByteArray) (r:Int):Prop:=
 ((Kh n ts rs/\Kt n.toNat ⟨is,gs,out⟩)/\Mv n.toNat ts is gs out r)\/(¬ (Kh n ts rs/\Kt n.toNat ⟨is,gs,out⟩)/\r=1)
theorem Qn.bl {w w':World} {a la:Option Addr} {is:List I3} {gs:List G3} (h:Qn w a is la gs) (hb:Below w.heap.size w w'):Qn w' a is la gs:=⟨h.rc.bl hb,h.rg.bl hb,h.lc,h.lg,h.xc,h.ng,h.sg⟩
theorem Uc (n:Int) (ta ra a la:Option Addr) (tc rc cap lc:Nat) (ts:List ByteArray) (rs:List T3) (is:List I3) (gs:List G3) (out:ByteArray) (w:World) (hT:Jr w) (hP:Ld w) (h:Qm w ta ts ra rs) (hr:Qn w a is la gs) (ho:out.size<=maxLen) :
  Calls Tryz.prog 15 #[.agg #[.int .i64 n,.slice ta ts.length tc,.slice ra rs.length rc],.agg #[.slice a is.length cap,.slice la gs.length lc,.string out]] w fun e w'=>Below w.heap.size w w'/\∃ r,e=.returned (.int .i64 r)/\VouO n ts rs is gs out r:=by
 obtain⟨W,eW⟩:∃ W,((w.alloc (.cells #[.int .i64 n,.slice ta ts.length tc,.slice ra rs.length rc] 43)).alloc (.cells #[.slice a is.length cap,.slice la gs.length lc,.string out] 52))=W:=⟨_,rfl⟩
 have hb0:Below w.heap.size w W:=by rw[<- eW];exact(aN _ _).alloc (by simp) _
 have HS0:Hd (W.heap[w.heap.size]?=some (.cells #[.int .i64 n,.slice ta ts.length tc,.slice ra rs.length rc] 43 (0,0))):=by
  show W.heap[w.heap.size]?=_;rw[<- eW,Lib.alloc_old _ _ _ (by simp)];exact Aj _ _
 have HR0:Hd (W.heap[w.heap.size+1]?=some (.cells #[.slice a is.length cap,.slice la gs.length lc,.string out] 52 (0,0))):=by
  show W.heap[w.heap.size+1]?=_;rw[<- eW];have h:=Aj (w.alloc (.cells #[.int .i64 n,.slice ta ts.length tc,.slice ra rs.length rc] 43)) (.cells #[.slice a is.length cap,.slice la gs.length lc,.string out] 52);rw[show (w.alloc (.cells #[.int .i64 n,.slice ta ts.length tc,.slice ra rs.length rc] 43)).heap.size=w.heap.size+1 from by simp] at h;exact h
 obtain⟨s0,s1,s2,_⟩:=Gi HS0.o
 obtain⟨p0,p1,p2,_⟩:=Gi HR0.o
 have HI:Hd (Qm w ta ts ra rs):=h
 have HR:Hd (Qn w a is la gs):=hr
 have HT:Hd (Jr w):=hT
 have HP:Hd (Ld w):=hP
 clear h hr hT hP
 go_enter Tryz.func15,Tryz.ntmps15
 go_wp2_with fail
 clear eW
 refine(Nb n ta ra tc rc ts rs _ (HT.o.bl hb0) (HI.o.bl hb0)).mono ?_
 rintro e w1 ⟨hb1,hcs⟩
 have hB1:=bt hb0 hb1
 have s10:=Ab hb1 s0
 have s11:=Ab hb1 s1
 have s12:=Ab hb1 s2
 have p10:=Ab hb1 p0
 have p11:=Ab hb1 p1
 have p12:=Ab hb1 p2
 clear hb0 hb1 s0 s1 s2 p0 p1 p2
 rcases hcs with ⟨hg,v,rfl⟩|⟨hg,g,sg,rfl,hsh,hsm,_⟩
 rotate_left
 ·obtain⟨m,rfl⟩:=Int.eq_ofNat_of_zero_le (show 0<=n by have:=hg.1;omega);have HG:Hd (Kh m ts rs):=hg;have HSH:Hd (Cr w1 g m ta ra ts.length tc rs.length rc (.slice (some ⟨sg,0,none⟩) ts.length ts.length)):=hsh;have HSM:Hd (Cp w1 (some ⟨sg,0,none⟩) (ts.map (Ap m))):=hsm;have h1:1<=m:=by have:=hg.1;omega
  have h8:m<=8:=by have:=hg.2.1;omega
  clear hg hsh hsm;go_wp2_with fail;refine(Lg a la cap lc is gs out m _ (HT.o.bl hB1) h8 (HR.o.bl hB1) ho).mono ?_;rintro e w2 ⟨hb2,b,rfl,hb⟩;have hB2:=bt hB1 hb2;have s20:=Ab hb2 s10;have s21:=Ab hb2 s11;have s22:=Ab hb2 s12;have p20:=Ab hb2 p10;have p21:=Ab hb2 p11;have p22:=Ab hb2 p12;replace HSH:Hd (Cr w2 g m ta ra ts.length tc rs.length rc (.slice (some ⟨sg,0,none⟩) ts.length ts.length)):=HSH.o.bl hb2;replace HSM:Hd (Cp w2 (some ⟨sg,0,none⟩) (ts.map (Ap m))):=HSM.o.bl hb2;clear hb2 s10 s11 s12 p10 p11 p12
  rcases b_iff hb with ⟨hq,rfl⟩|⟨hq,rfl⟩
  ·have HQ:Hd (Kt m ⟨is,gs,out⟩):=hq;clear hb hq;go_wp2_with fail;refine(vouch_any m g ta ra (some ⟨sg,0,none⟩) a la tc rs.length rc ts.length cap lc ts is gs out _ h1 h8 HSH.o HSM.o (HT.o.bl hB2) (HP.o.bl hB2) (HI.o.st.bl hB2) HI.o.lt HG.o.2.2.1.2.1 HG.o.2.2.1.2.2 HQ.o.1 (HR.o.rc.bl hB2) (HR.o.rg.bl hB2) HQ.o.2.2.1).mono ?_;rintro e w3 ⟨hb3,r,rfl,hr⟩;have HO:Hd (VouO m ts rs is gs out r):=Or.inl ⟨⟨HG.o,HQ.o⟩,hr⟩;clear hr;go_wp2;go_ret;exact⟨bt hB2 hb3,r,rfl,HO.o⟩
  ·have HO:Hd (VouO m ts rs is gs out 1):=Or.inr ⟨fun k=>hq k.2,rfl⟩;clear hb hq;go_wp2_with fail;go_ret;exact⟨hB2,1,rfl,HO.o⟩
 ·have HO:Hd (VouO n ts rs is gs out 1):=Or.inr ⟨fun k=>hg k.1,rfl⟩;clear hg;go_wp2_with fail;go_ret;exact⟨hB1,1,rfl,HO.o⟩
end Go.Proofs.YtjlnkepkkdefdaaGreatDoor
