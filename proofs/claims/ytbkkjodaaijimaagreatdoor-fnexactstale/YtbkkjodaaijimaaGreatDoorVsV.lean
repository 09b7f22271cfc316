import Derived.Test.YtbkkjodaaijimaaGreatDoorVsP
namespace Go.Proofs.YtbkkjodaaijimaaGreatDoor
open _root_.Go.Proofs.Tryz Go.RowKit
open Value renaming slice->J,string->S,bool->F,tuple->Y
open Option renaming some->M,none->N
open Obj renaming cells->O
open Go renaming Value->Z,World->E
open Ending renaming returned->H
open _root_ renaming List->L,Nat->X
set_option linter.unusedVariables false
set_option maxHeartbeats 8000000
set_option maxRecDepth 100000
set_option linter.unusedSimpArgs false
variable {w w':E} {g n tl tc rl rc B m:X} {ta ra:Option Addr} {sv cd:Z} {ts:L By} {t A nm:By} {is:L I3} {ys:L R3} {ask:Bool} {st:Int}
theorem Em.lt{n:Int}(h:Em w g n ta ra tl tc rl rc sv):g<w.heap.size:=by
 unfold Em at h
 rcases Nat.lt_or_ge g w.heap.size with h'|h'
 ·exact h'
 ·rw[Array.getElem?_eq_none h']at h;cases h
theorem Em.bl{n:Int}(h:Em w g n ta ra tl tc rl rc sv)(hb:Bw w w'):Em w' g n ta ra tl tc rl rc sv:=by
 have:=h.lt;unfold Em at h ⊢;rw[hb.block _ this];exact h
theorem get_any(n:X)(g:X)(ta ra sa:Option Addr)(tc rn rc sc:X)(ts:L By)(t:By)(w:E)(hg:Em w g n ta ra ts.length tc rn rc (J sa ts.length sc))(de:Cc w sa (ts.map (Av n)))(hc:Cc w ta ts)(hl:ts.length<=1048576)(eg:Fs (ts.map (Av n))):Calls prog 161 #[.pointer (p_ g),S t] w λe w'=>w=w'/\∃A ok,e=H (Y #[S A,F ok])/\Ff n ts t A ok:=by
 have k1:w.cell? ⟨g,1,N⟩=M (J ta ts.length tc):=by unfold Em at hg;rw[cH hg];rfl
 have k3:w.cell? ⟨g,3,N⟩=M (J sa ts.length sc):=by unfold Em at hg;rw[cH hg];rfl
 have HC:Hd (Cc w ta ts):=hc
 have HB:Hd (Calls prog 141 #[J sa ts.length sc,S t] w λe w'=>w=w'/\∃(r:X)(b:Bool),e=H (Y #[I r,F b])/\((b=true/\r<ts.length/\Av n (nx ts r)=t)\/(b=false/\¬ Ed (ts.map (Av n)) t))):=by
  have:=Pu sa sc (ts.map (Av n)) t w de (by rw[List.length_map];exact hl) eg;rw[List.length_map]at this;refine this.mono ?_;rintro e w' ⟨rfl,r,b,rfl,h⟩;refine⟨rfl,r,b,rfl,?_⟩
  rcases h with⟨h1,h2,h3⟩|h
  ·exact Or.inl ⟨h1,h2,by rw[<- Hb n ts r h2];exact h3⟩
  ·exact Or.inr h
 clear hc de eg hg;go_enter func161,ntmps161;go_wp2_with fail;refine HB.o.mono ?_;rintro e w2 ⟨rfl,r,b,rfl,hr⟩
 rcases hr with⟨rfl,h3,h4⟩|⟨rfl,h3⟩
 ·obtain⟨b,off,rfl,c1⟩:=HC.o r h3
  replace c1:w.cell? ⟨b,off+r,N⟩=M (S (nx ts r)):=c1;have HO:Hd (Ff n ts t (nx ts r) true):=Or.inl ⟨rfl,r,h3,h4,rfl⟩;have hrI:(r:Int)<(ts.length:Int):=qb;clear h4;generalize nx ts r=x at c1 HO;go_wp2_with fail
  go_ret2
  exact⟨rfl,x,true,rfl,HO.o⟩
 ·have HO:Hd (Ff n ts t ⟨#[]⟩ false):=Or.inr ⟨rfl,rfl,h3⟩
  clear h3;go_wp2_with fail
  go_ret2
  exact⟨rfl,⟨#[]⟩,false,rfl,HO.o⟩

theorem Wn{k:X}(ha:Fs (ts.map (Av n)))(h1:∀j,j<k->Ap (Av n (nx ts j)) t=true)(h2:k<ts.length->Ap (Av n (nx ts k)) t=false)(hk:k<=ts.length)(hh:Ed (ts.map (Av n)) t):k<ts.length/\Av n (nx ts k)=t:=by
 have hs:∀i,i<ts.length->nx (ts.map (Av n)) i=Av n (nx ts i):=λi h=>Hb n ts i h;have hl:(ts.map (Av n)).length=ts.length:=List.length_map _
 have:=Nc (i:=k) ha (λj hj=>by rw[hs j qb];exact h1 j hj) (λj hj hjl=>by
  have hk':k<ts.length:=qb;exact Sy ha (m:=k) (by rw[hs k hk'];exact h2 hk') j hj hjl) hh
 exact⟨qb,by rw[<- hs k qb];exact this.2⟩
def Yh(s:By):Prop:=∃h:2<=s.size,s.size<=2002/\48<=(s[0].toNat:Int)/\(s[0].toNat:Int)<=53/\(s[1].toNat:Int)=58
def resA(c:Int)(t:By):Z:=.agg #[I c,S t,nS]
def Rs(c:Int)(t:By)(b:Bool):Z:=Y #[resA c t,F b]
theorem parts_no{s:By}(h:¬ Yh s):s.size<2\/∃h:2<=s.size,2002<s.size\/(s[0].toNat:Int)<48\/53<(s[0].toNat:Int)\/(s[1].toNat:Int)≠58:=by
 by_cases h1:s.size<2
 ·exact .inl h1
 ·refine .inr ⟨qb,?_⟩
  have h2:2<=s.size:=qb;have:¬ (s.size<=2002/\48<=(s[0].toNat:Int)/\(s[0].toNat:Int)<=53/\(s[1].toNat:Int)=58):=λk=>h ⟨h2,k⟩;omega
theorem implRead_no(s:By)(w:E)(hs:s.size<=1048576)(h:¬ Yh s):Calls prog 162 #[S s] w λe w'=>e=H (Rs 0 ⟨#[]⟩ false)/\Bw w w':=by
 rcases parts_no h with h|⟨h,k⟩
 ·go_enter func162,ntmps162
  go_wp2;exact bR (v:=Rs 0 ⟨#[]⟩ false) qfw rfl ⟨rfl,aN _ _⟩
 ·have sw:(s[1].toNat:Int)=58\/((s[1].toNat:Int) != 58)=true:=by by_cases e:(s[1].toNat:Int)=58;exact .inl e;exact .inr (by simpa using e)
  rcases sw with sw|sw
  all_goals
   go_enter func162,ntmps162;go_wp2
  all_goals first
   | exact bR (v:=Rs 0 ⟨#[]⟩ false) qfw rfl ⟨rfl,aN _ _⟩
   | (exfalso;omega)
theorem Ze(s:By)(w:E)(h:Yh s)(h0:0<s.size):Calls prog 162 #[S s] w λe w'=>e=H (Rs ((s[0].toNat:Int)-48) (s.extract 2 s.size) true)/\Bw w w':=by
 obtain⟨h,h2,h3,h4,h5⟩:=h;go_enter func162,ntmps162;go_wp2;go_region;go_wp2;exact bR (v:=Rs ((s[0].toNat:Int)-48) (s.extract 2 s.size) true) qfw rfl ⟨rfl,(aN _ _).drew⟩
def Got(n:X)(ts:L By)(t:By):Prop:=∃i,i<ts.length/\Av n (nx ts i)=t
open Classical in
noncomputable def Lq (n:X) (ts:L By) (t:By):By:=if h:Got n ts t then nx ts h.choose else ⟨#[]⟩
theorem getA_of{ok:Bool}(ha:Fs (ts.map (Av n)))(h:Ff n ts t A ok):A=Lq n ts t/\(ok=true↔Got n ts t):=by
 by_cases hg:Got n ts t
 ·have k:Ff n ts t (Lq n ts t) true:=Or.inl ⟨rfl,hg.choose,hg.choose_spec.1,hg.choose_spec.2,by unfold Lq;rw[dif_pos hg]⟩
  obtain⟨e1,e2⟩:=Ff.unique ha k h;exact⟨e1,by rw[e2];simp[hg]⟩
 ·have k:Ff n ts t (Lq n ts t) false:=Or.inr ⟨rfl,by unfold Lq;rw[dif_neg hg],λ⟨i,hi,e⟩=>hg ⟨i,by rw[List.length_map]at hi;exact hi,by rw[<- Hb n ts i (by rw[List.length_map]at hi;exact hi)];exact e⟩⟩
  obtain⟨e1,e2⟩:=Ff.unique ha k h;exact⟨e1,by rw[e2];simp[hg]⟩
theorem getA_none(h:¬ Got n ts t):Lq n ts t=⟨#[]⟩:=by unfold Lq;rw[dif_neg h]
theorem Wz(hs:∀i,i<ts.length->(nx ts i).size<=2002):(Lq n ts t).size<=2002:=by
 unfold Lq;split
 ·rename_i h;exact hs _ h.choose_spec.1
 ·decide
def rdC(A:By):Int:=if h:0<A.size then (A[0].toNat:Int)-48 else 0
def rdT(A:By):By:=A.extract 2 A.size
theorem rdC_eq(h:0<A.size):(A[0].toNat:Int)-48=rdC A:=by unfold rdC;rw[dif_pos h]
theorem rr_empty:¬ Yh (⟨#[]⟩:By):=λ⟨h,_⟩=>absurd h qd
theorem Tk(h:Yh A):0<A.size:=by obtain⟨h,_⟩:=h;omega
theorem rr_code(h:Yh A):0<=rdC A/\rdC A<=5:=by
 rw[<- rdC_eq (Tk h)];obtain⟨h1,h2,h3,h4,h5⟩:=h;omega
theorem rr_text(h:Yh A):(rdT A).size<=2000:=by
 obtain⟨h1,h2,h3,h4,h5⟩:=h;unfold rdT;rw[ByteArray.size_extract];omega
theorem Zf(A:By)(w:E)(hs:A.size<=2002):Calls prog 162 #[S A] w λe w'=>Bw w w'/\((Yh A/\e=H (Y #[.agg #[I (rdC A),S (rdT A),nS],F true]))\/(¬ Yh A/\e=H (Y #[.agg #[I 0,ze,nS],F false]))):=by
 by_cases h:Yh A
 ·refine(Ze A w h (Tk h)).mono ?_
  rintro e w' ⟨rfl,hb⟩;rw[rdC_eq (Tk h)];exact⟨hb,Or.inl ⟨h,rfl⟩⟩
 ·refine(implRead_no A w qb h).mono ?_
  rintro e w' ⟨rfl,hb⟩;exact⟨hb,Or.inr ⟨h,rfl⟩⟩
theorem keepR{W:E}{A B:Prop}{R:X}(h:A/\B)(k:W.heap[R]?=M (O #[F false,I 0,ze] 196 (0,0))):(A/\B)/\W.heap[R]?=M (O #[F false,I 0,ze] 196 (0,0))/\W.cell? ⟨R,0,N⟩=M (F false)/\W.cell? ⟨R,1,N⟩=M (I 0)/\W.cell? ⟨R,2,N⟩=M ze/\∀j,W.frozen? ⟨R,j,N⟩=false:=⟨h,k,Dw k⟩

theorem Dp{c:Int}(ht:t.size<=2000):(Bi c t).size<=2002:=by
 unfold Bi;rw[ByteArray.size_append,ByteArray.size_append];show 1+1+t.size<=2002;omega
theorem VAt.zero{c:Int}(h:VAt is ys B m cd false c t ask nm st w):c=0/\t=⟨#[]⟩:=by
 rcases h with⟨h,_⟩|⟨_,h1,h2,_⟩
 ·cases h
 ·exact⟨h1,h2⟩
theorem Gn.set6{T b:X}{ov:Bool}{c:Int}{cs:Array Z}(h:Gn is ys B m T cd ov c t ask nm st w)(hb:w.heap[b]?=M (O cs 192 (0,0)))(hc:cs.size=6)(hT:T≠b)(v0 v1 v2 v3 v4 v5:Z):Gn is ys B m T cd ov c t ask nm st ((((((w.setCell ⟨b,0,N⟩ v0).setCell ⟨b,1,N⟩ v1).setCell ⟨b,2,N⟩ v2).setCell ⟨b,3,N⟩ v3).setCell ⟨b,4,N⟩ v4).setCell ⟨b,5,N⟩ v5):=
 ⟨by rw[Er hT];exact h.1,h.2.1,h.2.2.1,Nat.lt_of_lt_of_le h.2.2.2.1 (Gk (B:=0) (Below.refl 0 w) (Nat.zero_le _) v0 v1 v2 v3 v4 v5).size,h.2.2.2.2.mono (λss pl nh lk k=>(Xz hc hb v0 v1 v2 v3 v4 v5).2 _ _ _ _ _ _ _ k)⟩
theorem Wd.bl{a la:Option Addr}{gs:L G3}(h:Wd w a is la gs)(hb:Bw w w'):Wd w' a is la gs:=⟨h.rc.bl hb,h.rg.bl hb,h.lc,h.lg,h.xc,h.ng,h.sg⟩
end Go.Proofs.YtbkkjodaaijimaaGreatDoor
