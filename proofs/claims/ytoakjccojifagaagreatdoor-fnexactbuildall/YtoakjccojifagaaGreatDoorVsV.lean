import Derived.Test.YtoakjccojifagaaGreatDoorVsP
namespace Go.Proofs.YtoakjccojifagaaGreatDoor
open _root_.Go.Proofs.Tryz Go.RowKit
open Value renaming slice->J,string->S,bool->F,tuple->Y
open Go renaming World->E
open Ending renaming returned->H
open _root_ renaming Nat->X
set_option linter.unusedVariables false
set_option maxHeartbeats 8000000
set_option maxRecDepth 100000
set_option linter.unusedSimpArgs false
variable {n:X} {ts:List By} {t A:By}
theorem get_any(n:X)(g:X)(ta ra sa:Option Addr)(tc rn rc sc:X)(ts:List By)(t:By)(w:E)(hg:Jt w g n ta ra ts.length tc rn rc (J sa ts.length sc))(cw:Ca w sa (ts.map (Aq n)))(hc:Ca w ta ts)(hl:ts.length<=1048576)(fb:Fu (ts.map (Aq n))):Calls prog 134 #[.pointer (p_ g),S t] w λe w'=>w=w'/\∃A ok,e=H (Y #[S A,F ok])/\Fh n ts t A ok:=by
 have k1:w.cell? ⟨g,1,none⟩=some (J ta ts.length tc):=by unfold Jt at hg;rw[cH hg];rfl
 have k3:w.cell? ⟨g,3,none⟩=some (J sa ts.length sc):=by unfold Jt at hg;rw[cH hg];rfl
 have HC:Hd (Ca w ta ts):=hc
 have HB:Hd (Calls prog 105 #[J sa ts.length sc,S t] w λe w'=>w=w'/\∃(r:X)(b:Bool),e=H (Y #[I r,F b])/\((b=true/\r<ts.length/\Aq n (nx ts r)=t)\/(b=false/\¬ Eg (ts.map (Aq n)) t))):=by
  have:=Qm sa sc (ts.map (Aq n)) t w cw (by rw[List.length_map];exact hl) fb;rw[List.length_map]at this;refine this.mono ?_;rintro e w' ⟨rfl,r,b,rfl,h⟩;refine⟨rfl,r,b,rfl,?_⟩
  rcases h with⟨h1,h2,h3⟩|h
  ·exact Or.inl ⟨h1,h2,by rw[<- Hi n ts r h2];exact h3⟩
  ·exact Or.inr h
 clear hc cw fb hg;go_enter func134,ntmps134;go_wp2_with fail;refine HB.o.mono ?_;rintro e w2 ⟨rfl,r,b,rfl,hr⟩
 rcases hr with⟨rfl,h3,h4⟩|⟨rfl,h3⟩
 ·obtain⟨b,off,rfl,c1⟩:=HC.o r h3
  replace c1:w.cell? ⟨b,off+r,none⟩=some (S (nx ts r)):=c1;have HO:Hd (Fh n ts t (nx ts r) true):=Or.inl ⟨rfl,r,h3,h4,rfl⟩;have hrI:(r:Int)<(ts.length:Int):=qb;clear h4;generalize nx ts r=x at c1 HO;go_wp2_with fail
  go_ret2
  exact⟨rfl,x,true,rfl,HO.o⟩
 ·have HO:Hd (Fh n ts t ⟨#[]⟩ false):=Or.inr ⟨rfl,rfl,h3⟩
  clear h3;go_wp2_with fail
  go_ret2
  exact⟨rfl,⟨#[]⟩,false,rfl,HO.o⟩

theorem Xg{k:X}(ha:Fu (ts.map (Aq n)))(h1:∀j,j<k->Au (Aq n (nx ts j)) t=true)(h2:k<ts.length->Au (Aq n (nx ts k)) t=false)(hk:k<=ts.length)(hh:Eg (ts.map (Aq n)) t):k<ts.length/\Aq n (nx ts k)=t:=by
 have hs:∀i,i<ts.length->nx (ts.map (Aq n)) i=Aq n (nx ts i):=λi h=>Hi n ts i h;have hl:(ts.map (Aq n)).length=ts.length:=List.length_map _
 have:=Nf (i:=k) ha (λj hj=>by rw[hs j qb];exact h1 j hj) (λj hj hjl=>by
  have hk':k<ts.length:=qb;exact Tv ha (m:=k) (by rw[hs k hk'];exact h2 hk') j hj hjl) hh
 exact⟨qb,by rw[<- hs k qb];exact this.2⟩
def Za(s:By):Prop:=∃h:2<=s.size,s.size<=2002/\48<=(s[0].toNat:Int)/\(s[0].toNat:Int)<=53/\(s[1].toNat:Int)=58
def resA(c:Int)(t:By):Value:=.agg #[I c,S t,nS]
def Sk(c:Int)(t:By)(b:Bool):Value:=Y #[resA c t,F b]
theorem parts_no{s:By}(h:¬ Za s):s.size<2\/∃h:2<=s.size,2002<s.size\/(s[0].toNat:Int)<48\/53<(s[0].toNat:Int)\/(s[1].toNat:Int)≠58:=by
 by_cases h1:s.size<2
 ·exact .inl h1
 ·refine .inr ⟨qb,?_⟩
  have h2:2<=s.size:=qb;have:¬ (s.size<=2002/\48<=(s[0].toNat:Int)/\(s[0].toNat:Int)<=53/\(s[1].toNat:Int)=58):=λk=>h ⟨h2,k⟩;omega
theorem implRead_no(s:By)(w:E)(hs:s.size<=1048576)(h:¬ Za s):Calls prog 135 #[S s] w λe w'=>e=H (Sk 0 ⟨#[]⟩ false)/\Bw w w':=by
 rcases parts_no h with h|⟨h,k⟩
 ·go_enter func135,ntmps135
  go_wp2;exact bR (v:=Sk 0 ⟨#[]⟩ false) qgq rfl ⟨rfl,aN _ _⟩
 ·have uu:(s[1].toNat:Int)=58\/((s[1].toNat:Int) != 58)=true:=by by_cases e:(s[1].toNat:Int)=58;exact .inl e;exact .inr (by simpa using e)
  rcases uu with uu|uu
  all_goals
   go_enter func135,ntmps135;go_wp2
  all_goals first
   | exact bR (v:=Sk 0 ⟨#[]⟩ false) qgq rfl ⟨rfl,aN _ _⟩
   | (exfalso;omega)
theorem Zw(s:By)(w:E)(h:Za s)(h0:0<s.size):Calls prog 135 #[S s] w λe w'=>e=H (Sk ((s[0].toNat:Int)-48) (s.extract 2 s.size) true)/\Bw w w':=by
 obtain⟨h,h2,h3,h4,h5⟩:=h;go_enter func135,ntmps135;go_wp2;go_region;go_wp2;exact bR (v:=Sk ((s[0].toNat:Int)-48) (s.extract 2 s.size) true) qgq rfl ⟨rfl,(aN _ _).drew⟩
def Got(n:X)(ts:List By)(t:By):Prop:=∃i,i<ts.length/\Aq n (nx ts i)=t
open Classical in
noncomputable def Ly (n:X) (ts:List By) (t:By):By:=if h:Got n ts t then nx ts h.choose else ⟨#[]⟩
theorem getA_of{ok:Bool}(ha:Fu (ts.map (Aq n)))(h:Fh n ts t A ok):A=Ly n ts t/\(ok=true↔Got n ts t):=by
 by_cases hg:Got n ts t
 ·have k:Fh n ts t (Ly n ts t) true:=Or.inl ⟨rfl,hg.choose,hg.choose_spec.1,hg.choose_spec.2,by unfold Ly;rw[dif_pos hg]⟩
  obtain⟨e1,e2⟩:=Fh.unique ha k h;exact⟨e1,by rw[e2];simp[hg]⟩
 ·have k:Fh n ts t (Ly n ts t) false:=Or.inr ⟨rfl,by unfold Ly;rw[dif_neg hg],λ⟨i,hi,e⟩=>hg ⟨i,by rw[List.length_map]at hi;exact hi,by rw[<- Hi n ts i (by rw[List.length_map]at hi;exact hi)];exact e⟩⟩
  obtain⟨e1,e2⟩:=Fh.unique ha k h;exact⟨e1,by rw[e2];simp[hg]⟩
theorem getA_none(h:¬ Got n ts t):Ly n ts t=⟨#[]⟩:=by unfold Ly;rw[dif_neg h]
theorem Xs(hs:∀i,i<ts.length->(nx ts i).size<=2002):(Ly n ts t).size<=2002:=by
 unfold Ly;split
 ·rename_i h;exact hs _ h.choose_spec.1
 ·decide
def rdC(A:By):Int:=if h:0<A.size then (A[0].toNat:Int)-48 else 0
def rdT(A:By):By:=A.extract 2 A.size
theorem rdC_eq(h:0<A.size):(A[0].toNat:Int)-48=rdC A:=by unfold rdC;rw[dif_pos h]
theorem rr_empty:¬ Za (⟨#[]⟩:By):=λ⟨h,_⟩=>absurd h qd
theorem Ui(h:Za A):0<A.size:=by obtain⟨h,_⟩:=h;omega
theorem rr_code(h:Za A):0<=rdC A/\rdC A<=5:=by
 rw[<- rdC_eq (Ui h)];obtain⟨h1,h2,h3,h4,h5⟩:=h;omega
theorem rr_text(h:Za A):(rdT A).size<=2000:=by
 obtain⟨h1,h2,h3,h4,h5⟩:=h;unfold rdT;rw[ByteArray.size_extract];omega
theorem Zx(A:By)(w:E)(hs:A.size<=2002):Calls prog 135 #[S A] w λe w'=>Bw w w'/\((Za A/\e=H (Y #[.agg #[I (rdC A),S (rdT A),nS],F true]))\/(¬ Za A/\e=H (Y #[.agg #[I 0,ze,nS],F false]))):=by
 by_cases h:Za A
 ·refine(Zw A w h (Ui h)).mono ?_
  rintro e w' ⟨rfl,hb⟩;rw[rdC_eq (Ui h)];exact⟨hb,Or.inl ⟨h,rfl⟩⟩
 ·refine(implRead_no A w qb h).mono ?_
  rintro e w' ⟨rfl,hb⟩;exact⟨hb,Or.inr ⟨h,rfl⟩⟩


theorem Dt{c:Int}(ht:t.size<=2000):(Bj c t).size<=2002:=by
 unfold Bj;rw[ByteArray.size_append,ByteArray.size_append];show 1+1+t.size<=2002;omega

end Go.Proofs.YtoakjccojifagaaGreatDoor
