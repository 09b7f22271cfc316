import Derived.Test.YtfgoholldpeabaaGreatDoorTImI
import Derived.Test.YtfgoholldpeabaaGreatDoorVsN
import Derived.Test.YtfgoholldpeabaaGreatDoorVsP
namespace Go.Proofs.YtfgoholldpeabaaGreatDoor
open _root_.Go.Proofs.Tryz Go.RowKit
set_option linter.unusedVariables false
set_option maxHeartbeats 8000000
set_option maxRecDepth 100000
set_option linter.unusedSimpArgs false
variable {n:Nat} {ts:List By} {t A:By}
theorem get_any (n:Nat) (g:Nat) (ta ra sa:Option Addr) (tc rn rc sc:Nat) (ts:List By) (t:By) (w:World) (hg:Iz w g n ta ra ts.length tc rn rc (.slice sa ts.length sc)) (cz:Cv w sa (ts.map (Ap n))) (hc:Cv w ta ts) (hl:ts.length<=1048576) (ew:Gf (ts.map (Ap n))) :
    Calls prog 145 #[.pointer (p_ g),.string t] w fun e w'=>w=w'/\∃ A ok,e=.returned (.tuple #[.string A,.bool ok])/\Eu n ts t A ok:=by
  have k1:w.cell? ⟨g,1,none⟩=some (.slice ta ts.length tc):=by unfold Iz at hg;rw[cH hg];rfl
  have k3:w.cell? ⟨g,3,none⟩=some (.slice sa ts.length sc):=by unfold Iz at hg;rw[cH hg];rfl
  have HC:Hd (Cv w ta ts):=hc
  have HB:Hd (Calls prog 123 #[.slice sa ts.length sc,.string t] w fun e w'=>w=w'/\∃(r:Nat) (b:Bool),e=.returned (.tuple #[I r,.bool b])/\((b=true/\r<ts.length/\Ap n (nx ts r)=t)\/(b=false/\¬ Ec (ts.map (Ap n)) t))):=by
    have:=Px sa sc (ts.map (Ap n)) t w cz (by rw[List.length_map];exact hl) ew;rw[List.length_map] at this;refine this.mono ?_;rintro e w' ⟨rfl,r,b,rfl,h⟩;refine⟨rfl,r,b,rfl,?_⟩
    rcases h with ⟨h1,h2,h3⟩|h
    · exact Or.inl ⟨h1,h2,by rw[<- Gp n ts r h2];exact h3⟩
    · exact Or.inr h
  clear hc cz ew hg;go_enter func145,ntmps145;go_wp2_with fail;refine HB.o.mono ?_;rintro e w2 ⟨rfl,r,b,rfl,hr⟩
  rcases hr with ⟨rfl,h3,h4⟩|⟨rfl,h3⟩
  · obtain⟨b,off,rfl,c1⟩:=HC.o r h3
    replace c1:w.cell? ⟨b,off+r,none⟩=some (.string (nx ts r)):=c1;have HO:Hd (Eu n ts t (nx ts r) true):=Or.inl ⟨rfl,r,h3,h4,rfl⟩;have hrI:(r:Int)<(ts.length:Int):=qb;clear h4;generalize nx ts r=x at c1 HO;go_wp2_with fail
    go_ret2
    exact⟨rfl,x,true,rfl,HO.o⟩
  · have HO:Hd (Eu n ts t ⟨#[]⟩ false):=Or.inr ⟨rfl,rfl,h3⟩
    clear h3;go_wp2_with fail
    go_ret2
    exact⟨rfl,⟨#[]⟩,false,rfl,HO.o⟩

theorem Ws {k:Nat} (ha:Gf (ts.map (Ap n))) (h1:∀ j,j<k->Ar (Ap n (nx ts j)) t=true) (h2:k<ts.length->Ar (Ap n (nx ts k)) t=false) (hk:k<=ts.length) (hh:Ec (ts.map (Ap n)) t):k<ts.length/\Ap n (nx ts k)=t:=by
  have hs:∀ i,i<ts.length->nx (ts.map (Ap n)) i=Ap n (nx ts i):=fun i h=>Gp n ts i h;have hl:(ts.map (Ap n)).length=ts.length:=List.length_map _
  have:=Mp (i:=k) ha (fun j hj=>by rw[hs j qb];exact h1 j hj) (fun j hj hjl=>by
    have hk':k<ts.length:=qb;exact Te ha (m:=k) (by rw[hs k hk'];exact h2 hk') j hj hjl) hh
  exact⟨qb,by rw[<- hs k qb];exact this.2⟩
def Yl (s:By):Prop:=∃ h:2<=s.size,s.size<=2002/\48<=(s[0].toNat:Int)/\(s[0].toNat:Int)<=53/\(s[1].toNat:Int)=58
def resA (c:Int) (t:By):Value:=.agg #[I c,.string t,nS]
def Rs (c:Int) (t:By) (b:Bool):Value:=.tuple #[resA c t,.bool b]
theorem Qau {s:By} (h:¬ Yl s):s.size<2\/∃ h:2<=s.size,2002<s.size\/(s[0].toNat:Int)<48\/53<(s[0].toNat:Int)\/(s[1].toNat:Int)≠58:=by
  by_cases h1:s.size<2
  · exact .inl h1
  · refine .inr ⟨qb,?_⟩
    have h2:2<=s.size:=qb;have:¬ (s.size<=2002/\48<=(s[0].toNat:Int)/\(s[0].toNat:Int)<=53/\(s[1].toNat:Int)=58):=fun k=>h ⟨h2,k⟩;omega
theorem Qbo (s:By) (w:World) (hs:s.size<=1048576) (h:¬ Yl s) :
    Calls prog 146 #[.string s] w fun e w'=>e=.returned (Rs 0 ⟨#[]⟩ false)/\Bw w w':=by
  rcases Qau h with h|⟨h,k⟩
  · go_enter func146,ntmps146
    go_wp2;exact bR (v:=Rs 0 ⟨#[]⟩ false) qgc rfl ⟨rfl,aN _ _⟩
  · have ui:(s[1].toNat:Int)=58\/((s[1].toNat:Int) != 58)=true:=by by_cases e:(s[1].toNat:Int)=58;exact .inl e;exact .inr (by simpa using e)
    rcases ui with ui|ui
    all_goals
      go_enter func146,ntmps146;go_wp2
    all_goals first
      | exact bR (v:=Rs 0 ⟨#[]⟩ false) qgc rfl ⟨rfl,aN _ _⟩
      | (exfalso;omega)
theorem Zg (s:By) (w:World) (h:Yl s) (h0:0<s.size) :
    Calls prog 146 #[.string s] w fun e w'=>e=.returned (Rs ((s[0].toNat:Int)-48) (s.extract 2 s.size) true)/\Bw w w':=by
  obtain⟨h,h2,h3,h4,h5⟩:=h;go_enter func146,ntmps146;go_wp2;go_region;go_wp2;exact bR (v:=Rs ((s[0].toNat:Int)-48) (s.extract 2 s.size) true) qgc rfl ⟨rfl,(aN _ _).drew⟩
def Got (n:Nat) (ts:List By) (t:By):Prop:=∃ i,i<ts.length/\Ap n (nx ts i)=t
open Classical in
noncomputable def Lg (n:Nat) (ts:List By) (t:By):By:=if h:Got n ts t then nx ts h.choose else ⟨#[]⟩
theorem getA_of {ok:Bool} (ha:Gf (ts.map (Ap n))) (h:Eu n ts t A ok):A=Lg n ts t/\(ok=true↔Got n ts t):=by
  by_cases hg:Got n ts t
  · have k:Eu n ts t (Lg n ts t) true:=Or.inl ⟨rfl,hg.choose,hg.choose_spec.1,hg.choose_spec.2,by unfold Lg;rw[dif_pos hg]⟩
    obtain⟨e1,e2⟩:=Eu.unique ha k h;exact⟨e1,by rw[e2];simp[hg]⟩
  · have k:Eu n ts t (Lg n ts t) false:=Or.inr ⟨rfl,by unfold Lg;rw[dif_neg hg],fun ⟨i,hi,e⟩=>hg ⟨i,by rw[List.length_map] at hi;exact hi,by rw[<- Gp n ts i (by rw[List.length_map] at hi;exact hi)];exact e⟩⟩
    obtain⟨e1,e2⟩:=Eu.unique ha k h;exact⟨e1,by rw[e2];simp[hg]⟩
theorem getA_none (h:¬ Got n ts t):Lg n ts t=⟨#[]⟩:=by unfold Lg;rw[dif_neg h]
theorem Xe (hs:∀ i,i<ts.length->(nx ts i).size<=2002):(Lg n ts t).size<=2002:=by
  unfold Lg;split
  · rename_i h;exact hs _ h.choose_spec.1
  · decide
def rdC (A:By):Int:=if h:0<A.size then (A[0].toNat:Int)-48 else 0
def rdT (A:By):By:=A.extract 2 A.size
theorem rdC_eq (h:0<A.size):(A[0].toNat:Int)-48=rdC A:=by unfold rdC;rw[dif_pos h]
theorem rr_empty:¬ Yl (⟨#[]⟩:By):=fun ⟨h,_⟩=>absurd h qd
theorem Tq (h:Yl A):0<A.size:=by obtain⟨h,_⟩:=h;omega
theorem rr_code (h:Yl A):0<=rdC A/\rdC A<=5:=by
  rw[<- rdC_eq (Tq h)];obtain⟨h1,h2,h3,h4,h5⟩:=h;omega
theorem rr_text (h:Yl A):(rdT A).size<=2000:=by
  obtain⟨h1,h2,h3,h4,h5⟩:=h;unfold rdT;rw[ByteArray.size_extract];omega
theorem Zh (A:By) (w:World) (hs:A.size<=2002):Calls prog 146 #[.string A] w fun e w'=>Bw w w'/\((Yl A/\e=.returned (.tuple #[.agg #[I (rdC A),.string (rdT A),nS],.bool true]))\/(¬ Yl A/\e=.returned (.tuple #[.agg #[I 0,ze,nS],.bool false]))):=by
  by_cases h:Yl A
  · refine(Zg A w h (Tq h)).mono ?_
    rintro e w' ⟨rfl,hb⟩;rw[rdC_eq (Tq h)];exact⟨hb,Or.inl ⟨h,rfl⟩⟩
  · refine(Qbo A w qb h).mono ?_
    rintro e w' ⟨rfl,hb⟩;exact⟨hb,Or.inr ⟨h,rfl⟩⟩


theorem Dn {c:Int} (ht:t.size<=2000):(Bk c t).size<=2002:=by
  unfold Bk;rw[ByteArray.size_append,ByteArray.size_append];show 1+1+t.size<=2002;omega

end Go.Proofs.YtfgoholldpeabaaGreatDoor
