import Derived.Test.YtbkkjodaaijimaaGreatDoorRows
import Derived.Test.YtbkkjodaaijimaaGreatDoorTValid
namespace Go.Proofs.YtbkkjodaaijimaaGreatDoor
open _root_.Go.Proofs.Tryz Go.RowKit
open Value renaming slice->J,string->S,bool->F,agg->G,pointer->D,tuple->Y
open Option renaming some->M,none->N
open Obj renaming cells->O
open Go renaming Value->Z,World->E
open Ending renaming returned->H
open _root_ renaming List->L,Nat->X
set_option linter.unusedVariables false
set_option maxHeartbeats 8000000
set_option maxRecDepth 100000
set_option linter.unusedSimpArgs false
variable {w w':E} {a:Option Addr} {b m B g i:X} {cd:Z} {pl st:Int} {xs:L Z} {ss:L By} {is:L I3}
theorem Oq:∀(k n:X),n<10 ^ (k+1)->(Lib.decDigits n).length<=k+1
 | 0,n,h=>by rw[Lib.decDigits,dif_pos qar];simp
 | k+1,n,h=>by
  rw[Lib.decDigits];split
  ·simp
  ·have:=Oq k (n / 10) (by rw[Nat.pow_succ]at h;omega);simp;omega
theorem Ui(W:E)(g:X)(c:Int)(u:UInt8)(hu:(u.toNat:Int)=c)(h:W.cell? ⟨g,0,N⟩=M (.int .u8 c)):(convert 110 9 (J (p_ g) 1 1)).run prog W=.ok (S ⟨#[u]⟩) W:=by
 subst hu
 exact run_convert_bytes_back (P:=prog) W 110 9 5 ⟨g,0,N⟩ 1 [u] underlying110 underlying5 underlying9 (λt ht=>by
  obtain rfl:t=0:=by simp at ht;omega
  simpa [Addr.add] using h)
theorem Uh(d:X)(h:d<10):((UInt8.ofNat (48+d)).toNat:Int)=48+d:=by rw[UInt8.toNat_ofNat'];omega
theorem str_snoc(l:L UInt8)(u:UInt8):(⟨l.toArray⟩:By)++(⟨#[u]⟩:By)=⟨(l++[u]).toArray⟩:=by
 apply WideShapes.bytes_inj
 simp[ByteArray.data_append]
theorem l2Dec_any:∀(n:X)(w:E),n<=1000000->Calls prog 136 #[I n] w λe w'=>e=H (S ⟨(Lib.decDigits n).toArray⟩)/\Bw w w':=by
 intro n
 induction n using Nat.strongRecOn with
 | _ n ih=>
  intro w hn
  by_cases h:n<10
  ·have hdd:Lib.decDigits n=[UInt8.ofNat (48+n)]:=by rw[Lib.decDigits,dif_pos h]
   have hu:=Uh n h;rw[hdd];generalize UInt8.ofNat (48+n)=u at *;have hcv:=Ui (w.alloc (O #[.int .u8 (48+n)] 5)) w.heap.size (48+n) u hu qk;clear hdd ih hu;exact qlg
  ·have hdd:Lib.decDigits n=Lib.decDigits (n / 10)++[UInt8.ofNat (48+n % 10)]:=by rw[Lib.decDigits,dif_neg h]
   rw[hdd,<- str_snoc];have hl:=Oq 6 (n / 10) qb
   have hq:(⟨(Lib.decDigits (n / 10)).toArray⟩:By).size<=10:=by
    show(Lib.decDigits (n / 10)).toArray.size<=10;rw[List.size_toArray];omega
   have IH:Hd (∀W:E,Calls prog 136 #[I ((n / 10:X):Int)] W λe w'=>e=H (S ⟨(Lib.decDigits (n / 10)).toArray⟩)/\Bw W w'):=λW=>ih (n / 10) qb W qb;clear ih hdd hl;generalize (⟨(Lib.decDigits (n / 10)).toArray⟩:By)=q at *;obtain⟨m,e1,em⟩:∃m:X,(n:Int) / 10=(m:Int)/\n / 10=m:=⟨n / 10,qb,rfl⟩;rw[em]at IH;clear em;have hdb:=Uh (n % 10) qb;have hmod:(n:Int).tmod 10=((n % 10:X):Int):=by rw[Int.tmod_eq_emod_of_nonneg qb];omega
   obtain⟨c,e3,hu⟩:∃c:Int,IntKind.u8.wrap (IntKind.i64.wrap (48+(n:Int).tmod 10))=c/\((UInt8.ofNat (48+n % 10)).toNat:Int)=c:=by
    refine⟨_,rfl,?_⟩;rw[hdb,hmod,IntWalk.i64_in _ ⟨qb,qb⟩];(have:IntKind.u8.wrap (48+((n % 10:X):Int))=(48+((n % 10:X):Int)) % 256:=by simp[IntKind.wrap,IntKind.bits,IntKind.signed]);rw[this];omega
   generalize UInt8.ofNat (48+n % 10)=u at *;clear hdb hmod;have hcv:=λ(W:E) (g:X)=>Ui W g c u hu;have IH2:Hd (∀W:E,W.cell? ⟨w.heap.size,0,N⟩=M (.int .u8 c)->Calls prog 136 #[I (m:Int)] W λe w'=>e=H (S q)/\Bw W w'/\w'.cell? ⟨w.heap.size,0,N⟩=M (.int .u8 c)):=λW hW=>(IH.o W).mono λe w' ⟨he,hb⟩=>⟨he,hb,Aa hb hW⟩;clear hu;go_enter func136,ntmps136;go_wp2
   go_region_with (first|(go_at_call 136;rw[show IntKind.i64.wrap (m:Int)=(m:Int) from IntWalk.i64_in _ ⟨qb,qb⟩];refine(IH2.o _ ?_).mono ?_;(focus(simp[go_sem];done));rintro e w1 ⟨rfl,af,hcc⟩)|(go_at_call 136;rw[show IntKind.i64.wrap (m:Int)=(m:Int) from IntWalk.i64_in _ ⟨qb,qb⟩];refine(IH.o _).mono ?_;rintro e w1 ⟨rfl,af⟩))
   all_goals go_wp2
   all_goals go_ret
   ·exact⟨rfl,((Below.refl _ _).drew.trans af).alloc (by have:=af.size;simpa using this) _⟩
   ·exact qmh
   ·exact qmh
def Lj(w:E):Prop:=Lib.TabIs prog w "internal/strconv.uint64pow10" .u64 Lib.pow10Tab
theorem Lj.bl(h:Lj w)(hb:Bw w w'):Lj w':=Lib.tabBelow_of_tabIs h w' hb
def Ar(s:By):Prop:=1<=s.size/\s.size<=60/\∀j,(h:j<s.size)->33<=s[j].toNat/\s[j].toNat<=126
noncomputable def Ew (s:By):Bool:=@decide (Ar s) (Classical.propDecidable _)
theorem Cs{s:By}(h:Ar s):Ew s=true:=by simp[Ew,h]
theorem Cn{s:By}(h:¬ Ar s):Ew s=false:=by simp[Ew,h]
def Cl(b:Bool):By:=if b then ⟨#[49]⟩ else ⟨#[48]⟩
theorem Ca(s:By)(w:E)(hs:s.size<=9223372036854775807):Calls prog 41 #[S s] w λe w'=>e=H (F (Ew s))/\w=w':=by
 by_cases h1:s.size<1
 ·rw[Cn (λh=>by have:=h.1;omega)];have d1:decide ((s.size:Int)<1)=true:=qh;go_enter func41,ntmps41;exact qaf
 ·have d1:decide ((s.size:Int)<1)=false:=qh
  by_cases h2:60<s.size
  ·rw[Cn (λh=>by have:=h.2.1;omega)];have d2:decide ((60:Int)<s.size)=true:=qh;go_enter func41,ntmps41;exact qaf
  ·have d2:decide ((60:Int)<s.size)=false:=qh;go_enter func41,ntmps41;go_wp2
   go_loopw [3] (λi wr=>∃k:X,k<=s.size/\i=I k/\Hd (∀j,(h:j<s.size)->j<k->33<=s[j].toNat/\s[j].toNat<=126)/\w=wr) (λi _=>s.size-(intOf i).toNat)
   case atStart=>exact⟨0,Nat.zero_le _,rfl,λj _ hj=>qb,rfl⟩
   case round=>
    exact qgx
theorem Df(s:By)(w:E)(hs:s.size<=9223372036854775807):Calls prog 126 #[S s] w λe w'=>e=H (F (Ew s))/\w=w':=by
 by_cases h1:s.size<1
 ·rw[Cn (λh=>by have:=h.1;omega)];have d1:decide ((s.size:Int)<1)=true:=qh;go_enter func126,ntmps126;exact qaf
 ·have d1:decide ((s.size:Int)<1)=false:=qh
  by_cases h2:60<s.size
  ·rw[Cn (λh=>by have:=h.2.1;omega)];have d2:decide ((60:Int)<s.size)=true:=qh;go_enter func126,ntmps126;exact qaf
  ·have d2:decide ((60:Int)<s.size)=false:=qh;go_enter func126,ntmps126;go_wp2
   go_loopw [14] (λi wr=>∃k:X,k<=s.size/\i=I k/\Hd (∀j,(h:j<s.size)->j<k->33<=s[j].toNat/\s[j].toNat<=126)/\w=wr) (λi _=>s.size-(intOf i).toNat)
   case atStart=>exact⟨0,Nat.zero_le _,rfl,λj _ hj=>qb,rfl⟩
   case round=>
    exact qgx
theorem Ln(b:Bool)(w:E):Calls prog 113 #[F b] w λe w'=>e=H (S (Cl b))/\w=w':=by
 cases b
 all_goals
  go_enter func113,ntmps113;exact qaf
theorem Qk(b:Bool)(w:E):Calls prog 179 #[F b] w λe w'=>e=H (S (Cl b))/\w=w':=by
 cases b
 all_goals
  go_enter func179,ntmps179;exact qaf
def putsOf:L Int:=[0,1,1,1,1,1,1,2,2,0,0,0,1,1,0,0]
theorem l2Takes_1(w:E):Calls prog 151 #[I 1] w λe w'=>e=H (Y #[I 0,I 1])/\w=w':=by
 exact qab
theorem l2Takes_2(w:E):Calls prog 151 #[I 2] w λe w'=>e=H (Y #[I 2,I 1])/\w=w':=by
 exact qab
theorem l2Takes_3(w:E):Calls prog 151 #[I 3] w λe w'=>e=H (Y #[I 1,I 1])/\w=w':=by
 exact qab
theorem l2Takes_4(w:E):Calls prog 151 #[I 4] w λe w'=>e=H (Y #[I 1,I 1])/\w=w':=by
 exact qab
theorem l2Takes_5(w:E):Calls prog 151 #[I 5] w λe w'=>e=H (Y #[I 1,I 1])/\w=w':=by
 exact qab
theorem l2Takes_6(w:E):Calls prog 151 #[I 6] w λe w'=>e=H (Y #[I 2,I 1])/\w=w':=by
 exact qab
theorem l2Takes_7(w:E):Calls prog 151 #[I 7] w λe w'=>e=H (Y #[I 1,I 2])/\w=w':=by
 exact qab
theorem l2Takes_8(w:E):Calls prog 151 #[I 8] w λe w'=>e=H (Y #[I 2,I 2])/\w=w':=by
 exact qab
theorem l2Takes_9(w:E):Calls prog 151 #[I 9] w λe w'=>e=H (Y #[I 1,I 0])/\w=w':=by
 exact qab
theorem l2Takes_10(w:E):Calls prog 151 #[I 10] w λe w'=>e=H (Y #[I 0,I 0])/\w=w':=by
 exact qab
theorem l2Takes_11(w:E):Calls prog 151 #[I 11] w λe w'=>e=H (Y #[I 1,I 0])/\w=w':=by
 exact qab
theorem l2Takes_12(w:E):Calls prog 151 #[I 12] w λe w'=>e=H (Y #[I 1,I 1])/\w=w':=by
 exact qab
theorem l2Takes_13(w:E):Calls prog 151 #[I 13] w λe w'=>e=H (Y #[I 1,I 1])/\w=w':=by
 exact qab
theorem l2Takes_14(w:E):Calls prog 151 #[I 14] w λe w'=>e=H (Y #[I 1,I 0])/\w=w':=by
 exact qab
theorem l2Takes_15(w:E):Calls prog 151 #[I 15] w λe w'=>e=H (Y #[I 1,I 0])/\w=w':=by
 exact qab
theorem l2Takes_in(o:X)(w:E)(h1:1<=o)(h2:o<=15):Calls prog 151 #[I o] w λe w'=>e=H (Y #[I (Lk.getD o 0),I (putsOf.getD o 0)])/\w=w':=by
 rcases(show o=1\/o=2\/o=3\/o=4\/o=5\/o=6\/o=7\/o=8\/o=9\/o=10\/o=11\/o=12\/o=13\/o=14\/o=15 from qb)with rfl|rfl|rfl|rfl|rfl|rfl|rfl|rfl|rfl|rfl|rfl|rfl|rfl|rfl|rfl
 ·exact l2Takes_1 w
 ·exact l2Takes_2 w
 ·exact l2Takes_3 w
 ·exact l2Takes_4 w
 ·exact l2Takes_5 w
 ·exact l2Takes_6 w
 ·exact l2Takes_7 w
 ·exact l2Takes_8 w
 ·exact l2Takes_9 w
 ·exact l2Takes_10 w
 ·exact l2Takes_11 w
 ·exact l2Takes_12 w
 ·exact l2Takes_13 w
 ·exact l2Takes_14 w
 ·exact l2Takes_15 w
def Ds(pl:Int)(sk:Z)(st lk:Int):Z:=G #[I pl,sk,I st,I lk,F false,I 0,ze,F false,ze,F false]
def Dz(pl:Int)(sk:Z)(st lk c:Int)(t:By):Z:=G #[I pl,sk,I st,I lk,F true,I c,S t,F false,ze,F false]
def waitV(pl:Int)(sk:Z)(st lk:Int)(ask:Bool)(nm:By):Z:=G #[I pl,sk,I st,I lk,F false,I 0,ze,F ask,S nm,F true]
def Bb(ov:Bool)(c:Int)(t:By)(ask:Bool)(nm:By)(st:Int):Z:=G #[F ov,I c,S t,F ask,S nm,I st]
theorem Fb(pl:Int)(a:Option Addr)(n cap:X)(st lk c:Int)(t:By)(w:E):Calls prog 150 #[Ds pl (J a n cap) st lk,I c,S t] w λe w'=>e=H (Dz pl (J a n cap) st lk c t)/\Bw w w':=by
 unfold Ds
 go_enter func150,ntmps150
 go_wp2
 exact bR (v:=Dz pl (J a n cap) st lk c t) (by simp[results,results150,go_sem,Dz]) rfl ⟨rfl,(aN _ _).alloc qg _⟩
section
open Go.ChangeShapes Go.WideShapes Go.ChangeAt Go.Deep
section
variable {AI:Type} {enc:TypeId×Z->AI} {W:E} {base:X} {spare:X->Bool} {held:Bool}
end
end
structure G3 where
 name:By
 ask:Bool
 sum:By
def g00:G3:=⟨ByteArray.empty,false,ByteArray.empty⟩
def gx(is:L G3)(i:X):G3:=is.getD i g00
def Fr(w:E)(a:Option Addr)(is:L G3):Prop:=
 ∀i,i<is.length->∃b off,a=M ⟨b,off,N⟩/\w.cell? ⟨b,off+i*3,N⟩=M (S (gx is i).name)/\w.cell? ⟨b,off+i*3+1,N⟩=M (F (gx is i).ask)/\w.cell? ⟨b,off+i*3+2,N⟩=M (S (gx is i).sum)
theorem Fr.bl{is:L G3}(h:Fr w a is)(hb:Bw w w'):Fr w' a is:=by
 exact qep
def Bk(is:L G3)(k:X)(xs:L Z):Prop:=
 ∀i,i<k->xs[i*3]?=M (S (gx is i).name)/\xs[i*3+1]?=M (F (gx is i).ask)/\xs[i*3+2]?=M (S (gx is i).sum)
theorem Co{P:X->Prop}{k:X}(h:∀i,i<k->P i)(hk:P k):∀i,i<k+1->P i:=by
 intro i hi
 rcases Nat.lt_or_ge i k with h1|h1
 ·exact h i h1
 ·obtain rfl:i=k:=qb;exact hk
theorem bt{a b:E}(h:Bw w a)(k:Bw a b):Bw w b:=h.trans (k.mono h.size)
theorem Tryz.info199:(prog.info? 199).map (λi=>(i.zero,i.size,i.bytes))=M (M (G #[S ByteArray.empty,F false,S ByteArray.empty]),3,40):=qi
structure S2 where
 name:By
 text:By
def sx(is:L S2)(i:X):S2:=is.getD i ⟨ByteArray.empty,ByteArray.empty⟩
structure T2 where
 name:By
 code:L I3
def tx(is:L T2)(i:X):T2:=is.getD i ⟨ByteArray.empty,[]⟩
def Ho(w:E)(a:Option Addr)(is:L S2):Prop:=
 ∀i,i<is.length->∃b off,a=M ⟨b,off,N⟩/\w.cell? ⟨b,off+i*2,N⟩=M (S (sx is i).name)/\w.cell? ⟨b,off+i*2+1,N⟩=M (S (sx is i).text)
def Gu(w:E)(a:Option Addr)(is:L T2):Prop:=
 ∀i,i<is.length->∃b off,a=M ⟨b,off,N⟩/\w.cell? ⟨b,off+i*2,N⟩=M (S (tx is i).name)/\∃a' ai,w.cell? ⟨b,off+i*2+1,N⟩=M (J a' (tx is i).code.length ai)/\Bu w a' (tx is i).code
theorem Ho.bl{is:L S2}(h:Ho w a is)(hb:Bw w w'):Ho w' a is:=by
 intro i hi
 obtain⟨b,off,ha,h1,h2⟩:=h i hi
 exact⟨b,off,ha,Aa hb h1,Aa hb h2⟩
theorem Gu.bl{is:L T2}(h:Gu w a is)(hb:Bw w w'):Gu w' a is:=by
 intro i hi
 obtain⟨b,off,ha,h1,a',ai,h2,h3⟩:=h i hi
 exact⟨b,off,ha,Aa hb h1,a',ai,Aa hb h2,h3.bl hb⟩
structure Lv (w:E) (sa:Option Addr) (ss:L S2) (ta:Option Addr) (ts:L T2):Prop where
 rs:Ho w sa ss
 rt:Gu w ta ts
 ls:ss.length<=maxLen
 lt:ts.length<=maxLen
 ns:∀i,(sx ss i).name.size<=maxLen
 xs:∀i,(sx ss i).text.size<=maxLen
 nt:∀i,(tx ts i).name.size<=maxLen
 lc:∀i,(tx ts i).code.length<=maxLen
 xt:∀i j,(ix (tx ts i).code j).text.size<=maxLen
structure Fj (ss:L S2) (ts:L T2):Prop where
 ls:ss.length<=1048576
 lt:ts.length<=1048576
 lc:∀i,i<ts.length->(tx ts i).code.length<=1048576
def Fm(w:E)(m:X)(tx cd:Z)(pl st lk:Int):Prop:=w.heap[m]?=M (O #[tx,cd,I pl,I st,I lk] 263 (0,0))
def Aq(ss:L By):L Z:=ss.map .string
def Bx(B:X)(w:E)(m:X)(ss:L By)(cd:Z)(pl st lk:Int):Prop:=
 B<=m/\∃v,Fm w m v cd pl st lk/\w.ownsRow B 9 1 v ss.length (Aq ss)
theorem Bf(w:E)(o:Obj):(w.alloc o).heap[w.heap.size]?=M o:=qeb
theorem Fm.lt{tx:Z}{lk:Int}(h:Fm w m tx cd pl st lk):m<w.heap.size:=by
 rcases Nat.lt_or_ge m w.heap.size with h'|h'
 ·exact h'
 ·unfold Fm at h;rw[Array.getElem?_eq_none h']at h;cases h
theorem Fm.ne{n cap:X}{tx:Z}{lk:Int}(h:Fm w m tx cd pl st lk)(ho:w.ownsRow B 9 1 (J (p_ g) n cap) n xs):m≠g:=by
 rintro rfl
 rcases ho.2 with⟨h0,_⟩|⟨g',ai,cur,hv,hg,hh,_⟩
 ·simp at h0
 ·simp only[Value.slice.injEq,Option.some.injEq,Addr.mk.injEq,and_true,true_and]at hv;rw[<- hv.1]at hh;unfold Fm at h;rw[h]at hh;simp at hh
theorem Bx.bl{lk:Int}(h:Bx B w m ss cd pl st lk)(hb:Bw w w'):Bx B w' m ss cd pl st lk:=by
 obtain⟨hB,v,hm,ho⟩:=h
 exact⟨hB,v,by have:=hm.lt;unfold Fm at *;rw[hb.block m this];exact hm,Ab ho hb⟩
theorem Fm.cell{tx:Z}{lk:Int}(h:Fm w m tx cd pl st lk):(∀x,(w.alloc x).cell? ⟨m,0,N⟩=M tx)/\(∀x,(w.alloc x).cell? ⟨m,2,N⟩=M (I pl))/\(∀x,(w.alloc x).cell? ⟨m,3,N⟩=M (I st))/\(∀x,(w.alloc x).cell? ⟨m,4,N⟩=M (I lk)):=by
 have hl:=h.lt
 have e:∀j x,(w.alloc x).cell? ⟨m,j,N⟩=w.cell? ⟨m,j,N⟩:=λj x=>World.cell?_alloc_lt _ _ _ hl
 exact⟨λx=>qdw,λx=>qdw,λx=>qdw,λx=>qdw⟩
theorem Jr(m:X)(tx cd:Z)(pl st lk c:Int)(t:By)(w:E)(hM:Fm w m tx cd pl st lk):Calls prog 185 #[D (p_ m),I c,S t] w λe w'=>e=H (Bb true c t false ⟨#[]⟩ st)/\Bw w w':=by
 have c3:=hM.cell.2.2.1
 clear hM
 go_enter func185,ntmps185
 go_wp2
 exact bR (v:=Bb true c t false ⟨#[]⟩ st) (by simp[results,results185,go_sem,Bb]) rfl ⟨rfl,aN _ _⟩
theorem Np(m:Nat)(tx cd:Value)(pl st lk:Int)(w:World)(hM:Fm w m tx cd pl st lk)(hP:Lj w)(h0:0<=pl)(h1:pl<=2000):Calls Tryz.prog 186 #[.pointer (some ⟨m,0,none⟩)] w λe w'=>e=.returned (Bb true 2 ⟨(Lib.decDigits pl.toNat).toArray⟩ false ⟨#[]⟩ st)/\Below w.heap.size w w':=by
 have c2:=hM.cell.2.1
 have hi:Lib.itoa pl=Lib.decDigits pl.toNat:=by unfold Lib.itoa;rw[if_neg (by omega)]
 rw[<- hi]
 clear hi
 generalize hq:(⟨(Lib.itoa pl).toArray⟩:ByteArray)=q
 have HQ:Hd ((⟨(Lib.itoa pl).toArray⟩:ByteArray)=q):=hq
 clear hq
 go_enter Tryz.func186,Tryz.ntmps186
 go_wp2_with fail
 have ak:Below w.heap.size w (w.alloc (.cells #[.bool false,.int .i64 0,.string ⟨#[]⟩,.bool false,.string ⟨#[]⟩,.int .i64 0] 192)):=aN _ _
 refine(Tryz.strconv_Itoa pl (by omega) (by omega) _ (hP.bl ak)).mono ?_
 rintro e w1 ⟨rfl,k',os',E8⟩
 have af:=Lib.below_grow _ (w.alloc (.cells #[.bool false,.int .i64 0,.string ⟨#[]⟩,.bool false,.string ⟨#[]⟩,.int .i64 0] 192)) (Nat.le_refl _) k' os'
 rw[<- E8]at af
 clear E8
 rw[HQ.o]
 have bh:Below w.heap.size w w1:=ak.trans (af.mono ak.size)
 have fa:Fm w1 m tx cd pl st lk:=by have:=hM.lt;unfold Fm at *;rw[bh.block m this];exact hM
 go_wp2_with fail
 refine(Jr m tx cd pl st lk 2 q w1 fa).mono ?_
 rintro e w2 ⟨rfl,ag⟩
 have be:Below w.heap.size w w2:=bh.trans (ag.mono bh.size)
 unfold Bb
 have d9:w.heap.size<w1.heap.size:=by have:=af.size;simp at this;omega
 have aw:w2.heap[w.heap.size]?=some (.cells #[.bool false,.int .i64 0,.string ⟨#[]⟩,.bool false,.string ⟨#[]⟩,.int .i64 0] 192 (0,0)):=by
  rw[ag.block _ d9,af.block _ (by simp),Bf]
 have k0:=cH aw 0
 have k1:=cH aw 1
 have k2:=cH aw 2
 have k3:=cH aw 3
 have k4:=cH aw 4
 have k5:=cH aw 5
 simp only[List.getElem?_toArray,List.getElem?_cons_zero,List.getElem?_cons_succ]at k0 k1 k2 k3 k4 k5
 have f0:∀j,w2.frozen? ⟨w.heap.size,j,none⟩=false:=λj=>fH aw j
 clear ak af bh hM fa ag hP aw
 go_wp2
 exact bR (v:=Bb true 2 q false ⟨#[]⟩ st) (by simp[results,Tryz.results186,go_sem,Bb,k0,k1,k2,k3,k4,k5]) rfl ⟨rfl,(((((be.setCell (Nat.le_refl _) _).setCell (Nat.le_refl _) _).setCell (Nat.le_refl _) _).setCell (Nat.le_refl _) _).setCell (Nat.le_refl _) _).setCell (Nat.le_refl _) _⟩
theorem Tryz.info9b:(prog.info? 9).map (λi=>(i.zero,i.size,i.bytes))=M (M ze,1,16):=qi
theorem Ll{n:X}{v:Z}(h:w.ownsRow B 9 1 v n xs):∀k,v.ownBlock=M k->B<=k/\k<w.heap.size:=λk hk=>h.lt k hk
theorem Fm.ne'{n:X}{v tx:Z}{lk:Int}(h:Fm w m tx cd pl st lk)(ho:w.ownsRow B 9 1 v n xs):M m≠v.ownBlock:=by
 intro e
 rcases ho.2 with⟨rfl,_⟩|⟨g,cap,cur,rfl,_⟩
 ·simp[Value.ownBlock]at e
 ·simp[Value.ownBlock]at e;exact h.ne ho e
theorem Bx.put{tx v:Z}{lk:Int}(hB:B<=m)(hm:Fm w m tx cd pl st lk)(ho:w.ownsRow B 9 1 v ss.length (Aq ss)):Bx B (w.setCell ⟨m,0,N⟩ v) m ss cd pl st lk:=by
 refine⟨hB,v,?_,?_⟩
 ·exact qdj
 ·have hne:=hm.ne' ho;refine⟨ho.1,?_⟩
  rcases ho.2 with h0|⟨g,cap,cur,hv,hg,hh,r⟩
  ·exact Or.inl h0
  ·refine Or.inr ⟨g,cap,cur,hv,hg,?_,r⟩;rw[hC w ⟨m,0,N⟩ v g qck];exact hh
theorem put_no(B m:X)(ss:L By)(cd:Z)(pl st lk:Int)(t:By)(w:E)(hM:Bx B w m ss cd pl st lk)(hs:t.size<=9223372036854775807)(h2:ss.length<=50)(h:2000<t.size\/ss.length=50):Calls prog 190 #[D (p_ m),S t] w λe w'=>e=H (F false)/\w=w':=by
 obtain⟨jj,v,hm,ah⟩:=hM
 obtain⟨ao,cap,rfl⟩:∃ao cap,v=J ao ss.length cap:=by
  exact qkv
 have c0:=cK hm 0
 by_cases h1:2000<t.size
 ·have d1:decide ((2000:Int)<t.size)=true:=qh;clear h;go_enter func190,ntmps190;exact qaf
 ·have d1:decide ((2000:Int)<t.size)=false:=qh;have d2:((ss.length:Int) == 50)=true:=qh;clear h;go_enter func190,ntmps190;exact qaf
theorem Tq{cap:X}{x:By}(h:w.ownsRow B 9 1 (J (p_ g) (ss.length+1) cap) (ss.length+1) (Aq (ss++[x]))):w.ownsRow B 9 1 (J (p_ g) ss.length cap) ss.length (Aq ss):=by
 refine⟨qai,?_⟩
 rcases h.2 with⟨h0,_⟩|⟨g',ai,cur,hv,hg,hh,h1,h2,h3,h4⟩
 ·simp at h0
 ·simp only[Value.slice.injEq,Option.some.injEq,Addr.mk.injEq,and_true,true_and]at hv;obtain⟨rfl,rfl⟩:=hv;refine Or.inr ⟨g,cap,cur,rfl,hg,hh,qb,h2,h3,?_⟩;have:=congrArg (List.take ss.length) h4;rw[List.take_take,Nat.mul_one]at this;rw[Nat.mul_one];rw[show min ss.length (ss.length+1)=ss.length from qb]at this;rw[this];simp[Aq]
def Qo(u:UInt8):Bool:=u.toNat == 32||u.toNat == 10
def Bh(s:By)(n st i:X):By:=
 if h:i<s.size then
  if Qo s[i] then
   if st<i then (if n=0 then s.extract st i else Bh s (n-1) (i+1) (i+1)) else Bh s n (i+1) (i+1)
  else Bh s n st (i+1)
 else if n=0 then s.extract st s.size else ⟨#[]⟩
termination_by s.size-i
def Kr(s:By)(n:X):By:=Bh s n 0 0
theorem Yl{s:By}{st:X}(h:i<s.size)(hg:Qo s[i]=true)(de:st<i):Bh s 0 st i=s.extract st i:=by rw[Bh,dif_pos h,if_pos hg,if_pos de,if_pos rfl]
theorem Yk{s:By}{n st:X}(h:i<s.size)(hg:Qo s[i]=true)(de:st<i)(hn:n≠0):Bh s n st i=Bh s (n-1) (i+1) (i+1):=by rw[Bh,dif_pos h,if_pos hg,if_pos de,if_neg hn]
theorem Yj{s:By}{n st:X}(h:i<s.size)(hg:Qo s[i]=true)(de:¬ st<i):Bh s n st i=Bh s n (i+1) (i+1):=by rw[Bh,dif_pos h,if_pos hg,if_neg de]
theorem pf_in{s:By}{n st:X}(h:i<s.size)(hg:Qo s[i]=false):Bh s n st i=Bh s n st (i+1):=by rw[Bh,dif_pos h,if_neg (by simp[hg])]
theorem Ym{s:By}{n st:X}(h:¬ i<s.size):Bh s n st i=if n=0 then s.extract st s.size else ⟨#[]⟩:=by rw[Bh,dif_neg h]
theorem gap_cases(u:UInt8):(Qo u=true/\((u.toNat:Int) != 32)=false)\/(Qo u=true/\((u.toNat:Int) != 32)=true/\((u.toNat:Int) != 10)=false)\/(Qo u=false/\((u.toNat:Int) != 32)=true/\((u.toNat:Int) != 10)=true):=by
 exact qlb
theorem wordAt_any(s:By)(n:X)(w:E)(hs:s.size<=2000)(hn:n<=2000):Calls prog 198 #[S s,I n] w λe w'=>e=H (S (Kr s n))/\w=w':=by
 generalize hq:Kr s n=q
 have HQ:Hd (Bh s n 0 0=q):=hq
 clear hq
 go_enter func198,ntmps198
 go_wp2
 go_loopw [1,5,9] (λnv sv iv wr=>∃n' st k:X,k<=s.size/\st<=k/\n'<=2000/\nv=I n'/\sv=I st/\iv=I k/\Hd (Bh s n' st k=q)/\w=wr) (λ_ _ i _=>s.size-(intOf i).toNat)
 case atStart=>exact⟨n,0,0,Nat.zero_le _,Nat.le_refl _,hn,rfl,rfl,rfl,HQ,rfl⟩
 case round=>
  clear HQ hn;obtain⟨n',st,k,hk,de,hn',rfl,rfl,rfl,HI,rfl⟩:=hrel
  by_cases aj:k<s.size
  ·rcases gap_cases s[k]with⟨hg,d1⟩|⟨hg,d1,d2⟩|⟨hg,d1,d2⟩
   ·exact qhc
   ·exact qhc
   ·(have HR:Hd (Bh s n' st (k+1)=q):=by show _=_;rw[<- pf_in aj hg];exact HI.o);clear hg HI;go_wp2;go_roundw
    case rel=>exact⟨n',st,k+1,qb,qb,qb,qj,qj,qj,HR,by first|trivial|rfl⟩
    case measure=>simp[intOf];omega
  ·have ek:k=s.size:=qb;have he:=Ym (n:=n') (st:=st) aj
   by_cases c2:n'=0
   ·subst c2;rw[if_pos rfl]at he;have HR:Hd (s.extract st s.size=q):=he.symm.trans HI.o;subst ek;exact qfd
   ·rw[if_neg c2]at he;have HR:Hd ((⟨#[]⟩:By)=q):=he.symm.trans HI.o;subst ek;exact qfd
theorem gap_cases2(u:UInt8):(Qo u=true/\((u.toNat:Int) == 32)=true)\/(Qo u=true/\((u.toNat:Int) == 32)=false/\((u.toNat:Int) == 10)=true)\/(Qo u=false/\((u.toNat:Int) == 32)=false/\((u.toNat:Int) == 10)=false):=by
 exact qlb
theorem l2Piece_any(s:By)(n:X)(w:E)(hs:s.size<=2000)(hn:n<=2000):Calls prog 171 #[S s,I n] w λe w'=>e=H (S (Kr s n))/\w=w':=by
 generalize hq:Kr s n=q
 have HQ:Hd (Bh s n 0 0=q):=hq
 clear hq
 go_enter func171,ntmps171
 go_wp2
 go_loopw [1,5,6] (λnv sv iv wr=>(∃n' st k:X,k<=s.size/\n'<=2000/\st<=k/\nv=I n'/\sv=I (if st<k then (st:Int) else -1)/\iv=I k/\Hd (Bh s n' st k=q)/\w=wr)\/(nv=nv/\iv=I (s.size+1:X)/\Hd ((⟨#[]⟩:By)=q)/\w=wr/\(∃z,nv=I z)/\∃z,sv=I z)) (λ_ _ i _=>s.size+1-(intOf i).toNat)
 case atStart=>exact Or.inl ⟨n,0,0,Nat.zero_le _,hn,Nat.le_refl _,rfl,rfl,rfl,HQ,rfl⟩
 case round=>
  clear HQ hn
  rcases hrel with⟨n',st,k,hk,hn',de,rfl,rfl,rfl,HI,rfl⟩|⟨_,rfl,HR,rfl,⟨z1,rfl⟩,⟨z2,rfl⟩⟩
  ·by_cases aj:k<s.size
   ·have hne:((k:Int) == s.size)=false:=qh
    rcases gap_cases2 s[k]with⟨hg,d1⟩|⟨hg,d1,d2⟩|⟨hg,d1,d2⟩
    ·exact qgz
    ·exact qgz
    ·(have HR:Hd (Bh s n' st (k+1)=q):=by show _=_;rw[<- pf_in aj hg];exact HI.o);clear hg HI
     by_cases c1:st<k
     ·rw[if_pos c1];go_wp2;go_roundw
      case rel=>exact Or.inl ⟨n',st,k+1,qb,qb,qb,qj,by rw[if_pos qb],qj,HR,by first|trivial|rfl⟩
      case measure=>simp[intOf];omega
     ·rw[if_neg c1];obtain rfl:st=k:=qb;go_wp2;go_roundw
      case rel=>exact Or.inl ⟨n',st,st+1,qb,qb,qb,qj,by rw[if_pos qb],qj,HR,by first|trivial|rfl⟩
      case measure=>simp[intOf];omega
   ·have ek:k=s.size:=qb;have he:=Ym (n:=n') (st:=st) aj;have n6:((k:Int) == s.size)=true:=qh
    by_cases c1:st<k
    ·rw[if_pos c1]
     by_cases c2:n'=0
     ·subst c2;rw[if_pos rfl]at he;have HR:Hd (s.extract st s.size=q):=he.symm.trans HI.o;exact qfd
     ·rw[if_neg c2]at he;have HR:Hd ((⟨#[]⟩:By)=q):=he.symm.trans HI.o;exact qim
    ·rw[if_neg c1]
     have HR:Hd ((⟨#[]⟩:By)=q):=by
      show _=_;rw[<- HI.o,he];split
      ·apply WideShapes.bytes_inj;rw[show st=s.size from qb];simp
      ·rfl
     exact qim
  ·go_wp2;go_ret;exact⟨by rw[<- HR.o];rfl,rfl⟩
structure R3 where
 has:Bool
 code:Int
 text:By
def rr0:R3:=⟨false,0,ByteArray.empty⟩
def rx(is:L R3)(i:X):R3:=is.getD i rr0
def Pw(w:E)(a:Option Addr)(is:L R3):Prop:=
 ∀i,i<is.length->∃b off,a=M ⟨b,off,N⟩/\w.cell? ⟨b,off+i*3,N⟩=M (F (rx is i).has)/\w.cell? ⟨b,off+i*3+1,N⟩=M (I (rx is i).code)/\w.cell? ⟨b,off+i*3+2,N⟩=M (S (rx is i).text)
theorem Pw.bl{is:L R3}(h:Pw w a is)(hb:Bw w w'):Pw w' a is:=by
 exact qep
def Kg(r:R3):Bool:=decide (r.text.size<=2000)&&decide (0<=r.code)&&decide (r.code<=7)
def Mx(rs:L R3):Bool:=decide (rs.length<=200)&&decide (∀i,i<rs.length->Kg (rx rs i)=true)
structure St where
 pl:X
 stack:L By
 steps:X
 looks:X
inductive Out where
 | go (s:St)
 | over (c:Int) (t:By) (n:X)
 | look (ask:Bool) (nm:By) (s:St)
def En(n:X):By:=⟨(Lib.decDigits n).toArray⟩
def Ls(a:By):Bool:=a.toList.isEmpty||a.toList == [48]
def Cr(o:X)(t:By)(n:X)(a b:By):L By:=
 match o with
 | 1=>[t]
 | 2=>[b++a]
 | 3=>[a.extract 0 (min n a.size)]
 | 4=>[a.extract (min n a.size) a.size]
 | 5=>[Kr a n]
 | 6=>[Cl (b.toList == a.toList)]
 | 7=>[a,a]
 | 8=>[a,b]
 | _=>[]
def Ev(o n pl:X)(a:By):X:=if o=10 then n else if o=11/\Ls a=true then n else pl+1
def Ax(o:X):X:=(Lk.getD o 0).toNat
def Bq(l:L By):By:=l.getD (l.length-1) ByteArray.empty
def Iy(l:L By):By:=l.getD (l.length-2) ByteArray.empty
def Bl(l:L By)(k:X):L By:=l.take (l.length-k)
open Classical in
noncomputable def Lh (i:I3) (s:St):Out:=
 let o:=i.op.toNat
 let n:=i.n.toNat
 let a:=Bq s.stack
 let b:=Iy s.stack
 let r:=Bl s.stack (Ax o)
 if s.stack.length<Ax o then .over 2 (En s.pl) (s.steps+1)
 else if o=15 then .over 0 a (s.steps+1)
 else if o=14 then .over 1 a (s.steps+1)
 else if o=12\/o=13 then
  (if ¬ Ar a then .over 2 (En s.pl) (s.steps+1)
   else if s.looks=200 then .over 3 ⟨#[]⟩ (s.steps+1)
   else .look (o == 12) a ⟨s.pl,r,s.steps+1,s.looks+1⟩)
 else if 50<r.length+(Cr o i.text n a b).length\/∃x∈Cr o i.text n a b,2000<x.size then .over 2 (En s.pl) (s.steps+1)
 else .go ⟨Ev o n s.pl a,r++Cr o i.text n a b,s.steps+1,s.looks⟩
noncomputable def Cb (is:L I3) (s:St):Out:=
 if is.length<=s.pl then .over 2 (En s.pl) s.steps
 else if s.steps=2000 then .over 3 ⟨#[]⟩ s.steps
 else Lh (ix is s.pl) s
structure Ec (is:L I3) (s:St):Prop where
 pl:s.pl<=200
 len:s.stack.length<=50
 size:∀x∈s.stack,x.size<=2000
 steps:s.steps<=2000
 looks:s.looks<=200
inductive Ny (is:L I3):St->Out->Prop
 | over {s c t n}:Cb is s=.over c t n->Ny is s (.over c t n)
 | look {s ask nm s'}:Cb is s=.look ask nm s'->Ny is s (.look ask nm s')
 | go {s s' o}:Cb is s=.go s'->Ny is s' o->Ny is s o
def Et(ask:Bool)(nm:By)(y:R3)(s:St):Out:=
 if ask=false then .go ⟨s.pl+1,s.stack++[Cl y.has],s.steps,s.looks⟩
 else if y.has=false then .over 4 nm s.steps
 else if y.code≠0 then .over 5 nm s.steps
 else .go ⟨s.pl+1,s.stack++[y.text],s.steps,s.looks⟩
inductive Res where
 | over (c:Int) (t:By) (n:X)
 | wait (ask:Bool) (nm:By) (n:X)
inductive Ce (is:L I3) (ys:L R3):St->Res->Prop
 | over {s c t n}:Cb is s=.over c t n->Ce is ys s (.over c t n)
 | go {s s' r}:Cb is s=.go s'->Ce is ys s' r->Ce is ys s r
 | wait {s ask nm s'}:Cb is s=.look ask nm s'->ys.length<=s.looks->Ce is ys s (.wait ask nm s'.steps)
 | ans {s ask nm s' s'' r}:Cb is s=.look ask nm s'->s.looks<ys.length->Et ask nm (rx ys s.looks) s'=.go s''->Ce is ys s'' r->Ce is ys s r
 | end {s ask nm s' c t n}:Cb is s=.look ask nm s'->s.looks<ys.length->Et ask nm (rx ys s.looks) s'=.over c t n->Ce is ys s (.over c t n)
theorem Ce.unique{ys:L R3}{s:St}{o o':Res}(h:Ce is ys s o)(h':Ce is ys s o'):o=o':=by
 induction h with
 | over h1=>cases h' with
  | over h2=>rw[h1]at h2;cases h2;rfl
  | go h2 _=>rw[h1]at h2;cases h2
  | wait h2 _=>rw[h1]at h2;cases h2
  | ans h2 _ _ _=>rw[h1]at h2;cases h2
  | «end» h2 _ _=>rw[h1]at h2;cases h2
 | go h1 _ ih=>cases h' with
  | over h2=>rw[h1]at h2;cases h2
  | go h2 h3=>rw[h1]at h2;cases h2;exact ih h3
  | wait h2 _=>rw[h1]at h2;cases h2
  | ans h2 _ _ _=>rw[h1]at h2;cases h2
  | «end» h2 _ _=>rw[h1]at h2;cases h2
 | wait h1 k1=>cases h' with
  | over h2=>rw[h1]at h2;cases h2
  | go h2 h3=>rw[h1]at h2;cases h2
  | wait h2 _=>rw[h1]at h2;cases h2;rfl
  | ans h2 k2 _ _=>omega
  | «end» h2 k2 _=>omega
 | ans h1 k1 a1 _ ih=>cases h' with
  | over h2=>rw[h1]at h2;cases h2
  | go h2 h3=>rw[h1]at h2;cases h2
  | wait h2 k2=>omega
  | ans h2 k2 a2 h3=>rw[h1]at h2;cases h2;rw[a1]at a2;cases a2;exact ih h3
  | «end» h2 k2 a2=>rw[h1]at h2;cases h2;rw[a1]at a2;cases a2
 | «end» h1 k1 a1=>cases h' with
  | over h2=>rw[h1]at h2;cases h2
  | go h2 h3=>rw[h1]at h2;cases h2
  | wait h2 k2=>omega
  | ans h2 k2 a2 h3=>rw[h1]at h2;cases h2;rw[a1]at a2;cases a2
  | «end» h2 k2 a2=>rw[h1]at h2;cases h2;rw[a1]at a2;cases a2;rfl
theorem Hs{s s':St}{ask:Bool}{nm:By}(h:Cb is s=.look ask nm s'):s'.looks=s.looks+1/\s'.pl=s.pl/\s'.steps=s.steps+1/\s.looks≠200/\s.pl<is.length/\1<=s.stack.length/\s'.stack=Bl s.stack 1/\nm=Bq s.stack:=by
 unfold Cb at h
 split at h
 ·cases h
 ·split at h
  ·cases h
  ·rename_i h1 h2
   simp only[Lh]at h
   split at h
   ·cases h
   ·split at h
    ·cases h
    ·split at h
     ·cases h
     ·split at h
      ·rename_i h3 h4 h5 h6
       split at h
       ·cases h
       ·split at h
        ·cases h
        ·rename_i h7 h8
         cases h;(have ht:Ax (ix is s.pl).op.toNat=1:=by rcases h6 with h6|h6<;>rw[h6]<;>rfl);rw[ht]at h3 ⊢;exact⟨rfl,rfl,rfl,h8,qb,qb,rfl,rfl⟩
      ·split at h
       ·cases h
       ·cases h
theorem Ag{o:Obj}(h:w.heap[b]?=M o):b<w.heap.size:=by
 exact qll
theorem Ov{o:Obj}(hb:Bw w w')(h:w.heap[b]?=M o):w'.heap[b]?=M o:=by
 rw[hb.block _ (Ag h)];exact h
abbrev zR:Obj:=O #[I 0,nS,I 0,I 0,F false,I 0,ze,F false,ze,F false] 221 (0,0)
theorem b10(h:Below B w w')(hb:B<=b){v0 v1 v2 v3 v4 v5 v6 v7 v8 v9:Z}:Below B w (((((((((((w').setCell ⟨b,0,N⟩ v0).setCell ⟨b,1,N⟩ v1).setCell ⟨b,2,N⟩ v2).setCell ⟨b,3,N⟩ v3).setCell ⟨b,4,N⟩ v4).setCell ⟨b,5,N⟩ v5).setCell ⟨b,6,N⟩ v6).setCell ⟨b,7,N⟩ v7).setCell ⟨b,8,N⟩ v8).setCell ⟨b,9,N⟩ v9):=((((((((((h).setCell (p:=⟨b,0,N⟩) hb _).setCell (p:=⟨b,1,N⟩) hb _).setCell (p:=⟨b,2,N⟩) hb _).setCell (p:=⟨b,3,N⟩) hb _).setCell (p:=⟨b,4,N⟩) hb _).setCell (p:=⟨b,5,N⟩) hb _).setCell (p:=⟨b,6,N⟩) hb _).setCell (p:=⟨b,7,N⟩) hb _).setCell (p:=⟨b,8,N⟩) hb _).setCell (p:=⟨b,9,N⟩) hb _
theorem gA{α:Type}{l:L α}:l.toArray[i]?=l[i]?:=List.getElem?_toArray
theorem gB{α:Type}{a:α}{l:L α}:(a::l)[0]?=M a:=List.getElem?_cons_zero
theorem gC{α:Type}{a:α}{l:L α}:(a::l)[i+1]?=l[i]?:=List.getElem?_cons_succ
theorem gD{α:Type}{l:L α}{a:α}:l.toArray.setIfInBounds i a=(l.set i a).toArray:=qg
theorem gE{α:Type}{a b:α}{l:L α}:(a::l).set 0 b=b::l:=rfl
theorem alK(W1:E):∀(p:Addr)(v:Z)(x:Obj),W1.cell? p=M v->(W1.alloc x).cell? p=M v:=λp v x h=>qfp
theorem Hi{n T:X}{cs:Array Z}{v:Z}(hT:T≠9)(h:w.heap[b]?=M (O cs T (0,0)))(ho:w.ownsRow B 9 1 v n xs):M b≠v.ownBlock:=by
 intro e
 rcases ho.2 with⟨rfl,_⟩|⟨g,cap,cur,rfl,hg,hh,_⟩
 ·simp[Value.ownBlock]at e
 ·simp[Value.ownBlock]at e;subst e;rw[h]at hh;injection hh with hh;injection hh with _ h2;exact hT h2
def Fe(w:E)(m b:X):Prop:=∀v,w.cell? ⟨m,0,N⟩=M v->M b≠v.ownBlock
structure KB (B m:X) (w w':E):Prop where
 bl:Below B w w'
 keep:∀b cs T,T≠9->b≠m->w.heap[b]?=M (O cs T (0,0))->w'.heap[b]?=M (O cs T (0,0))
 own:m<w.heap.size->∀b cs T,b≠m->Fe w m b->w.heap[b]?=M (O cs T (0,0))->w'.heap[b]?=M (O cs T (0,0))/\Fe w' m b
theorem KB.size(h:KB B m w w'):w.heap.size<=w'.heap.size:=h.bl.size
theorem KB.refl(B m:X)(w:E):KB B m w w:=⟨Below.refl _ _,λ_ _ _ _ _ h=>h,λ_ _ _ _ _ h2 h3=>⟨h3,h2⟩⟩
theorem KB.trans{w'':E}(h:KB B m w w')(k:KB B m w' w''):KB B m w w'':=⟨h.bl.trans k.bl,λb cs T h1 h2 h3=>k.keep b cs T h1 h2 (h.keep b cs T h1 h2 h3),λhm b cs T h1 h2 h3=>k.own (Nat.lt_of_lt_of_le hm h.bl.size) b cs T h1 (h.own hm b cs T h1 h2 h3).2 (h.own hm b cs T h1 h2 h3).1⟩
theorem KB.drew(h:KB B m w w'):KB B m w w'.drew:=⟨h.bl.drew,h.keep,h.own⟩
theorem KB.old(h:Bw w w')(hB:B<=w.heap.size):KB B m w w':=⟨h.mono hB,λb cs T h1 h2 h3=>by rw[h.block b (Ag h3)];exact h3,λhm b cs T h1 h2 h3=>⟨by rw[h.block b (Ag h3)];exact h3,λv hv=>h2 v ((h.cell (p:=⟨m,0,N⟩) hm).symm.trans hv)⟩⟩
theorem KB.setM(h:KB B m w w')(j:X)(hB:B<=m)(v:Z)(hj:j≠0:=by decide):KB B m w (w'.setCell ⟨m,j,N⟩ v):=⟨h.bl.setCell (p:=⟨m,j,N⟩) hB _,λb cs T h1 h2 h3=>by rw[hC w' ⟨m,j,N⟩ _ b h2];exact h.keep b cs T h1 h2 h3,λhm b cs T h1 h2 h3=>⟨by rw[hC w' ⟨m,j,N⟩ _ b h1];exact(h.own hm b cs T h1 h2 h3).1,λu hu=>(h.own hm b cs T h1 h2 h3).2 u (by rw[World.cell?_setCell_other (w:=w') (a:=⟨m,j,N⟩) (b:=⟨m,0,N⟩) (v:=v) qg]at hu;exact hu)⟩⟩
theorem KB.setN(h:KB B m w w')(j:X)(hB:B<=w.heap.size)(v:Z):KB B m w (w'.setCell ⟨w.heap.size,j,N⟩ v):=⟨h.bl.setCell (p:=⟨w.heap.size,j,N⟩) hB _,λb cs T h1 h2 h3=>by rw[hC w' ⟨w.heap.size,j,N⟩ _ b (by have:=Ag h3;simp;omega)];exact h.keep b cs T h1 h2 h3,λhm b cs T h1 h2 h3=>⟨by rw[hC w' ⟨w.heap.size,j,N⟩ _ b (by have:=Ag h3;simp;omega)];exact(h.own hm b cs T h1 h2 h3).1,λu hu=>(h.own hm b cs T h1 h2 h3).2 u (by rw[World.cell?_setCell_far _ _ _ _ qh]at hu;exact hu)⟩⟩
theorem Fp{w2:E}{o:Obj}{ob:Option X}(ae:(w.alloc o).grownBy w2 ob)(HO:∀(b:X)(cs:Array Z)(T:X),T≠9->w.heap[b]?=M (O cs T (0,0))->M b≠ob):∀(b:X)(cs:Array Z)(T:X),T≠9->w.heap[b]?=M (O cs T (0,0))->w2.heap[b]?=M (O cs T (0,0)):=by
 intro b cs T hT hb
 have hl:=Ag hb
 rw[ae.block b qh (HO b cs T hT hb),Lib.alloc_old w _ b hl]
 exact hb
theorem Gh(B m:X)(ss:L By)(cd:Z)(pl st lk:Int)(t:By)(w:E)(hM:Bx B w m ss cd pl st lk)(hB:B<=w.heap.size)(h1:t.size<=2000)(h2:ss.length<50):Calls prog 190 #[D (p_ m),S t] w λe w'=>e=H (F true)/\KB B m w w'/\Bx B w' m (ss++[t]) cd pl st lk:=by
 obtain⟨jj,v,hm,ah⟩:=hM
 obtain⟨ao,cap,rfl⟩:∃ao cap,v=J ao ss.length cap:=by
  exact qkv
 have c0:=cK hm 0
 have aj:=hm.lt
 have HO:Hd (∀(b:X)(cs:Array Z)(T:X),T≠9->w.heap[b]?=M (O cs T (0,0))->M b≠(Value.slice ao ss.length cap).ownBlock):=λb cs T hT hb=>Hi hT hb ah
 have d1:decide ((2000:Int)<t.size)=false:=qh
 have d2:((ss.length:Int) == 50)=false:=qh
 obtain⟨i0,hi,bq,bg,bv⟩:=info_parts Tryz.info9b
 go_enter func190,ntmps190
 go_wp2_with (first|(at_builtin;refine wpList_append_lies _ rfl (.tmp 20) (.tmp 22) 22 rfl B 9 i0 ze 1 16 underlying22 hi bq bg bv rfl qd _ _ _ rfl (ah.alloc _) ⟨w.heap.size,0,N⟩ 1 1 [S t] rfl rfl (cell_one_new _ _ _) qae qb qm qb qh _ rfl ?_;intro g' mh w2 au ae ci V5;have hK2:Hd (∀(b:X)(cs:Array Z)(T:X),T≠9->w.heap[b]?=M (O cs T (0,0))->w2.heap[b]?=M (O cs T (0,0))):=Fp ae HO.o;have rd:Fm w2 m (J ao ss.length cap) cd pl st lk:=(by have hne:=hm.ne' ah;unfold Fm at *;rw[ae.block m qh hne,Lib.alloc_old w _ m aj];exact hm);have e0:w2.cell? ⟨m,0,N⟩=M (J ao ss.length cap):=(by rw[cH rd];rfl);have f0:w2.frozen? ⟨m,0,N⟩=false:=fH rd 0;have gh:Below B w w2:=((Below.refl _ _).alloc qb _).grown ae qh (λk hk=>(Ll ah k hk).1);have HLIE:Hd ((Value.slice ao ss.length cap).ownBlock=M g'\/w.heap.size<=g'):=(by rcases ci with h|h;exact Or.inl h;exact Or.inr (by rw[h];simp));have HGR:Hd (∀b cs T,M b≠(Value.slice ao ss.length cap).ownBlock->w.heap[b]?=M (O cs T (0,0))->w2.heap[b]?=M (O cs T (0,0))):=(λb cs T h1 h2=>by have hl:=Ag h2;rw[ae.block b qh h1,Lib.alloc_old w _ b hl];exact h2)))
 go_ret
 exact⟨rfl,⟨gh.setCell (p:=⟨m,0,N⟩) jj _,λb cs T hT zx hb=>by rw[hC _ ⟨m,0,N⟩ _ b zx];exact hK2.out b cs T hT hb,λ_ b cs T zx gg hb=>⟨by rw[hC _ ⟨m,0,N⟩ _ b zx];exact HGR.o b cs T (gg _ c0) hb,λu hu=>by
  rw[World.cell?_setCell_same (h:=e0)]at hu;cases hu;have hl:=Ag hb;intro n6
  rcases HLIE.o with h|h
  ·exact gg _ c0 (n6.trans h.symm)
  ·simp[Value.ownBlock]at n6;omega⟩⟩,Bx.put jj rd (by simpa [Aq] using au)⟩
theorem Cg(B m:X)(ss:L By)(x:By)(cd:Z)(pl st lk:Int)(w:E)(hM:Bx B w m (ss++[x]) cd pl st lk)(hB:B<=w.heap.size)(h2:ss.length<50):Calls prog 188 #[D (p_ m)] w λe w'=>e=H (S x)/\KB B m w w'/\Bx B w' m ss cd pl st lk/\∀b,b≠m->w'.heap[b]?=w.heap[b]?:=by
 obtain⟨jj,v,hm,ah⟩:=hM
 rw[List.length_append,List.length_singleton]at ah
 obtain⟨g,cap,rfl⟩:∃g cap,v=J (p_ g) (ss.length+1) cap:=by
  rcases ah.2 with⟨_,h0⟩|⟨g,cap,cur,hv,_⟩
  ·omega
  ·exact⟨_,_,hv⟩
 have c0:=cK hm 0
 have f0:w.frozen? ⟨m,0,N⟩=false:=fH hm 0
 have cx:w.cell? ⟨g,ss.length,N⟩=M (S x):=by rw[ah.cellAt ss.length qb];simp[Aq]
 have zw:ss.length+1<=cap:=by
  rcases ah.2 with⟨h0,_⟩|⟨g',ai,cur,hv,hg,hh,h1,_⟩
  ·simp at h0
  ·simp only[Value.slice.injEq,Option.some.injEq,Addr.mk.injEq,and_true,true_and]at hv;omega
 have HS:Hd (Bx B (w.setCell ⟨m,0,N⟩ (J (p_ g) ss.length cap)) m ss cd pl st lk):=Bx.put jj hm (Tq ah)
 clear ah hm
 go_enter func188,ntmps188
 go_wp2
 go_ret
 exact⟨rfl,⟨(Below.refl _ _).setCell (p:=⟨m,0,N⟩) jj _,λb cs T hT zx hb=>by rw[hC w ⟨m,0,N⟩ _ b zx];exact hb,λ_ b cs T zx gg hb=>⟨by rw[hC w ⟨m,0,N⟩ _ b zx];exact hb,λu hu=>by
  rw[World.cell?_setCell_same (h:=c0)]at hu;cases hu;have hno2:=gg _ c0;simpa [Value.ownBlock] using hno2⟩⟩,HS.o,λb hb=>hC w ⟨m,0,N⟩ _ b hb⟩
theorem Bx.place{lk:Int}(h:Bx B w m ss cd pl st lk)(p:Int):Bx B (w.setCell ⟨m,2,N⟩ (I p)) m ss cd p st lk:=by
 obtain⟨hB,v,hm,ho⟩:=h
 refine⟨hB,v,?_,?_⟩
 ·exact qdj
 ·have hne:=hm.ne' ho;refine⟨ho.1,?_⟩
  rcases ho.2 with h0|⟨g,cap,cur,hv,hg,hh,r⟩
  ·exact Or.inl h0
  ·refine Or.inr ⟨g,cap,cur,hv,hg,?_,r⟩;rw[hC w ⟨m,2,N⟩ _ g qck];exact hh
theorem Bx.cell2{lk:Int}(h:Bx B w m ss cd pl st lk):w.cell? ⟨m,2,N⟩=M (I pl)/\w.frozen? ⟨m,2,N⟩=false/\m<w.heap.size/\B<=m:=by
 obtain⟨hB,v,hm,ho⟩:=h
 exact⟨qbb,fH hm 2,hm.lt,hB⟩
theorem Zo(B m:X)(ss:L By)(cd:Z)(pl st lk:Int)(t:By)(n:Int)(w:E)(hM:Bx B w m ss cd pl st lk)(hB:B<=w.heap.size)(h1:t.size<=2000)(h2:ss.length<50)(vq:0<=pl)(ja:pl<=2000):Calls prog 189 #[D (p_ m),G #[I 1,S t,I n]] w λe w'=>e=H (F true)/\KB B m w w'/\Bx B w' m (ss++[t]) cd (pl+1) st lk:=by
 have fc:Bw w (w.alloc (O #[I 1,S t,I n] 143)):=aN _ _
 have fa:=hM.bl fc
 obtain⟨c2,f2,pn,jj⟩:=fa.cell2
 go_enter func189,ntmps189
 go_wp2_with fail
 go_region_with (first|(go_at_call 190;refine(Gh B m ss cd pl st lk t _ ?_ ?_ h1 h2).mono ?_;(focus(exact fa));(focus(simp;omega));rintro e w1 ⟨rfl,af,jn⟩))
 all_goals
  obtain⟨d2,e2,_,_⟩:=jn.cell2;have HM:Hd (Bx B w1 m (ss++[t]) cd pl st lk):=jn;clear jn hM fa;go_wp2;go_ret;exact⟨rfl,(((KB.old fc hB).drew).trans af).setM 2 jj _,HM.o.place _⟩
theorem Zp(B m:X)(ss:L By)(cd:Z)(pl st lk:Int)(t:By)(n:X)(w:E)(hM:Bx B w m (ss) cd pl st lk)(hB:B<=w.heap.size)(vq:0<=pl)(ja:pl<=2000)(hn:n<=2000)(h1:t.size<=2000)(h2:ss.length=50):Calls prog 189 #[D (p_ m),G #[I 1,S t,I n]] w λe w'=>e=H (F false)/\KB B m w w'/\Bx B w' m (ss) cd pl st lk:=by
 have fc:Bw w (w.alloc (O #[I 1,S t,I n] 143)):=aN _ _
 have sj:=hM.cell2.2.2.1
 have fa:=hM.bl fc
 obtain⟨c2,f2,pn,jj⟩:=fa.cell2
 have d9:B<=(w.alloc (O #[I 1,S t,I n] 143)).heap.size:=qh
 go_enter func189,ntmps189
 go_wp2_with fail
 go_region_with (first|(go_at_call 190;refine(put_no B m (ss) cd pl st lk (t) _ ?_ ?_ ?_ ?_).mono ?_;(focus(exact fa));(focus(first|omega|(simp;omega)));(focus(first|omega|(simp;omega)));(focus(exact Or.inr h2));rintro e w1 ⟨rfl,rfl⟩))
 all_goals
  go_wp2;go_ret;exact⟨rfl,(KB.old fc hB).drew,fa⟩
theorem work_jump(B m:X)(ss:L By)(cd:Z)(pl st lk:Int)(t:By)(n:X)(w:E)(hM:Bx B w m (ss) cd pl st lk)(hB:B<=w.heap.size)(vq:0<=pl)(ja:pl<=2000)(hn:n<=2000):Calls prog 189 #[D (p_ m),G #[I 10,S t,I n]] w λe w'=>e=H (F true)/\KB B m w w'/\Bx B w' m (ss) cd n st lk:=by
 have fc:Bw w (w.alloc (O #[I 10,S t,I n] 143)):=aN _ _
 have fa:=hM.bl fc
 obtain⟨c2,f2,pn,jj⟩:=fa.cell2
 have d9:B<=(w.alloc (O #[I 10,S t,I n] 143)).heap.size:=qh
 go_enter func189,ntmps189
 go_wp2
 go_ret
 exact⟨rfl,(KB.old fc hB).setM 2 jj _,fa.place _⟩
theorem work_drop(B m:X)(r:L By)(x:By)(cd:Z)(pl st lk:Int)(t:By)(n:X)(w:E)(hM:Bx B w m (r++[x]) cd pl st lk)(hB:B<=w.heap.size)(vq:0<=pl)(ja:pl<=2000)(hn:n<=2000)(h2:r.length<50):Calls prog 189 #[D (p_ m),G #[I 9,S t,I n]] w λe w'=>e=H (F true)/\KB B m w w'/\Bx B w' m (r) cd (pl+1) st lk:=by
 have fc:Bw w (w.alloc (O #[I 9,S t,I n] 143)):=aN _ _
 have sj:=hM.cell2.2.2.1
 have fa:=hM.bl fc
 obtain⟨c2,f2,pn,jj⟩:=fa.cell2
 have d9:B<=(w.alloc (O #[I 9,S t,I n] 143)).heap.size:=qh
 go_enter func189,ntmps189
 go_wp2_with (first|(go_at_call 188;refine(Cg B m (r) x cd pl st lk _ ?_ ?_ ?_).mono ?_;(focus(exact fa));(focus(exact d9));(focus(first|omega|(simp;omega)));rintro e w1 ⟨rfl,af,jn,cq⟩;have gj:B<=w1.heap.size:=(Nat.le_trans d9 af.size);obtain⟨dd1,ee1,_,_⟩:=jn.cell2;clear cq))
 go_ret
 exact⟨rfl,((KB.old fc hB).trans af).setM 2 jj _,jn.place _⟩
theorem Uv(B m:X)(r:L By)(x:By)(cd:Z)(pl st lk:Int)(t:By)(n:X)(w:E)(hM:Bx B w m (r++[x]) cd pl st lk)(hB:B<=w.heap.size)(vq:0<=pl)(ja:pl<=2000)(hn:n<=2000)(h2:r.length<50)(hx:x.toList.isEmpty=true):Calls prog 189 #[D (p_ m),G #[I 11,S t,I n]] w λe w'=>e=H (F true)/\KB B m w w'/\Bx B w' m (r) cd n st lk:=by
 exact qee
theorem Uu(B m:X)(r:L By)(x:By)(cd:Z)(pl st lk:Int)(t:By)(n:X)(w:E)(hM:Bx B w m (r++[x]) cd pl st lk)(hB:B<=w.heap.size)(vq:0<=pl)(ja:pl<=2000)(hn:n<=2000)(h2:r.length<50)(hx:x.toList.isEmpty=false)(hx2:(x.toList == [48])=true):Calls prog 189 #[D (p_ m),G #[I 11,S t,I n]] w λe w'=>e=H (F true)/\KB B m w w'/\Bx B w' m (r) cd n st lk:=by
 exact qee
theorem Ut(B m:X)(r:L By)(x:By)(cd:Z)(pl st lk:Int)(t:By)(n:X)(w:E)(hM:Bx B w m (r++[x]) cd pl st lk)(hB:B<=w.heap.size)(vq:0<=pl)(ja:pl<=2000)(hn:n<=2000)(h2:r.length<50)(hx:x.toList.isEmpty=false)(hx2:(x.toList == [48])=false):Calls prog 189 #[D (p_ m),G #[I 11,S t,I n]] w λe w'=>e=H (F true)/\KB B m w w'/\Bx B w' m (r) cd (pl+1) st lk:=by
 exact qee
theorem Zs(B m:X)(r:L By)(x y:By)(cd:Z)(pl st lk:Int)(t:By)(n:X)(w:E)(hM:Bx B w m (r++[x]++[y]) cd pl st lk)(hB:B<=w.heap.size)(vq:0<=pl)(ja:pl<=2000)(hn:n<=2000)(h2:r.length+2<=50)(hx:x.size<=2000)(hy:y.size<=2000)(hxy:(x++y).size<=2000):Calls prog 189 #[D (p_ m),G #[I 2,S t,I n]] w λe w'=>e=H (F true)/\KB B m w w'/\Bx B w' m (r++[x++y]) cd (pl+1) st lk:=by
 have fc:Bw w (w.alloc (O #[I 2,S t,I n] 143)):=aN _ _
 have sj:=hM.cell2.2.2.1
 have fa:=hM.bl fc
 obtain⟨c2,f2,pn,jj⟩:=fa.cell2
 have d9:B<=(w.alloc (O #[I 2,S t,I n] 143)).heap.size:=qh
 go_enter func189,ntmps189
 go_wp2_with fail
 go_region_with (first|(go_at_call 188;refine(Cg B m (r) x cd pl st lk _ ?_ ?_ ?_).mono ?_;(focus(exact jn));(focus(exact gj));(focus(first|omega|(simp;omega)));rintro e w2 ⟨rfl,ag,ji,iw⟩;have nj:B<=w2.heap.size:=(Nat.le_trans gj ag.size);obtain⟨dd2,ee2,_,_⟩:=ji.cell2;clear iw)|(go_at_call 188;refine(Cg B m (r++[x]) y cd pl st lk _ ?_ ?_ ?_).mono ?_;(focus(exact fa));(focus(exact d9));(focus(first|omega|(simp;omega)));rintro e w1 ⟨rfl,af,jn,cq⟩;have gj:B<=w1.heap.size:=(Nat.le_trans d9 af.size);obtain⟨dd1,ee1,_,_⟩:=jn.cell2;clear cq))
 all_goals
  go_wp2_with (first|(go_at_call 190;refine(Gh B m (r) cd pl st lk (x++y) _ ?_ ?_ hxy ?_).mono ?_;(focus(exact ji));(focus(exact nj));(focus(first|omega|(simp;omega)));rintro e w3 ⟨rfl,ba,Y1⟩;have B8:B<=w3.heap.size:=(Nat.le_trans nj ba.size);obtain⟨dd3,ee3,_,_⟩:=Y1.cell2))
  go_ret;exact⟨rfl,(((KB.old fc hB).drew.trans af).trans (ag.trans ba)).setM 2 jj _,Y1.place _⟩
theorem Zt(B m:X)(r:L By)(x y:By)(cd:Z)(pl st lk:Int)(t:By)(n:X)(w:E)(hM:Bx B w m (r++[x]++[y]) cd pl st lk)(hB:B<=w.heap.size)(vq:0<=pl)(ja:pl<=2000)(hn:n<=2000)(h2:r.length+2<=50)(hx:x.size<=2000)(hy:y.size<=2000)(hxy:2000<(x++y).size)(hxy2:(x++y).size<=4000):Calls prog 189 #[D (p_ m),G #[I 2,S t,I n]] w λe w'=>e=H (F false)/\KB B m w w'/\Bx B w' m (r) cd pl st lk:=by
 have fc:Bw w (w.alloc (O #[I 2,S t,I n] 143)):=aN _ _
 have sj:=hM.cell2.2.2.1
 have fa:=hM.bl fc
 obtain⟨c2,f2,pn,jj⟩:=fa.cell2
 have d9:B<=(w.alloc (O #[I 2,S t,I n] 143)).heap.size:=qh
 go_enter func189,ntmps189
 go_wp2_with fail
 go_region_with (first|(go_at_call 188;refine(Cg B m (r) x cd pl st lk _ ?_ ?_ ?_).mono ?_;(focus(exact jn));(focus(exact gj));(focus(first|omega|(simp;omega)));rintro e w2 ⟨rfl,ag,ji,iw⟩;have nj:B<=w2.heap.size:=(Nat.le_trans gj ag.size);obtain⟨dd2,ee2,_,_⟩:=ji.cell2;clear iw)|(go_at_call 188;refine(Cg B m (r++[x]) y cd pl st lk _ ?_ ?_ ?_).mono ?_;(focus(exact fa));(focus(exact d9));(focus(first|omega|(simp;omega)));rintro e w1 ⟨rfl,af,jn,cq⟩;have gj:B<=w1.heap.size:=(Nat.le_trans d9 af.size);obtain⟨dd1,ee1,_,_⟩:=jn.cell2;clear cq))
 all_goals
  go_wp2_with (first|(go_at_call 190;refine(put_no B m (r) cd pl st lk (x++y) _ ?_ ?_ ?_ ?_).mono ?_;(focus(exact ji));(focus(first|omega|(simp;omega)));(focus(first|omega|(simp;omega)));(focus(exact Or.inl hxy));rintro e w3 ⟨rfl,rfl⟩))
  go_ret;exact⟨rfl,((KB.old fc hB).drew.trans af).trans ag,ji⟩
end Go.Proofs.YtbkkjodaaijimaaGreatDoor
