import Derived.Test.YtnflkpmmfpfhlaaGreatDoorRows
import Derived.Test.YtnflkpmmfpfhlaaGreatDoorTValid
namespace Go.Proofs.YtnflkpmmfpfhlaaGreatDoor
open _root_.Go.Proofs.Tryz Go.RowKit
open Value renaming slice->J,string->S,bool->F,agg->G,pointer->D,tuple->Y
open Option renaming some->M,none->N
open Obj renaming cells->O
open Go renaming Value->Z,World->E
open Ending renaming returned->H
open _root_ renaming List->L,Nat->X
set_option linter.unusedVariables false
set_option maxHeartbeats 8000000
set_option maxRecDepth 100000
set_option linter.unusedSimpArgs false
variable {w w':E} {a:Option Addr} {b m B g cap i:X} {cd v:Z} {pl st:Int} {xs:L Z} {ss:L By} {is:L I3}
theorem Pp:∀(k n:X),n<10 ^ (k+1)->(Lib.decDigits n).length<=k+1
 | 0,n,h=>by rw[Lib.decDigits,dif_pos qbh];simp
 | k+1,n,h=>by
  rw[Lib.decDigits];split
  ·simp
  ·have:=Pp k (n / 10) (by rw[Nat.pow_succ]at h;omega);simp;omega
theorem Wd(W:E)(g:X)(c:Int)(u:UInt8)(hu:(u.toNat:Int)=c)(h:W.cell? ⟨g,0,N⟩=M (.int .u8 c)):(convert 118 9 (J (p_ g) 1 1)).run prog W=.ok (S ⟨#[u]⟩) W:=by
 subst hu
 exact run_convert_bytes_back (P:=prog) W 118 9 5 ⟨g,0,N⟩ 1 [u] underlying118 underlying5 underlying9 (λt ht=>by
  obtain rfl:t=0:=by simp at ht;omega
  simpa [Addr.add] using h)
theorem Wc(d:X)(h:d<10):((UInt8.ofNat (48+d)).toNat:Int)=48+d:=by rw[UInt8.toNat_ofNat'];omega
theorem str_snoc(l:L UInt8)(u:UInt8):(⟨l.toArray⟩:By)++(⟨#[u]⟩:By)=⟨(l++[u]).toArray⟩:=by
 apply WideShapes.bytes_inj
 simp[ByteArray.data_append]
theorem l2Dec_any:∀(n:X)(w:E),n<=1000000->Calls prog 137 #[I n] w λe w'=>e=H (S ⟨(Lib.decDigits n).toArray⟩)/\Bw w w':=by
 intro n
 induction n using Nat.strongRecOn with
 | _ n ih=>
  intro w hn
  by_cases h:n<10
  ·have hdd:Lib.decDigits n=[UInt8.ofNat (48+n)]:=by rw[Lib.decDigits,dif_pos h]
   have hu:=Wc n h;rw[hdd];generalize UInt8.ofNat (48+n)=u at *;have hcv:=Wd (w.alloc (O #[.int .u8 (48+n)] 5)) w.heap.size (48+n) u hu qo;clear hdd ih hu;exact qmi
  ·have hdd:Lib.decDigits n=Lib.decDigits (n / 10)++[UInt8.ofNat (48+n % 10)]:=by rw[Lib.decDigits,dif_neg h]
   rw[hdd,<- str_snoc];have hl:=Pp 6 (n / 10) qg
   have hq:(⟨(Lib.decDigits (n / 10)).toArray⟩:By).size<=10:=by
    show(Lib.decDigits (n / 10)).toArray.size<=10;rw[List.size_toArray];omega
   have IH:Hd (∀W:E,Calls prog 137 #[I ((n / 10:X):Int)] W λe w'=>e=H (S ⟨(Lib.decDigits (n / 10)).toArray⟩)/\Bw W w'):=λW=>ih (n / 10) qg W qg;clear ih hdd hl;generalize (⟨(Lib.decDigits (n / 10)).toArray⟩:By)=q at *;obtain⟨m,e1,em⟩:∃m:X,(n:Int) / 10=(m:Int)/\n / 10=m:=⟨n / 10,qg,rfl⟩;rw[em]at IH;clear em;have hdb:=Wc (n % 10) qg;have hmod:(n:Int).tmod 10=((n % 10:X):Int):=by rw[Int.tmod_eq_emod_of_nonneg qg];omega
   obtain⟨c,e3,hu⟩:∃c:Int,IntKind.u8.wrap (IntKind.i64.wrap (48+(n:Int).tmod 10))=c/\((UInt8.ofNat (48+n % 10)).toNat:Int)=c:=by
    refine⟨_,rfl,?_⟩;rw[hdb,hmod,IntWalk.i64_in _ ⟨qg,qg⟩];(have:IntKind.u8.wrap (48+((n % 10:X):Int))=(48+((n % 10:X):Int)) % 256:=by simp[IntKind.wrap,IntKind.bits,IntKind.signed]);rw[this];omega
   generalize UInt8.ofNat (48+n % 10)=u at *;clear hdb hmod;have hcv:=λ(W:E) (g:X)=>Wd W g c u hu;have IH2:Hd (∀W:E,W.cell? ⟨w.heap.size,0,N⟩=M (.int .u8 c)->Calls prog 137 #[I (m:Int)] W λe w'=>e=H (S q)/\Bw W w'/\w'.cell? ⟨w.heap.size,0,N⟩=M (.int .u8 c)):=λW hW=>(IH.o W).mono λe w' ⟨he,hb⟩=>⟨he,hb,Aa hb hW⟩;clear hu;go_enter func137,ntmps137;go_wp2
   go_region_with (first|(go_at_call 137;rw[show IntKind.i64.wrap (m:Int)=(m:Int) from IntWalk.i64_in _ ⟨qg,qg⟩];refine(IH2.o _ ?_).mono ?_;(focus(simp[go_sem];done));rintro e w1 ⟨rfl,ag,hcc⟩)|(go_at_call 137;rw[show IntKind.i64.wrap (m:Int)=(m:Int) from IntWalk.i64_in _ ⟨qg,qg⟩];refine(IH.o _).mono ?_;rintro e w1 ⟨rfl,ag⟩))
   all_goals go_wp2
   all_goals go_ret
   ·exact⟨rfl,((Below.refl _ _).drew.trans ag).alloc (by have:=ag.size;simpa using this) _⟩
   ·exact qnd
   ·exact qnd
def Pg(w:E):Prop:=Lib.TabIs prog w "internal/strconv.uint64pow10" .u64 Lib.pow10Tab
theorem Pg.bl(h:Pg w)(hb:Bw w w'):Pg w':=Lib.tabBelow_of_tabIs h w' hb
def Ao(s:By):Prop:=1<=s.size/\s.size<=60/\∀j,(h:j<s.size)->33<=s[j].toNat/\s[j].toNat<=126
noncomputable def Gg (s:By):Bool:=@decide (Ao s) (Classical.propDecidable _)
theorem Dc{s:By}(h:Ao s):Gg s=true:=by simp[Gg,h]
theorem Ct{s:By}(h:¬ Ao s):Gg s=false:=by simp[Gg,h]
def Cz(b:Bool):By:=if b then ⟨#[49]⟩ else ⟨#[48]⟩
theorem Cf(s:By)(w:E)(hs:s.size<=9223372036854775807):Calls prog 76 #[S s] w λe w'=>e=H (F (Gg s))/\w=w':=by
 by_cases h1:s.size<1
 ·rw[Ct (λh=>by have:=h.1;omega)];have d1:decide ((s.size:Int)<1)=true:=qj;go_enter func76,ntmps76;exact qam
 ·have d1:decide ((s.size:Int)<1)=false:=qj
  by_cases h2:60<s.size
  ·rw[Ct (λh=>by have:=h.2.1;omega)];have d2:decide ((60:Int)<s.size)=true:=qj;go_enter func76,ntmps76;exact qam
  ·have d2:decide ((60:Int)<s.size)=false:=qj;go_enter func76,ntmps76;go_wp2
   go_loopw [3] (λi wr=>∃k:X,k<=s.size/\i=I k/\Hd (∀j,(h:j<s.size)->j<k->33<=s[j].toNat/\s[j].toNat<=126)/\w=wr) (λi _=>s.size-(intOf i).toNat)
   case atStart=>exact⟨0,Nat.zero_le _,rfl,λj _ hj=>qg,rfl⟩
   case round=>
    exact qib
theorem Dq(s:By)(w:E)(hs:s.size<=9223372036854775807):Calls prog 96 #[S s] w λe w'=>e=H (F (Gg s))/\w=w':=by
 by_cases h1:s.size<1
 ·rw[Ct (λh=>by have:=h.1;omega)];have d1:decide ((s.size:Int)<1)=true:=qj;go_enter func96,ntmps96;exact qam
 ·have d1:decide ((s.size:Int)<1)=false:=qj
  by_cases h2:60<s.size
  ·rw[Ct (λh=>by have:=h.2.1;omega)];have d2:decide ((60:Int)<s.size)=true:=qj;go_enter func96,ntmps96;exact qam
  ·have d2:decide ((60:Int)<s.size)=false:=qj;go_enter func96,ntmps96;go_wp2
   go_loopw [14] (λi wr=>∃k:X,k<=s.size/\i=I k/\Hd (∀j,(h:j<s.size)->j<k->33<=s[j].toNat/\s[j].toNat<=126)/\w=wr) (λi _=>s.size-(intOf i).toNat)
   case atStart=>exact⟨0,Nat.zero_le _,rfl,λj _ hj=>qg,rfl⟩
   case round=>
    exact qib
theorem Lx(b:Bool)(w:E):Calls prog 113 #[F b] w λe w'=>e=H (S (Cz b))/\w=w':=by
 cases b
 all_goals
  go_enter func113,ntmps113;exact qam
theorem Rn(b:Bool)(w:E):Calls prog 168 #[F b] w λe w'=>e=H (S (Cz b))/\w=w':=by
 cases b
 all_goals
  go_enter func168,ntmps168;exact qam
def putsOf:L Int:=[0,1,1,1,1,1,1,2,2,0,0,0,1,1,0,0]
theorem l2Takes_1(w:E):Calls prog 157 #[I 1] w λe w'=>e=H (Y #[I 0,I 1])/\w=w':=by
 exact qag
theorem l2Takes_2(w:E):Calls prog 157 #[I 2] w λe w'=>e=H (Y #[I 2,I 1])/\w=w':=by
 exact qag
theorem l2Takes_3(w:E):Calls prog 157 #[I 3] w λe w'=>e=H (Y #[I 1,I 1])/\w=w':=by
 exact qag
theorem l2Takes_4(w:E):Calls prog 157 #[I 4] w λe w'=>e=H (Y #[I 1,I 1])/\w=w':=by
 exact qag
theorem l2Takes_5(w:E):Calls prog 157 #[I 5] w λe w'=>e=H (Y #[I 1,I 1])/\w=w':=by
 exact qag
theorem l2Takes_6(w:E):Calls prog 157 #[I 6] w λe w'=>e=H (Y #[I 2,I 1])/\w=w':=by
 exact qag
theorem l2Takes_7(w:E):Calls prog 157 #[I 7] w λe w'=>e=H (Y #[I 1,I 2])/\w=w':=by
 exact qag
theorem l2Takes_8(w:E):Calls prog 157 #[I 8] w λe w'=>e=H (Y #[I 2,I 2])/\w=w':=by
 exact qag
theorem l2Takes_9(w:E):Calls prog 157 #[I 9] w λe w'=>e=H (Y #[I 1,I 0])/\w=w':=by
 exact qag
theorem l2Takes_10(w:E):Calls prog 157 #[I 10] w λe w'=>e=H (Y #[I 0,I 0])/\w=w':=by
 exact qag
theorem l2Takes_11(w:E):Calls prog 157 #[I 11] w λe w'=>e=H (Y #[I 1,I 0])/\w=w':=by
 exact qag
theorem l2Takes_12(w:E):Calls prog 157 #[I 12] w λe w'=>e=H (Y #[I 1,I 1])/\w=w':=by
 exact qag
theorem l2Takes_13(w:E):Calls prog 157 #[I 13] w λe w'=>e=H (Y #[I 1,I 1])/\w=w':=by
 exact qag
theorem l2Takes_14(w:E):Calls prog 157 #[I 14] w λe w'=>e=H (Y #[I 1,I 0])/\w=w':=by
 exact qag
theorem l2Takes_15(w:E):Calls prog 157 #[I 15] w λe w'=>e=H (Y #[I 1,I 0])/\w=w':=by
 exact qag
theorem l2Takes_in(o:X)(w:E)(h1:1<=o)(h2:o<=15):Calls prog 157 #[I o] w λe w'=>e=H (Y #[I (Lv.getD o 0),I (putsOf.getD o 0)])/\w=w':=by
 rcases(show o=1\/o=2\/o=3\/o=4\/o=5\/o=6\/o=7\/o=8\/o=9\/o=10\/o=11\/o=12\/o=13\/o=14\/o=15 from qg)with rfl|rfl|rfl|rfl|rfl|rfl|rfl|rfl|rfl|rfl|rfl|rfl|rfl|rfl|rfl
 ·exact l2Takes_1 w
 ·exact l2Takes_2 w
 ·exact l2Takes_3 w
 ·exact l2Takes_4 w
 ·exact l2Takes_5 w
 ·exact l2Takes_6 w
 ·exact l2Takes_7 w
 ·exact l2Takes_8 w
 ·exact l2Takes_9 w
 ·exact l2Takes_10 w
 ·exact l2Takes_11 w
 ·exact l2Takes_12 w
 ·exact l2Takes_13 w
 ·exact l2Takes_14 w
 ·exact l2Takes_15 w
def Eb(pl:Int)(sk:Z)(st lk:Int):Z:=G #[I pl,sk,I st,I lk,F false,I 0,ze,F false,ze,F false]
def Eg(pl:Int)(sk:Z)(st lk c:Int)(t:By):Z:=G #[I pl,sk,I st,I lk,F true,I c,S t,F false,ze,F false]
def waitV(pl:Int)(sk:Z)(st lk:Int)(ask:Bool)(nm:By):Z:=G #[I pl,sk,I st,I lk,F false,I 0,ze,F ask,S nm,F true]
def Bc(ov:Bool)(c:Int)(t:By)(ask:Bool)(nm:By)(st:Int):Z:=G #[F ov,I c,S t,F ask,S nm,I st]
theorem Fi(pl:Int)(a:Option Addr)(n cap:X)(st lk c:Int)(t:By)(w:E):Calls prog 156 #[Eb pl (J a n cap) st lk,I c,S t] w λe w'=>e=H (Eg pl (J a n cap) st lk c t)/\Bw w w':=by
 unfold Eb
 go_enter func156,ntmps156
 go_wp2
 exact bR (v:=Eg pl (J a n cap) st lk c t) (by simp[results,results156,go_sem,Eg]) rfl ⟨rfl,(aN _ _).alloc qi _⟩
section
open Go.ChangeShapes Go.WideShapes Go.ChangeAt Go.Deep
section
variable {AI:Type} {enc:TypeId×Z->AI} {W:E} {base:X} {spare:X->Bool} {held:Bool}
end
end
structure G3 where
 name:By
 ask:Bool
 sum:By
def g00:G3:=⟨ByteArray.empty,false,ByteArray.empty⟩
def gx(is:L G3)(i:X):G3:=is.getD i g00
def Gf(w:E)(a:Option Addr)(is:L G3):Prop:=
 ∀i,i<is.length->∃b off,a=M ⟨b,off,N⟩/\w.cell? ⟨b,off+i*3,N⟩=M (S (gx is i).name)/\w.cell? ⟨b,off+i*3+1,N⟩=M (F (gx is i).ask)/\w.cell? ⟨b,off+i*3+2,N⟩=M (S (gx is i).sum)
theorem Gf.bl{is:L G3}(h:Gf w a is)(hb:Bw w w'):Gf w' a is:=by
 exact qfo
def Bx(is:L G3)(k:X)(xs:L Z):Prop:=
 ∀i,i<k->xs[i*3]?=M (S (gx is i).name)/\xs[i*3+1]?=M (F (gx is i).ask)/\xs[i*3+2]?=M (S (gx is i).sum)
theorem Cw{P:X->Prop}{k:X}(h:∀i,i<k->P i)(hk:P k):∀i,i<k+1->P i:=by
 intro i hi
 rcases Nat.lt_or_ge i k with h1|h1
 ·exact h i h1
 ·obtain rfl:i=k:=qg;exact hk
theorem bt{a b:E}(h:Bw w a)(k:Bw a b):Bw w b:=h.trans (k.mono h.size)
theorem Tryz.info194:(prog.info? 194).map (λi=>(i.zero,i.size,i.bytes))=M (M (G #[S ByteArray.empty,F false,S ByteArray.empty]),3,40):=qk
structure S2 where
 name:By
 text:By
def sx(is:L S2)(i:X):S2:=is.getD i ⟨ByteArray.empty,ByteArray.empty⟩
structure T2 where
 name:By
 code:L I3
def tx(is:L T2)(i:X):T2:=is.getD i ⟨ByteArray.empty,[]⟩
def Kn(w:E)(a:Option Addr)(is:L S2):Prop:=
 ∀i,i<is.length->∃b off,a=M ⟨b,off,N⟩/\w.cell? ⟨b,off+i*2,N⟩=M (S (sx is i).name)/\w.cell? ⟨b,off+i*2+1,N⟩=M (S (sx is i).text)
def Km(w:E)(a:Option Addr)(is:L T2):Prop:=
 ∀i,i<is.length->∃b off,a=M ⟨b,off,N⟩/\w.cell? ⟨b,off+i*2,N⟩=M (S (tx is i).name)/\∃a' aj,w.cell? ⟨b,off+i*2+1,N⟩=M (J a' (tx is i).code.length aj)/\Cn w a' (tx is i).code
theorem Kn.bl{is:L S2}(h:Kn w a is)(hb:Bw w w'):Kn w' a is:=by
 intro i hi
 obtain⟨b,off,ha,h1,h2⟩:=h i hi
 exact⟨b,off,ha,Aa hb h1,Aa hb h2⟩
theorem Km.bl{is:L T2}(h:Km w a is)(hb:Bw w w'):Km w' a is:=by
 intro i hi
 obtain⟨b,off,ha,h1,a',aj,h2,h3⟩:=h i hi
 exact⟨b,off,ha,Aa hb h1,a',aj,Aa hb h2,h3.bl hb⟩
structure Li (w:E) (sa:Option Addr) (ss:L S2) (ta:Option Addr) (ts:L T2):Prop where
 rs:Kn w sa ss
 rt:Km w ta ts
 ls:ss.length<=maxLen
 lt:ts.length<=maxLen
 ns:∀i,(sx ss i).name.size<=maxLen
 xs:∀i,(sx ss i).text.size<=maxLen
 nt:∀i,(tx ts i).name.size<=maxLen
 lc:∀i,(tx ts i).code.length<=maxLen
 xt:∀i j,(ix (tx ts i).code j).text.size<=maxLen
structure Ep (ss:L S2) (ts:L T2):Prop where
 ls:ss.length<=1048576
 lt:ts.length<=1048576
 lc:∀i,i<ts.length->(tx ts i).code.length<=1048576
def Hp(w:E)(m:X)(tx cd:Z)(pl st lk:Int):Prop:=w.heap[m]?=M (O #[tx,cd,I pl,I st,I lk] 251 (0,0))
def Ar(ss:L By):L Z:=ss.map .string
def Cl(B:X)(w:E)(m:X)(ss:L By)(cd:Z)(pl st lk:Int):Prop:=
 B<=m/\∃v,Hp w m v cd pl st lk/\w.ownsRow B 9 1 v ss.length (Ar ss)
theorem Bf(w:E)(o:Obj):(w.alloc o).heap[w.heap.size]?=M o:=qew
theorem Hp.lt{tx:Z}{lk:Int}(h:Hp w m tx cd pl st lk):m<w.heap.size:=by
 rcases Nat.lt_or_ge m w.heap.size with h'|h'
 ·exact h'
 ·unfold Hp at h;rw[Array.getElem?_eq_none h']at h;cases h
theorem Hp.ne{n:X}{tx:Z}{lk:Int}(h:Hp w m tx cd pl st lk)(ho:w.ownsRow B 9 1 (J (p_ g) n cap) n xs):m≠g:=by
 rintro rfl
 rcases ho.2 with⟨h0,_⟩|⟨g',aj,cur,hv,hg,hh,_⟩
 ·simp at h0
 ·simp only[Value.slice.injEq,Option.some.injEq,Addr.mk.injEq,and_true,true_and]at hv;rw[<- hv.1]at hh;unfold Hp at h;rw[h]at hh;simp at hh
theorem Cl.bl{lk:Int}(h:Cl B w m ss cd pl st lk)(hb:Bw w w'):Cl B w' m ss cd pl st lk:=by
 obtain⟨hB,v,hm,ho⟩:=h
 exact⟨hB,v,by have:=hm.lt;unfold Hp at *;rw[hb.block m this];exact hm,Ad ho hb⟩
theorem Hp.cell{tx:Z}{lk:Int}(h:Hp w m tx cd pl st lk):(∀x,(w.alloc x).cell? ⟨m,0,N⟩=M tx)/\(∀x,(w.alloc x).cell? ⟨m,2,N⟩=M (I pl))/\(∀x,(w.alloc x).cell? ⟨m,3,N⟩=M (I st))/\(∀x,(w.alloc x).cell? ⟨m,4,N⟩=M (I lk)):=by
 have hl:=h.lt
 have e:∀j x,(w.alloc x).cell? ⟨m,j,N⟩=w.cell? ⟨m,j,N⟩:=λj x=>World.cell?_alloc_lt _ _ _ hl
 exact⟨λx=>qer,λx=>qer,λx=>qer,λx=>qer⟩
theorem Kd(m:X)(tx cd:Z)(pl st lk c:Int)(t:By)(w:E)(hM:Hp w m tx cd pl st lk):Calls prog 175 #[D (p_ m),I c,S t] w λe w'=>e=H (Bc true c t false ⟨#[]⟩ st)/\Bw w w':=by
 have c3:=hM.cell.2.2.1
 clear hM
 go_enter func175,ntmps175
 go_wp2
 exact bR (v:=Bc true c t false ⟨#[]⟩ st) (by simp[results,results175,go_sem,Bc]) rfl ⟨rfl,aN _ _⟩
theorem Ny(m:X)(tx cd:Z)(pl st lk:Int)(w:E)(hM:Hp w m tx cd pl st lk)(hP:Pg w)(h0:0<=pl)(h1:pl<=2000):Calls Tryz.prog 176 #[D (M ⟨m,0,N⟩)] w λe w'=>e=H (Bc true 2 ⟨(Lib.decDigits pl.toNat).toArray⟩ false ⟨#[]⟩ st)/\Below w.heap.size w w':=by
 have c2:=hM.cell.2.1
 have hi:Lib.itoa pl=Lib.decDigits pl.toNat:=by unfold Lib.itoa;rw[if_neg (by omega)]
 rw[<- hi]
 clear hi
 generalize hq:(⟨(Lib.itoa pl).toArray⟩:ByteArray)=q
 have HQ:Hd ((⟨(Lib.itoa pl).toArray⟩:ByteArray)=q):=hq
 clear hq
 go_enter Tryz.func176,Tryz.ntmps176
 go_wp2_with fail
 have ak:Below w.heap.size w (w.alloc (O #[F false,.int .i64 0,S ⟨#[]⟩,F false,S ⟨#[]⟩,.int .i64 0] 187)):=aN _ _
 refine(Tryz.strconv_Itoa pl (by omega) (by omega) _ (hP.bl ak)).mono ?_
 rintro e w1 ⟨rfl,k',os',Q1⟩
 have ag:=Lib.below_grow _ (w.alloc (O #[F false,.int .i64 0,S ⟨#[]⟩,F false,S ⟨#[]⟩,.int .i64 0] 187)) (Nat.le_refl _) k' os'
 rw[<- Q1]at ag
 clear Q1
 rw[HQ.o]
 have bm:Below w.heap.size w w1:=ak.trans (ag.mono ak.size)
 have ff:Hp w1 m tx cd pl st lk:=by have:=hM.lt;unfold Hp at *;rw[bm.block m this];exact hM
 go_wp2_with fail
 refine(Kd m tx cd pl st lk 2 q w1 ff).mono ?_
 rintro e w2 ⟨rfl,af⟩
 have bg:Below w.heap.size w w2:=bm.trans (af.mono bm.size)
 unfold Bc
 have fg:w.heap.size<w1.heap.size:=by have:=ag.size;simp at this;omega
 have ba:w2.heap[w.heap.size]?=M (O #[F false,.int .i64 0,S ⟨#[]⟩,F false,S ⟨#[]⟩,.int .i64 0] 187 (0,0)):=by
  rw[af.block _ fg,ag.block _ (by simp),Bf]
 have k0:=cH ba 0
 have k1:=cH ba 1
 have k2:=cH ba 2
 have k3:=cH ba 3
 have k4:=cH ba 4
 have k5:=cH ba 5
 simp only[List.getElem?_toArray,List.getElem?_cons_zero,List.getElem?_cons_succ]at k0 k1 k2 k3 k4 k5
 have f0:∀j,w2.frozen? ⟨w.heap.size,j,N⟩=false:=λj=>fH ba j
 clear ak ag bm hM ff af hP ba
 go_wp2
 exact bR (v:=Bc true 2 q false ⟨#[]⟩ st) (by simp[results,Tryz.results176,go_sem,Bc,k0,k1,k2,k3,k4,k5]) rfl ⟨rfl,(((((bg.setCell (Nat.le_refl _) _).setCell (Nat.le_refl _) _).setCell (Nat.le_refl _) _).setCell (Nat.le_refl _) _).setCell (Nat.le_refl _) _).setCell (Nat.le_refl _) _⟩
theorem Tryz.info9b:(prog.info? 9).map (λi=>(i.zero,i.size,i.bytes))=M (M ze,1,16):=qk
theorem Lw{n:X}(h:w.ownsRow B 9 1 v n xs):∀k,v.ownBlock=M k->B<=k/\k<w.heap.size:=λk hk=>h.lt k hk
theorem Hp.ne'{n:X}{tx:Z}{lk:Int}(h:Hp w m tx cd pl st lk)(ho:w.ownsRow B 9 1 v n xs):M m≠v.ownBlock:=by
 intro e
 rcases ho.2 with⟨rfl,_⟩|⟨g,cap,cur,rfl,_⟩
 ·simp[Value.ownBlock]at e
 ·simp[Value.ownBlock]at e;exact h.ne ho e
theorem Cl.put{tx:Z}{lk:Int}(hB:B<=m)(hm:Hp w m tx cd pl st lk)(ho:w.ownsRow B 9 1 v ss.length (Ar ss)):Cl B (w.setCell ⟨m,0,N⟩ v) m ss cd pl st lk:=by
 refine⟨hB,v,?_,?_⟩
 ·exact qdy
 ·have hne:=hm.ne' ho;refine⟨ho.1,?_⟩
  rcases ho.2 with h0|⟨g,cap,cur,hv,hg,hh,r⟩
  ·exact Or.inl h0
  ·refine Or.inr ⟨g,cap,cur,hv,hg,?_,r⟩;rw[Dm w ⟨m,0,N⟩ v g qcs];exact hh
theorem put_no(B m:X)(ss:L By)(cd:Z)(pl st lk:Int)(t:By)(w:E)(hM:Cl B w m ss cd pl st lk)(hs:t.size<=9223372036854775807)(h2:ss.length<=50)(h:2000<t.size\/ss.length=50):Calls prog 180 #[D (p_ m),S t] w λe w'=>e=H (F false)/\w=w':=by
 obtain⟨jz,v,hm,ah⟩:=hM
 obtain⟨ao,cap,rfl⟩:∃ao cap,v=J ao ss.length cap:=by
  exact qlw
 have c0:=cK hm 0
 by_cases h1:2000<t.size
 ·have d1:decide ((2000:Int)<t.size)=true:=qj;clear h;go_enter func180,ntmps180;exact qam
 ·have d1:decide ((2000:Int)<t.size)=false:=qj;have d2:((ss.length:Int) == 50)=true:=qj;clear h;go_enter func180,ntmps180;exact qam
theorem Vh{x:By}(h:w.ownsRow B 9 1 (J (p_ g) (ss.length+1) cap) (ss.length+1) (Ar (ss++[x]))):w.ownsRow B 9 1 (J (p_ g) ss.length cap) ss.length (Ar ss):=by
 refine⟨qal,?_⟩
 rcases h.2 with⟨h0,_⟩|⟨g',aj,cur,hv,hg,hh,h1,h2,h3,h4⟩
 ·simp at h0
 ·simp only[Value.slice.injEq,Option.some.injEq,Addr.mk.injEq,and_true,true_and]at hv;obtain⟨rfl,rfl⟩:=hv;refine Or.inr ⟨g,cap,cur,rfl,hg,hh,qg,h2,h3,?_⟩;have:=congrArg (List.take ss.length) h4;rw[List.take_take,Nat.mul_one]at this;rw[Nat.mul_one];rw[show min ss.length (ss.length+1)=ss.length from qg]at this;rw[this];simp[Ar]
def Rr(u:UInt8):Bool:=u.toNat == 32||u.toNat == 10
def Bn(s:By)(n st i:X):By:=
 if h:i<s.size then
  if Rr s[i] then
   if st<i then (if n=0 then s.extract st i else Bn s (n-1) (i+1) (i+1)) else Bn s n (i+1) (i+1)
  else Bn s n st (i+1)
 else if n=0 then s.extract st s.size else ⟨#[]⟩
termination_by s.size-i
def Lb(s:By)(n:X):By:=Bn s n 0 0
theorem pf_gap0{s:By}{st:X}(h:i<s.size)(hg:Rr s[i]=true)(cr:st<i):Bn s 0 st i=s.extract st i:=by rw[Bn,dif_pos h,if_pos hg,if_pos cr,if_pos rfl]
theorem pf_gapS{s:By}{n st:X}(h:i<s.size)(hg:Rr s[i]=true)(cr:st<i)(hn:n≠0):Bn s n st i=Bn s (n-1) (i+1) (i+1):=by rw[Bn,dif_pos h,if_pos hg,if_pos cr,if_neg hn]
theorem pf_none{s:By}{n st:X}(h:i<s.size)(hg:Rr s[i]=true)(cr:¬ st<i):Bn s n st i=Bn s n (i+1) (i+1):=by rw[Bn,dif_pos h,if_pos hg,if_neg cr]
theorem pf_in{s:By}{n st:X}(h:i<s.size)(hg:Rr s[i]=false):Bn s n st i=Bn s n st (i+1):=by rw[Bn,dif_pos h,if_neg (by simp[hg])]
theorem pf_end{s:By}{n st:X}(h:¬ i<s.size):Bn s n st i=if n=0 then s.extract st s.size else ⟨#[]⟩:=by rw[Bn,dif_neg h]
theorem gap_cases(u:UInt8):(Rr u=true/\((u.toNat:Int) != 32)=false)\/(Rr u=true/\((u.toNat:Int) != 32)=true/\((u.toNat:Int) != 10)=false)\/(Rr u=false/\((u.toNat:Int) != 32)=true/\((u.toNat:Int) != 10)=true):=by
 exact qmd
theorem wordAt_any(s:By)(n:X)(w:E)(hs:s.size<=2000)(hn:n<=2000):Calls prog 188 #[S s,I n] w λe w'=>e=H (S (Lb s n))/\w=w':=by
 generalize hq:Lb s n=q
 have HQ:=Ab hq
 clear hq
 go_enter func188,ntmps188
 go_wp2
 go_loopw [1,5,9] (λnv sv iv wr=>∃n' st k:X,k<=s.size/\st<=k/\n'<=2000/\nv=I n'/\sv=I st/\iv=I k/\Hd (Bn s n' st k=q)/\w=wr) (λ_ _ i _=>s.size-(intOf i).toNat)
 case atStart=>exact⟨n,0,0,Nat.zero_le _,Nat.le_refl _,hn,rfl,rfl,rfl,HQ,rfl⟩
 case round=>
  clear HQ hn;obtain⟨n',st,k,hk,cr,hn',rfl,rfl,rfl,HI,rfl⟩:=hrel
  by_cases ai:k<s.size
  ·rcases gap_cases s[k]with⟨hg,d1⟩|⟨hg,d1,d2⟩|⟨hg,d1,d2⟩
   ·exact qih
   ·exact qih
   ·(have HR:Hd (Bn s n' st (k+1)=q):=by show _=_;rw[<- pf_in ai hg];exact HI.o);clear hg HI;go_wp2;go_roundw
    case rel=>exact⟨n',st,k+1,qg,qg,qg,qm,qm,qm,HR,by first|trivial|rfl⟩
    case measure=>simp[intOf];omega
  ·have ek:k=s.size:=qg;have he:=pf_end (n:=n') (st:=st) ai
   by_cases c2:n'=0
   ·subst c2;rw[if_pos rfl]at he;have HR:=Ab (he.symm.trans HI.o);subst ek;exact qge
   ·rw[if_neg c2]at he;have HR:=Ab (he.symm.trans HI.o);subst ek;exact qge
theorem gap_cases2(u:UInt8):(Rr u=true/\((u.toNat:Int) == 32)=true)\/(Rr u=true/\((u.toNat:Int) == 32)=false/\((u.toNat:Int) == 10)=true)\/(Rr u=false/\((u.toNat:Int) == 32)=false/\((u.toNat:Int) == 10)=false):=by
 exact qmd
theorem l2Piece_any(s:By)(n:X)(w:E)(hs:s.size<=2000)(hn:n<=2000):Calls prog 174 #[S s,I n] w λe w'=>e=H (S (Lb s n))/\w=w':=by
 generalize hq:Lb s n=q
 have HQ:=Ab hq
 clear hq
 go_enter func174,ntmps174
 go_wp2
 go_loopw [1,5,6] (λnv sv iv wr=>(∃n' st k:X,k<=s.size/\n'<=2000/\st<=k/\nv=I n'/\sv=I (if st<k then (st:Int) else -1)/\iv=I k/\Hd (Bn s n' st k=q)/\w=wr)\/(nv=nv/\iv=I (s.size+1:X)/\Hd ((⟨#[]⟩:By)=q)/\w=wr/\(∃z,nv=I z)/\∃z,sv=I z)) (λ_ _ i _=>s.size+1-(intOf i).toNat)
 case atStart=>exact Or.inl ⟨n,0,0,Nat.zero_le _,hn,Nat.le_refl _,rfl,rfl,rfl,HQ,rfl⟩
 case round=>
  clear HQ hn
  rcases hrel with⟨n',st,k,hk,hn',cr,rfl,rfl,rfl,HI,rfl⟩|⟨_,rfl,HR,rfl,⟨z1,rfl⟩,⟨z2,rfl⟩⟩
  ·by_cases ai:k<s.size
   ·have hne:((k:Int) == s.size)=false:=qj
    rcases gap_cases2 s[k]with⟨hg,d1⟩|⟨hg,d1,d2⟩|⟨hg,d1,d2⟩
    ·exact qie
    ·exact qie
    ·(have HR:Hd (Bn s n' st (k+1)=q):=by show _=_;rw[<- pf_in ai hg];exact HI.o);clear hg HI
     by_cases c1:st<k
     ·rw[if_pos c1];go_wp2;go_roundw
      case rel=>exact Or.inl ⟨n',st,k+1,qg,qg,qg,qm,by rw[if_pos qg],qm,HR,by first|trivial|rfl⟩
      case measure=>simp[intOf];omega
     ·rw[if_neg c1];obtain rfl:st=k:=qg;go_wp2;go_roundw
      case rel=>exact Or.inl ⟨n',st,st+1,qg,qg,qg,qm,by rw[if_pos qg],qm,HR,by first|trivial|rfl⟩
      case measure=>simp[intOf];omega
   ·have ek:k=s.size:=qg;have he:=pf_end (n:=n') (st:=st) ai;have jh:((k:Int) == s.size)=true:=qj
    by_cases c1:st<k
    ·rw[if_pos c1]
     by_cases c2:n'=0
     ·subst c2;rw[if_pos rfl]at he;have HR:=Ab (he.symm.trans HI.o);exact qge
     ·rw[if_neg c2]at he;have HR:=Ab (he.symm.trans HI.o);exact qjp
    ·rw[if_neg c1]
     have HR:Hd ((⟨#[]⟩:By)=q):=by
      show _=_;rw[<- HI.o,he];split
      ·apply WideShapes.bytes_inj;rw[show st=s.size from qg];simp
      ·rfl
     exact qjp
  ·go_wp2;go_ret;exact⟨by rw[<- HR.o];rfl,rfl⟩
structure R3 where
 has:Bool
 code:Int
 text:By
def rr0:R3:=⟨false,0,ByteArray.empty⟩
def rx(is:L R3)(i:X):R3:=is.getD i rr0
def Ry(w:E)(a:Option Addr)(is:L R3):Prop:=
 ∀i,i<is.length->∃b off,a=M ⟨b,off,N⟩/\w.cell? ⟨b,off+i*3,N⟩=M (F (rx is i).has)/\w.cell? ⟨b,off+i*3+1,N⟩=M (I (rx is i).code)/\w.cell? ⟨b,off+i*3+2,N⟩=M (S (rx is i).text)
theorem Ry.bl{is:L R3}(h:Ry w a is)(hb:Bw w w'):Ry w' a is:=by
 exact qfo
def Ll(r:R3):Bool:=decide (r.text.size<=2000)&&decide (0<=r.code)&&decide (r.code<=7)
def Pj(rs:L R3):Bool:=decide (rs.length<=200)&&decide (∀i,i<rs.length->Ll (rx rs i)=true)
structure St where
 pl:X
 stack:L By
 steps:X
 looks:X
inductive Out where
 | go (s:St)
 | over (c:Int) (t:By) (n:X)
 | look (ask:Bool) (nm:By) (s:St)
def Fw(n:X):By:=⟨(Lib.decDigits n).toArray⟩
def Mg(a:By):Bool:=a.toList.isEmpty||a.toList == [48]
def Dd(o:X)(t:By)(n:X)(a b:By):L By:=
 match o with
 | 1=>[t]
 | 2=>[b++a]
 | 3=>[a.extract 0 (min n a.size)]
 | 4=>[a.extract (min n a.size) a.size]
 | 5=>[Lb a n]
 | 6=>[Cz (b.toList == a.toList)]
 | 7=>[a,a]
 | 8=>[a,b]
 | _=>[]
def Fs(o n pl:X)(a:By):X:=if o=10 then n else if o=11/\Mg a=true then n else pl+1
def Aw(o:X):X:=(Lv.getD o 0).toNat
def Cc(l:L By):By:=l.getD (l.length-1) ByteArray.empty
def Jp(l:L By):By:=l.getD (l.length-2) ByteArray.empty
def Bq(l:L By)(k:X):L By:=l.take (l.length-k)
open Classical in
noncomputable def Lz (i:I3) (s:St):Out:=
 let o:=i.op.toNat
 let n:=i.n.toNat
 let a:=Cc s.stack
 let b:=Jp s.stack
 let r:=Bq s.stack (Aw o)
 if s.stack.length<Aw o then .over 2 (Fw s.pl) (s.steps+1)
 else if o=15 then .over 0 a (s.steps+1)
 else if o=14 then .over 1 a (s.steps+1)
 else if o=12\/o=13 then
  (if ¬ Ao a then .over 2 (Fw s.pl) (s.steps+1)
   else if s.looks=200 then .over 3 ⟨#[]⟩ (s.steps+1)
   else .look (o == 12) a ⟨s.pl,r,s.steps+1,s.looks+1⟩)
 else if 50<r.length+(Dd o i.text n a b).length\/∃x∈Dd o i.text n a b,2000<x.size then .over 2 (Fw s.pl) (s.steps+1)
 else .go ⟨Fs o n s.pl a,r++Dd o i.text n a b,s.steps+1,s.looks⟩
noncomputable def Cq (is:L I3) (s:St):Out:=
 if is.length<=s.pl then .over 2 (Fw s.pl) s.steps
 else if s.steps=2000 then .over 3 ⟨#[]⟩ s.steps
 else Lz (ix is s.pl) s
structure Ek (is:L I3) (s:St):Prop where
 pl:s.pl<=200
 len:s.stack.length<=50
 size:∀x∈s.stack,x.size<=2000
 steps:s.steps<=2000
 looks:s.looks<=200
inductive Om (is:L I3):St->Out->Prop
 | over {s c t n}:Cq is s=.over c t n->Om is s (.over c t n)
 | look {s ask nm s'}:Cq is s=.look ask nm s'->Om is s (.look ask nm s')
 | go {s s' o}:Cq is s=.go s'->Om is s' o->Om is s o
def Fe(ask:Bool)(nm:By)(y:R3)(s:St):Out:=
 if ask=false then .go ⟨s.pl+1,s.stack++[Cz y.has],s.steps,s.looks⟩
 else if y.has=false then .over 4 nm s.steps
 else if y.code≠0 then .over 5 nm s.steps
 else .go ⟨s.pl+1,s.stack++[y.text],s.steps,s.looks⟩
inductive Res where
 | over (c:Int) (t:By) (n:X)
 | wait (ask:Bool) (nm:By) (n:X)
inductive Ck (is:L I3) (ys:L R3):St->Res->Prop
 | over {s c t n}:Cq is s=.over c t n->Ck is ys s (.over c t n)
 | go {s s' r}:Cq is s=.go s'->Ck is ys s' r->Ck is ys s r
 | wait {s ask nm s'}:Cq is s=.look ask nm s'->ys.length<=s.looks->Ck is ys s (.wait ask nm s'.steps)
 | ans {s ask nm s' s'' r}:Cq is s=.look ask nm s'->s.looks<ys.length->Fe ask nm (rx ys s.looks) s'=.go s''->Ck is ys s'' r->Ck is ys s r
 | end {s ask nm s' c t n}:Cq is s=.look ask nm s'->s.looks<ys.length->Fe ask nm (rx ys s.looks) s'=.over c t n->Ck is ys s (.over c t n)
theorem Ck.unique{ys:L R3}{s:St}{o o':Res}(h:Ck is ys s o)(h':Ck is ys s o'):o=o':=by
 induction h with
 | over h1=>cases h' with
  | over h2=>rw[h1]at h2;cases h2;rfl
  | go h2 _=>rw[h1]at h2;cases h2
  | wait h2 _=>rw[h1]at h2;cases h2
  | ans h2 _ _ _=>rw[h1]at h2;cases h2
  | «end» h2 _ _=>rw[h1]at h2;cases h2
 | go h1 _ ih=>cases h' with
  | over h2=>rw[h1]at h2;cases h2
  | go h2 h3=>rw[h1]at h2;cases h2;exact ih h3
  | wait h2 _=>rw[h1]at h2;cases h2
  | ans h2 _ _ _=>rw[h1]at h2;cases h2
  | «end» h2 _ _=>rw[h1]at h2;cases h2
 | wait h1 k1=>cases h' with
  | over h2=>rw[h1]at h2;cases h2
  | go h2 h3=>rw[h1]at h2;cases h2
  | wait h2 _=>rw[h1]at h2;cases h2;rfl
  | ans h2 k2 _ _=>omega
  | «end» h2 k2 _=>omega
 | ans h1 k1 a1 _ ih=>cases h' with
  | over h2=>rw[h1]at h2;cases h2
  | go h2 h3=>rw[h1]at h2;cases h2
  | wait h2 k2=>omega
  | ans h2 k2 a2 h3=>rw[h1]at h2;cases h2;rw[a1]at a2;cases a2;exact ih h3
  | «end» h2 k2 a2=>rw[h1]at h2;cases h2;rw[a1]at a2;cases a2
 | «end» h1 k1 a1=>cases h' with
  | over h2=>rw[h1]at h2;cases h2
  | go h2 h3=>rw[h1]at h2;cases h2
  | wait h2 k2=>omega
  | ans h2 k2 a2 h3=>rw[h1]at h2;cases h2;rw[a1]at a2;cases a2
  | «end» h2 k2 a2=>rw[h1]at h2;cases h2;rw[a1]at a2;cases a2;rfl
theorem Hz{s s':St}{ask:Bool}{nm:By}(h:Cq is s=.look ask nm s'):s'.looks=s.looks+1/\s'.pl=s.pl/\s'.steps=s.steps+1/\s.looks≠200/\s.pl<is.length/\1<=s.stack.length/\s'.stack=Bq s.stack 1/\nm=Cc s.stack:=by
 unfold Cq at h
 split at h
 ·cases h
 ·split at h
  ·cases h
  ·rename_i h1 h2
   simp only[Lz]at h
   split at h
   ·cases h
   ·split at h
    ·cases h
    ·split at h
     ·cases h
     ·split at h
      ·rename_i h3 h4 h5 h6
       split at h
       ·cases h
       ·split at h
        ·cases h
        ·rename_i h7 h8
         cases h;(have ht:Aw (ix is s.pl).op.toNat=1:=by rcases h6 with h6|h6<;>rw[h6]<;>rfl);rw[ht]at h3 ⊢;exact⟨rfl,rfl,rfl,h8,qg,qg,rfl,rfl⟩
      ·split at h
       ·cases h
       ·cases h
theorem Ag{o:Obj}(h:w.heap[b]?=M o):b<w.heap.size:=by
 exact qmn
theorem Pt{o:Obj}(hb:Bw w w')(h:w.heap[b]?=M o):w'.heap[b]?=M o:=by
 rw[hb.block _ (Ag h)];exact h
abbrev zR:Obj:=O #[I 0,nS,I 0,I 0,F false,I 0,ze,F false,ze,F false] 216 (0,0)
theorem Sw(h:Below B w w')(hb:B<=b){v0 v1 v2 v3 v4 v5 v6 v7 v8 v9:Z}:Below B w (((((((((((w').setCell ⟨b,0,N⟩ v0).setCell ⟨b,1,N⟩ v1).setCell ⟨b,2,N⟩ v2).setCell ⟨b,3,N⟩ v3).setCell ⟨b,4,N⟩ v4).setCell ⟨b,5,N⟩ v5).setCell ⟨b,6,N⟩ v6).setCell ⟨b,7,N⟩ v7).setCell ⟨b,8,N⟩ v8).setCell ⟨b,9,N⟩ v9):=((((((((((h).setCell (p:=⟨b,0,N⟩) hb _).setCell (p:=⟨b,1,N⟩) hb _).setCell (p:=⟨b,2,N⟩) hb _).setCell (p:=⟨b,3,N⟩) hb _).setCell (p:=⟨b,4,N⟩) hb _).setCell (p:=⟨b,5,N⟩) hb _).setCell (p:=⟨b,6,N⟩) hb _).setCell (p:=⟨b,7,N⟩) hb _).setCell (p:=⟨b,8,N⟩) hb _).setCell (p:=⟨b,9,N⟩) hb _
theorem gA{α:Type}{l:L α}:l.toArray[i]?=l[i]?:=List.getElem?_toArray
theorem gB{α:Type}{a:α}{l:L α}:(a::l)[0]?=M a:=List.getElem?_cons_zero
theorem gC{α:Type}{a:α}{l:L α}:(a::l)[i+1]?=l[i]?:=List.getElem?_cons_succ
theorem gD{α:Type}{l:L α}{a:α}:l.toArray.setIfInBounds i a=(l.set i a).toArray:=qi
theorem gE{α:Type}{a b:α}{l:L α}:(a::l).set 0 b=b::l:=rfl
theorem alK(W1:E):∀(p:Addr)(v:Z)(x:Obj),W1.cell? p=M v->(W1.alloc x).cell? p=M v:=λp v x h=>qgp
theorem Hm{n T:X}{cs:Array Z}(hT:T≠9)(h:w.heap[b]?=M (O cs T (0,0)))(ho:w.ownsRow B 9 1 v n xs):M b≠v.ownBlock:=by
 intro e
 rcases ho.2 with⟨rfl,_⟩|⟨g,cap,cur,rfl,hg,hh,_⟩
 ·simp[Value.ownBlock]at e
 ·simp[Value.ownBlock]at e;subst e;rw[h]at hh;injection hh with hh;injection hh with _ h2;exact hT h2
def Fz(w:E)(m b:X):Prop:=∀v,w.cell? ⟨m,0,N⟩=M v->M b≠v.ownBlock
structure KB (B m:X) (w w':E):Prop where
 bl:Below B w w'
 keep:∀b cs T,T≠9->b≠m->w.heap[b]?=M (O cs T (0,0))->w'.heap[b]?=M (O cs T (0,0))
 own:m<w.heap.size->∀b cs T,b≠m->Fz w m b->w.heap[b]?=M (O cs T (0,0))->w'.heap[b]?=M (O cs T (0,0))/\Fz w' m b
theorem KB.size(h:KB B m w w'):w.heap.size<=w'.heap.size:=h.bl.size
theorem KB.refl(B m:X)(w:E):KB B m w w:=⟨Below.refl _ _,λ_ _ _ _ _ h=>h,λ_ _ _ _ _ h2 h3=>⟨h3,h2⟩⟩
theorem KB.trans{w'':E}(h:KB B m w w')(k:KB B m w' w''):KB B m w w'':=⟨h.bl.trans k.bl,λb cs T h1 h2 h3=>k.keep b cs T h1 h2 (h.keep b cs T h1 h2 h3),λhm b cs T h1 h2 h3=>k.own (Nat.lt_of_lt_of_le hm h.bl.size) b cs T h1 (h.own hm b cs T h1 h2 h3).2 (h.own hm b cs T h1 h2 h3).1⟩
theorem KB.drew(h:KB B m w w'):KB B m w w'.drew:=⟨h.bl.drew,h.keep,h.own⟩
theorem KB.old(h:Bw w w')(hB:B<=w.heap.size):KB B m w w':=⟨h.mono hB,λb cs T h1 h2 h3=>by rw[h.block b (Ag h3)];exact h3,λhm b cs T h1 h2 h3=>⟨by rw[h.block b (Ag h3)];exact h3,λv hv=>h2 v ((h.cell (p:=⟨m,0,N⟩) hm).symm.trans hv)⟩⟩
theorem KB.setM(h:KB B m w w')(j:X)(hB:B<=m)(v:Z)(hj:j≠0:=by decide):KB B m w (w'.setCell ⟨m,j,N⟩ v):=⟨h.bl.setCell (p:=⟨m,j,N⟩) hB _,λb cs T h1 h2 h3=>by rw[Dm w' ⟨m,j,N⟩ _ b h2];exact h.keep b cs T h1 h2 h3,λhm b cs T h1 h2 h3=>⟨by rw[Dm w' ⟨m,j,N⟩ _ b h1];exact(h.own hm b cs T h1 h2 h3).1,λu hu=>(h.own hm b cs T h1 h2 h3).2 u (by rw[World.cell?_setCell_other (w:=w') (a:=⟨m,j,N⟩) (b:=⟨m,0,N⟩) (v:=v) qi]at hu;exact hu)⟩⟩
theorem KB.setN(h:KB B m w w')(j:X)(hB:B<=w.heap.size)(v:Z):KB B m w (w'.setCell ⟨w.heap.size,j,N⟩ v):=⟨h.bl.setCell (p:=⟨w.heap.size,j,N⟩) hB _,λb cs T h1 h2 h3=>by rw[Dm w' ⟨w.heap.size,j,N⟩ _ b (by have:=Ag h3;simp;omega)];exact h.keep b cs T h1 h2 h3,λhm b cs T h1 h2 h3=>⟨by rw[Dm w' ⟨w.heap.size,j,N⟩ _ b (by have:=Ag h3;simp;omega)];exact(h.own hm b cs T h1 h2 h3).1,λu hu=>(h.own hm b cs T h1 h2 h3).2 u (by rw[World.cell?_setCell_far _ _ _ _ qj]at hu;exact hu)⟩⟩
theorem Fu{w2:E}{o:Obj}{ob:Option X}(ae:(w.alloc o).grownBy w2 ob)(HO:∀(b:X)(cs:Array Z)(T:X),T≠9->w.heap[b]?=M (O cs T (0,0))->M b≠ob):∀(b:X)(cs:Array Z)(T:X),T≠9->w.heap[b]?=M (O cs T (0,0))->w2.heap[b]?=M (O cs T (0,0)):=by
 intro b cs T hT hb
 have hl:=Ag hb
 rw[ae.block b qj (HO b cs T hT hb),Lib.alloc_old w _ b hl]
 exact hb
theorem Gu(B m:X)(ss:L By)(cd:Z)(pl st lk:Int)(t:By)(w:E)(hM:Cl B w m ss cd pl st lk)(hB:B<=w.heap.size)(h1:t.size<=2000)(h2:ss.length<50):Calls prog 180 #[D (p_ m),S t] w λe w'=>e=H (F true)/\KB B m w w'/\Cl B w' m (ss++[t]) cd pl st lk:=by
 obtain⟨jz,v,hm,ah⟩:=hM
 obtain⟨ao,cap,rfl⟩:∃ao cap,v=J ao ss.length cap:=by
  exact qlw
 have c0:=cK hm 0
 have ai:=hm.lt
 have HO:Hd (∀(b:X)(cs:Array Z)(T:X),T≠9->w.heap[b]?=M (O cs T (0,0))->M b≠(Value.slice ao ss.length cap).ownBlock):=λb cs T hT hb=>Hm hT hb ah
 have d1:decide ((2000:Int)<t.size)=false:=qj
 have d2:((ss.length:Int) == 50)=false:=qj
 obtain⟨i0,hi,bq,bi,ci⟩:=info_parts Tryz.info9b
 go_enter func180,ntmps180
 go_wp2_with (first|(at_builtin;refine wpList_append_lies _ rfl (.tmp 20) (.tmp 22) 22 rfl B 9 i0 ze 1 16 underlying22 hi bq bi ci rfl qh _ _ _ rfl (ah.alloc _) ⟨w.heap.size,0,N⟩ 1 1 [S t] rfl rfl (cell_one_new _ _ _) qak qg qq qg qj _ rfl ?_;intro g' oh w2 aw ae dh hlt2;have hK2:Hd (∀(b:X)(cs:Array Z)(T:X),T≠9->w.heap[b]?=M (O cs T (0,0))->w2.heap[b]?=M (O cs T (0,0))):=Fu ae HO.o;have td:Hp w2 m (J ao ss.length cap) cd pl st lk:=(by have hne:=hm.ne' ah;unfold Hp at *;rw[ae.block m qj hne,Lib.alloc_old w _ m ai];exact hm);have e0:w2.cell? ⟨m,0,N⟩=M (J ao ss.length cap):=(by rw[cH td];rfl);have f0:w2.frozen? ⟨m,0,N⟩=false:=fH td 0;have gy:Below B w w2:=((Below.refl _ _).alloc qg _).grown ae qj (λk hk=>(Lw ah k hk).1);have HLIE:Hd ((Value.slice ao ss.length cap).ownBlock=M g'\/w.heap.size<=g'):=(by rcases dh with h|h;exact Or.inl h;exact Or.inr (by rw[h];simp));have HGR:Hd (∀b cs T,M b≠(Value.slice ao ss.length cap).ownBlock->w.heap[b]?=M (O cs T (0,0))->w2.heap[b]?=M (O cs T (0,0))):=(λb cs T h1 h2=>by have hl:=Ag h2;rw[ae.block b qj h1,Lib.alloc_old w _ b hl];exact h2)))
 go_ret
 exact⟨rfl,⟨gy.setCell (p:=⟨m,0,N⟩) jz _,λb cs T hT F2 hb=>by rw[Dm _ ⟨m,0,N⟩ _ b F2];exact hK2.out b cs T hT hb,λ_ b cs T F2 ip hb=>⟨by rw[Dm _ ⟨m,0,N⟩ _ b F2];exact HGR.o b cs T (ip _ c0) hb,λu hu=>by
  rw[World.cell?_setCell_same (h:=e0)]at hu;cases hu;have hl:=Ag hb;intro jh
  rcases HLIE.o with h|h
  ·exact ip _ c0 (jh.trans h.symm)
  ·simp[Value.ownBlock]at jh;omega⟩⟩,Cl.put jz td (by simpa [Ar] using aw)⟩
theorem Cm(B m:X)(ss:L By)(x:By)(cd:Z)(pl st lk:Int)(w:E)(hM:Cl B w m (ss++[x]) cd pl st lk)(hB:B<=w.heap.size)(h2:ss.length<50):Calls prog 178 #[D (p_ m)] w λe w'=>e=H (S x)/\KB B m w w'/\Cl B w' m ss cd pl st lk/\∀b,b≠m->w'.heap[b]?=w.heap[b]?:=by
 obtain⟨jz,v,hm,ah⟩:=hM
 rw[List.length_append,List.length_singleton]at ah
 obtain⟨g,cap,rfl⟩:∃g cap,v=J (p_ g) (ss.length+1) cap:=by
  rcases ah.2 with⟨_,h0⟩|⟨g,cap,cur,hv,_⟩
  ·omega
  ·exact⟨_,_,hv⟩
 have c0:=cK hm 0
 have f0:=fH hm 0
 have cx:w.cell? ⟨g,ss.length,N⟩=M (S x):=by rw[ah.cellAt ss.length qg];simp[Ar]
 have V4:ss.length+1<=cap:=by
  rcases ah.2 with⟨h0,_⟩|⟨g',aj,cur,hv,hg,hh,h1,_⟩
  ·simp at h0
  ·simp only[Value.slice.injEq,Option.some.injEq,Addr.mk.injEq,and_true,true_and]at hv;omega
 have HS:=Ab (Cl.put jz hm (Vh ah))
 clear ah hm
 go_enter func178,ntmps178
 go_wp2
 go_ret
 exact⟨rfl,⟨(Below.refl _ _).setCell (p:=⟨m,0,N⟩) jz _,λb cs T hT F2 hb=>by rw[Dm w ⟨m,0,N⟩ _ b F2];exact hb,λ_ b cs T F2 ip hb=>⟨by rw[Dm w ⟨m,0,N⟩ _ b F2];exact hb,λu hu=>by
  rw[World.cell?_setCell_same (h:=c0)]at hu;cases hu;have hno2:=ip _ c0;simpa [Value.ownBlock] using hno2⟩⟩,HS.o,λb hb=>Dm w ⟨m,0,N⟩ _ b hb⟩
theorem Cl.place{lk:Int}(h:Cl B w m ss cd pl st lk)(p:Int):Cl B (w.setCell ⟨m,2,N⟩ (I p)) m ss cd p st lk:=by
 obtain⟨hB,v,hm,ho⟩:=h
 refine⟨hB,v,?_,?_⟩
 ·exact qdy
 ·have hne:=hm.ne' ho;refine⟨ho.1,?_⟩
  rcases ho.2 with h0|⟨g,cap,cur,hv,hg,hh,r⟩
  ·exact Or.inl h0
  ·refine Or.inr ⟨g,cap,cur,hv,hg,?_,r⟩;rw[Dm w ⟨m,2,N⟩ _ g qcs];exact hh
theorem Cl.cell2{lk:Int}(h:Cl B w m ss cd pl st lk):w.cell? ⟨m,2,N⟩=M (I pl)/\w.frozen? ⟨m,2,N⟩=false/\m<w.heap.size/\B<=m:=by
 obtain⟨hB,v,hm,ho⟩:=h
 exact⟨qbf,fH hm 2,hm.lt,hB⟩
theorem work_lit_ok(B m:X)(ss:L By)(cd:Z)(pl st lk:Int)(t:By)(n:Int)(w:E)(hM:Cl B w m ss cd pl st lk)(hB:B<=w.heap.size)(h1:t.size<=2000)(h2:ss.length<50)(yo:0<=pl)(jx:pl<=2000):Calls prog 179 #[D (p_ m),G #[I 1,S t,I n]] w λe w'=>e=H (F true)/\KB B m w w'/\Cl B w' m (ss++[t]) cd (pl+1) st lk:=by
 have fh:Bw w (w.alloc (O #[I 1,S t,I n] 174)):=aN _ _
 have ff:=hM.bl fh
 obtain⟨c2,f2,zq,jz⟩:=ff.cell2
 go_enter func179,ntmps179
 go_wp2_with fail
 go_region_with (first|(go_at_call 180;refine(Gu B m ss cd pl st lk t _ ?_ ?_ h1 h2).mono ?_;(focus(exact ff));(focus(simp;omega));rintro e w1 ⟨rfl,ag,kj⟩))
 all_goals
  obtain⟨d2,e2,_,_⟩:=kj.cell2;have HM:=Ab kj;clear kj hM ff;go_wp2;go_ret;exact⟨rfl,(((KB.old fh hB).drew).trans ag).setM 2 jz _,HM.o.place _⟩
theorem work_lit_no(B m:X)(ss:L By)(cd:Z)(pl st lk:Int)(t:By)(n:X)(w:E)(hM:Cl B w m (ss) cd pl st lk)(hB:B<=w.heap.size)(yo:0<=pl)(jx:pl<=2000)(hn:n<=2000)(h1:t.size<=2000)(h2:ss.length=50):Calls prog 179 #[D (p_ m),G #[I 1,S t,I n]] w λe w'=>e=H (F false)/\KB B m w w'/\Cl B w' m (ss) cd pl st lk:=by
 have fh:Bw w (w.alloc (O #[I 1,S t,I n] 174)):=aN _ _
 have ff:=hM.bl fh
 obtain⟨c2,f2,zq,jz⟩:=ff.cell2
 go_enter func179,ntmps179
 go_wp2_with fail
 go_region_with (first|(go_at_call 180;refine(put_no B m (ss) cd pl st lk (t) _ ?_ ?_ ?_ ?_).mono ?_;(focus(exact ff));(focus(first|omega|(simp;omega)));(focus(first|omega|(simp;omega)));(focus(exact Or.inr h2));rintro e w1 ⟨rfl,rfl⟩))
 all_goals
  go_wp2;go_ret;exact⟨rfl,(KB.old fh hB).drew,ff⟩
theorem work_jump(B m:X)(ss:L By)(cd:Z)(pl st lk:Int)(t:By)(n:X)(w:E)(hM:Cl B w m (ss) cd pl st lk)(hB:B<=w.heap.size)(yo:0<=pl)(jx:pl<=2000)(hn:n<=2000):Calls prog 179 #[D (p_ m),G #[I 10,S t,I n]] w λe w'=>e=H (F true)/\KB B m w w'/\Cl B w' m (ss) cd n st lk:=by
 have fh:Bw w (w.alloc (O #[I 10,S t,I n] 174)):=aN _ _
 have ff:=hM.bl fh
 obtain⟨c2,f2,zq,jz⟩:=ff.cell2
 go_enter func179,ntmps179
 go_wp2
 go_ret
 exact⟨rfl,(KB.old fh hB).setM 2 jz _,ff.place _⟩
theorem work_drop(B m:X)(r:L By)(x:By)(cd:Z)(pl st lk:Int)(t:By)(n:X)(w:E)(hM:Cl B w m (r++[x]) cd pl st lk)(hB:B<=w.heap.size)(yo:0<=pl)(jx:pl<=2000)(hn:n<=2000)(h2:r.length<50):Calls prog 179 #[D (p_ m),G #[I 9,S t,I n]] w λe w'=>e=H (F true)/\KB B m w w'/\Cl B w' m (r) cd (pl+1) st lk:=by
 have fh:Bw w (w.alloc (O #[I 9,S t,I n] 174)):=aN _ _
 have ff:=hM.bl fh
 obtain⟨c2,f2,zq,jz⟩:=ff.cell2
 have fg:B<=(w.alloc (O #[I 9,S t,I n] 174)).heap.size:=qj
 go_enter func179,ntmps179
 go_wp2_with (first|(go_at_call 178;refine(Cm B m (r) x cd pl st lk _ ?_ ?_ ?_).mono ?_;(focus(exact ff));(focus(exact fg));(focus(first|omega|(simp;omega)));rintro e w1 ⟨rfl,ag,kj,cu⟩;have ir:B<=w1.heap.size:=(Nat.le_trans fg ag.size);obtain⟨dd1,ee1,_,_⟩:=kj.cell2;clear cu))
 go_ret
 exact⟨rfl,((KB.old fh hB).trans ag).setM 2 jz _,kj.place _⟩
theorem Wq(B m:X)(r:L By)(x:By)(cd:Z)(pl st lk:Int)(t:By)(n:X)(w:E)(hM:Cl B w m (r++[x]) cd pl st lk)(hB:B<=w.heap.size)(yo:0<=pl)(jx:pl<=2000)(hn:n<=2000)(h2:r.length<50)(hx:x.toList.isEmpty=true):Calls prog 179 #[D (p_ m),G #[I 11,S t,I n]] w λe w'=>e=H (F true)/\KB B m w w'/\Cl B w' m (r) cd n st lk:=by
 exact qfa
theorem Wp(B m:X)(r:L By)(x:By)(cd:Z)(pl st lk:Int)(t:By)(n:X)(w:E)(hM:Cl B w m (r++[x]) cd pl st lk)(hB:B<=w.heap.size)(yo:0<=pl)(jx:pl<=2000)(hn:n<=2000)(h2:r.length<50)(hx:x.toList.isEmpty=false)(hx2:(x.toList == [48])=true):Calls prog 179 #[D (p_ m),G #[I 11,S t,I n]] w λe w'=>e=H (F true)/\KB B m w w'/\Cl B w' m (r) cd n st lk:=by
 exact qfa
theorem Wo(B m:X)(r:L By)(x:By)(cd:Z)(pl st lk:Int)(t:By)(n:X)(w:E)(hM:Cl B w m (r++[x]) cd pl st lk)(hB:B<=w.heap.size)(yo:0<=pl)(jx:pl<=2000)(hn:n<=2000)(h2:r.length<50)(hx:x.toList.isEmpty=false)(hx2:(x.toList == [48])=false):Calls prog 179 #[D (p_ m),G #[I 11,S t,I n]] w λe w'=>e=H (F true)/\KB B m w w'/\Cl B w' m (r) cd (pl+1) st lk:=by
 exact qfa
theorem work_cat_ok(B m:X)(r:L By)(x y:By)(cd:Z)(pl st lk:Int)(t:By)(n:X)(w:E)(hM:Cl B w m (r++[x]++[y]) cd pl st lk)(hB:B<=w.heap.size)(yo:0<=pl)(jx:pl<=2000)(hn:n<=2000)(h2:r.length+2<=50)(hx:x.size<=2000)(hy:y.size<=2000)(hxy:(x++y).size<=2000):Calls prog 179 #[D (p_ m),G #[I 2,S t,I n]] w λe w'=>e=H (F true)/\KB B m w w'/\Cl B w' m (r++[x++y]) cd (pl+1) st lk:=by
 have fh:Bw w (w.alloc (O #[I 2,S t,I n] 174)):=aN _ _
 have ff:=hM.bl fh
 obtain⟨c2,f2,zq,jz⟩:=ff.cell2
 have fg:B<=(w.alloc (O #[I 2,S t,I n] 174)).heap.size:=qj
 go_enter func179,ntmps179
 go_wp2_with fail
 go_region_with (first|(go_at_call 178;refine(Cm B m (r) x cd pl st lk _ ?_ ?_ ?_).mono ?_;(focus(exact kj));(focus(exact ir));(focus(first|omega|(simp;omega)));rintro e w2 ⟨rfl,af,jy,ib⟩;have o6:B<=w2.heap.size:=(Nat.le_trans ir af.size);obtain⟨dd2,ee2,_,_⟩:=jy.cell2;clear ib)|(go_at_call 178;refine(Cm B m (r++[x]) y cd pl st lk _ ?_ ?_ ?_).mono ?_;(focus(exact ff));(focus(exact fg));(focus(first|omega|(simp;omega)));rintro e w1 ⟨rfl,ag,kj,cu⟩;have ir:B<=w1.heap.size:=(Nat.le_trans fg ag.size);obtain⟨dd1,ee1,_,_⟩:=kj.cell2;clear cu))
 all_goals
  go_wp2_with (first|(go_at_call 180;refine(Gu B m (r) cd pl st lk (x++y) _ ?_ ?_ hxy ?_).mono ?_;(focus(exact jy));(focus(exact o6));(focus(first|omega|(simp;omega)));rintro e w3 ⟨rfl,au,hM4⟩;have H8:B<=w3.heap.size:=(Nat.le_trans o6 au.size);obtain⟨dd3,ee3,_,_⟩:=hM4.cell2))
  go_ret;exact⟨rfl,(((KB.old fh hB).drew.trans ag).trans (af.trans au)).setM 2 jz _,hM4.place _⟩
theorem work_cat_no(B m:X)(r:L By)(x y:By)(cd:Z)(pl st lk:Int)(t:By)(n:X)(w:E)(hM:Cl B w m (r++[x]++[y]) cd pl st lk)(hB:B<=w.heap.size)(yo:0<=pl)(jx:pl<=2000)(hn:n<=2000)(h2:r.length+2<=50)(hx:x.size<=2000)(hy:y.size<=2000)(hxy:2000<(x++y).size)(hxy2:(x++y).size<=4000):Calls prog 179 #[D (p_ m),G #[I 2,S t,I n]] w λe w'=>e=H (F false)/\KB B m w w'/\Cl B w' m (r) cd pl st lk:=by
 have fh:Bw w (w.alloc (O #[I 2,S t,I n] 174)):=aN _ _
 have ff:=hM.bl fh
 obtain⟨c2,f2,zq,jz⟩:=ff.cell2
 have fg:B<=(w.alloc (O #[I 2,S t,I n] 174)).heap.size:=qj
 go_enter func179,ntmps179
 go_wp2_with fail
 go_region_with (first|(go_at_call 178;refine(Cm B m (r) x cd pl st lk _ ?_ ?_ ?_).mono ?_;(focus(exact kj));(focus(exact ir));(focus(first|omega|(simp;omega)));rintro e w2 ⟨rfl,af,jy,ib⟩;have o6:B<=w2.heap.size:=(Nat.le_trans ir af.size);obtain⟨dd2,ee2,_,_⟩:=jy.cell2;clear ib)|(go_at_call 178;refine(Cm B m (r++[x]) y cd pl st lk _ ?_ ?_ ?_).mono ?_;(focus(exact ff));(focus(exact fg));(focus(first|omega|(simp;omega)));rintro e w1 ⟨rfl,ag,kj,cu⟩;have ir:B<=w1.heap.size:=(Nat.le_trans fg ag.size);obtain⟨dd1,ee1,_,_⟩:=kj.cell2;clear cu))
 all_goals
  go_wp2_with (first|(go_at_call 180;refine(put_no B m (r) cd pl st lk (x++y) _ ?_ ?_ ?_ ?_).mono ?_;(focus(exact jy));(focus(first|omega|(simp;omega)));(focus(first|omega|(simp;omega)));(focus(exact Or.inl hxy));rintro e w3 ⟨rfl,rfl⟩))
  go_ret;exact⟨rfl,((KB.old fh hB).drew.trans ag).trans af,jy⟩
end Go.Proofs.YtnflkpmmfpfhlaaGreatDoor
