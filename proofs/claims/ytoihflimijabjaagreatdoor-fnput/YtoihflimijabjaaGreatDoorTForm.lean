import Derived.Test.YtoihflimijabjaaGreatDoorTValid
namespace Go.Proofs.YtoihflimijabjaaGreatDoor
open _root_.Go.Proofs.Tryz Go.RowKit
open Value renaming slice->J,string->S,bool->F,agg->G,tuple->Y
open Option renaming some->M,none->N
open Obj renaming cells->O
open Go renaming Value->Z,World->E
open Ending renaming returned->H
open _root_ renaming Nat->X
set_option linter.unusedVariables false
set_option maxHeartbeats 8000000
set_option maxRecDepth 100000
set_option linter.unusedSimpArgs false
variable {s:By} {B e sz n b:X} {v:Z} {xs:List Z}
theorem En:∀(k n:X),n<10 ^ (k+1)->(Lib.decDigits n).length<=k+1
 | 0,n,h=>by rw[Lib.decDigits,dif_pos Zl];simp
 | k+1,n,h=>by
  rw[Lib.decDigits];split
  ·simp
  ·have:=En k (n / 10) (by rw[Nat.pow_succ]at h;omega);simp;omega
open Go.RowKit
theorem Se(W:E)(g:X)(c:Int)(u:UInt8)(hu:(u.toNat:Int)=c)(h:W.cell? ⟨g,0,N⟩=M (.int .u8 c)):(convert 22 9 (J (p_ g) 1 1)).run prog W=.ok (S ⟨#[u]⟩) W:=by
 subst hu
 exact run_convert_bytes_back (P:=prog) W 22 9 5 ⟨g,0,N⟩ 1 [u] underlying22 underlying5 underlying9 (λt ht=>by
  obtain rfl:t=0:=by simp at ht;omega
  simpa [Addr.add] using h)
theorem Sa(d:X)(h:d<10):((UInt8.ofNat (48+d)).toNat:Int)=48+d:=by rw[UInt8.toNat_ofNat'];omega
theorem str_snoc(l:List UInt8)(u:UInt8):(⟨l.toArray⟩:By)++(⟨#[u]⟩:By)=⟨(l++[u]).toArray⟩:=by
 apply WideShapes.bytes_inj
 simp[ByteArray.data_append]
theorem Gz:∀(n:X)(w:E),n<=1000000->Calls prog 51 #[I n] w λe w'=>e=H (S ⟨(Lib.decDigits n).toArray⟩)/\Bw w w':=by
 intro n
 induction n using Nat.strongRecOn with
 | _ n ih=>
  intro w hn
  by_cases h:n<10
  ·have hdd:Lib.decDigits n=[UInt8.ofNat (48+n)]:=by rw[Lib.decDigits,dif_pos h]
   have hu:=Sa n h;rw[hdd];generalize UInt8.ofNat (48+n)=u at *;have hcv:=Se (w.alloc (O #[.int .u8 (48+n)] 5)) w.heap.size (48+n) u hu qr;clear hdd ih hu;exact qkn
  ·have hdd:Lib.decDigits n=Lib.decDigits (n / 10)++[UInt8.ofNat (48+n % 10)]:=by rw[Lib.decDigits,dif_neg h]
   rw[hdd,<- str_snoc];have hl:=En 6 (n / 10) qg
   have hq:(⟨(Lib.decDigits (n / 10)).toArray⟩:By).size<=10:=by
    show(Lib.decDigits (n / 10)).toArray.size<=10;rw[List.size_toArray];omega
   have IH:Hd (∀W:E,Calls prog 51 #[I ((n / 10:X):Int)] W λe w'=>e=H (S ⟨(Lib.decDigits (n / 10)).toArray⟩)/\Bw W w'):=λW=>ih (n / 10) qg W qg;clear ih hdd hl;generalize (⟨(Lib.decDigits (n / 10)).toArray⟩:By)=q at *;obtain⟨m,e1,em⟩:∃m:X,(n:Int) / 10=(m:Int)/\n / 10=m:=⟨n / 10,qg,rfl⟩;rw[em]at IH;clear em;have hdb:=Sa (n % 10) qg;have hmod:(n:Int).tmod 10=((n % 10:X):Int):=by rw[Int.tmod_eq_emod_of_nonneg qg];omega
   obtain⟨c,e3,hu⟩:∃c:Int,IntKind.u8.wrap (IntKind.i64.wrap (48+(n:Int).tmod 10))=c/\((UInt8.ofNat (48+n % 10)).toNat:Int)=c:=by
    refine⟨_,rfl,?_⟩;rw[hdb,hmod,IntWalk.i64_in _ ⟨qg,qg⟩];(have:IntKind.u8.wrap (48+((n % 10:X):Int))=(48+((n % 10:X):Int)) % 256:=by simp[IntKind.wrap,IntKind.bits,IntKind.signed]);rw[this];omega
   generalize UInt8.ofNat (48+n % 10)=u at *;clear hdb hmod;have hcv:=λ(W:E) (g:X)=>Se W g c u hu;have IH2:Hd (∀W:E,W.cell? ⟨w.heap.size,0,N⟩=M (.int .u8 c)->Calls prog 51 #[I (m:Int)] W λe w'=>e=H (S q)/\Bw W w'/\w'.cell? ⟨w.heap.size,0,N⟩=M (.int .u8 c)):=λW hW=>(IH.o W).mono λe w' ⟨he,hb⟩=>⟨he,hb,Aa hb hW⟩;clear hu;go_enter func51,ntmps51;go_wp2
   go_region_with (first|(go_at_call 51;rw[show IntKind.i64.wrap (m:Int)=(m:Int) from IntWalk.i64_in _ ⟨qg,qg⟩];refine(IH2.o _ ?_).mono ?_;(focus(simp[go_sem];done));rintro e w1 ⟨rfl,ah,hcc⟩)|(go_at_call 51;rw[show IntKind.i64.wrap (m:Int)=(m:Int) from IntWalk.i64_in _ ⟨qg,qg⟩];refine(IH.o _).mono ?_;rintro e w1 ⟨rfl,ah⟩))
   all_goals go_wp2
   all_goals go_ret
   ·exact⟨rfl,((Below.refl _ _).drew.trans ah).alloc (by have:=ah.size;simpa using this) _⟩
   ·exact qkz
   ·exact qkz
open Go.RowKit
def Ay(s:By):Prop:=1<=s.size/\s.size<=60/\∀j,(h:j<s.size)->33<=s[j].toNat/\s[j].toNat<=126
noncomputable def Fo (s:By):Bool:=@decide (Ay s) (Classical.propDecidable _)
theorem Cr(h:Ay s):Fo s=true:=by simp[Fo,h]
theorem Cg(h:¬ Ay s):Fo s=false:=by simp[Fo,h]
def De(b:Bool):By:=if b then ⟨#[49]⟩ else ⟨#[48]⟩
theorem Bb(s:By)(w:E)(hs:s.size<=9223372036854775807):Calls prog 59 #[S s] w λe w'=>e=H (F (Fo s))/\w=w':=by
 by_cases h1:s.size<1
 ·rw[Cg (λh=>by have:=h.1;omega)];have d1:decide ((s.size:Int)<1)=true:=qj;go_enter func59,ntmps59;exact qan
 ·have d1:decide ((s.size:Int)<1)=false:=qj
  by_cases h2:60<s.size
  ·rw[Cg (λh=>by have:=h.2.1;omega)];have d2:decide ((60:Int)<s.size)=true:=qj;go_enter func59,ntmps59;exact qan
  ·have d2:decide ((60:Int)<s.size)=false:=qj;go_enter func59,ntmps59;go_wp2
   go_loopw [3] (λi wr=>∃k:X,k<=s.size/\i=I k/\Hd (∀j,(h:j<s.size)->j<k->33<=s[j].toNat/\s[j].toNat<=126)/\w=wr) (λi _=>s.size-(intOf i).toNat)
   case atStart=>exact⟨0,Nat.zero_le _,rfl,λj _ hj=>qg,rfl⟩
   case round=>
    exact qhe
theorem Ey(b:Bool)(w:E):Calls prog 56 #[F b] w λe w'=>e=H (S (De b))/\w=w':=by
 cases b
 all_goals
  go_enter func56,ntmps56;exact qan
def Zn:List Int:=[0,1,1,1,1,1,1,2,2,0,0,0,1,1,0,0]
theorem l2Takes_1(w:E):Calls prog 111 #[I 1] w λe w'=>e=H (Y #[I 0,I 1])/\w=w':=by
 exact Zm
theorem l2Takes_2(w:E):Calls prog 111 #[I 2] w λe w'=>e=H (Y #[I 2,I 1])/\w=w':=by
 exact Zm
theorem l2Takes_3(w:E):Calls prog 111 #[I 3] w λe w'=>e=H (Y #[I 1,I 1])/\w=w':=by
 exact Zm
theorem l2Takes_4(w:E):Calls prog 111 #[I 4] w λe w'=>e=H (Y #[I 1,I 1])/\w=w':=by
 exact Zm
theorem l2Takes_5(w:E):Calls prog 111 #[I 5] w λe w'=>e=H (Y #[I 1,I 1])/\w=w':=by
 exact Zm
theorem l2Takes_6(w:E):Calls prog 111 #[I 6] w λe w'=>e=H (Y #[I 2,I 1])/\w=w':=by
 exact Zm
theorem l2Takes_7(w:E):Calls prog 111 #[I 7] w λe w'=>e=H (Y #[I 1,I 2])/\w=w':=by
 exact Zm
theorem l2Takes_8(w:E):Calls prog 111 #[I 8] w λe w'=>e=H (Y #[I 2,I 2])/\w=w':=by
 exact Zm
theorem l2Takes_9(w:E):Calls prog 111 #[I 9] w λe w'=>e=H (Y #[I 1,I 0])/\w=w':=by
 exact Zm
theorem Qag(w:E):Calls prog 111 #[I 10] w λe w'=>e=H (Y #[I 0,I 0])/\w=w':=by
 exact Zm
theorem Qaf(w:E):Calls prog 111 #[I 11] w λe w'=>e=H (Y #[I 1,I 0])/\w=w':=by
 exact Zm
theorem Qae(w:E):Calls prog 111 #[I 12] w λe w'=>e=H (Y #[I 1,I 1])/\w=w':=by
 exact Zm
theorem Qad(w:E):Calls prog 111 #[I 13] w λe w'=>e=H (Y #[I 1,I 1])/\w=w':=by
 exact Zm
theorem Qac(w:E):Calls prog 111 #[I 14] w λe w'=>e=H (Y #[I 1,I 0])/\w=w':=by
 exact Zm
theorem Qab(w:E):Calls prog 111 #[I 15] w λe w'=>e=H (Y #[I 1,I 0])/\w=w':=by
 exact Zm
theorem Qaa(o:X)(w:E)(h1:1<=o)(h2:o<=15):Calls prog 111 #[I o] w λe w'=>e=H (Y #[I (Kd.getD o 0),I (Zn.getD o 0)])/\w=w':=by
 rcases(show o=1\/o=2\/o=3\/o=4\/o=5\/o=6\/o=7\/o=8\/o=9\/o=10\/o=11\/o=12\/o=13\/o=14\/o=15 from qg)with rfl|rfl|rfl|rfl|rfl|rfl|rfl|rfl|rfl|rfl|rfl|rfl|rfl|rfl|rfl
 ·exact l2Takes_1 w
 ·exact l2Takes_2 w
 ·exact l2Takes_3 w
 ·exact l2Takes_4 w
 ·exact l2Takes_5 w
 ·exact l2Takes_6 w
 ·exact l2Takes_7 w
 ·exact l2Takes_8 w
 ·exact l2Takes_9 w
 ·exact Qag w
 ·exact Qaf w
 ·exact Qae w
 ·exact Qad w
 ·exact Qac w
 ·exact Qab w
def Df(pl:Int)(sk:Z)(st lk:Int):Z:=G #[I pl,sk,I st,I lk,F false,I 0,ze,F false,ze,F false]
def Dq(pl:Int)(sk:Z)(st lk c:Int)(t:By):Z:=G #[I pl,sk,I st,I lk,F true,I c,S t,F false,ze,F false]
def waitV(pl:Int)(sk:Z)(st lk:Int)(ask:Bool)(nm:By):Z:=G #[I pl,sk,I st,I lk,F false,I 0,ze,F ask,S nm,F true]
def Pl(ov:Bool)(c:Int)(t:By)(ask:Bool)(nm:By)(st:Int):Z:=G #[F ov,I c,S t,F ask,S nm,I st]
theorem Es(pl:Int)(a:Option Addr)(n cap:X)(st lk c:Int)(t:By)(w:E):Calls prog 110 #[Df pl (J a n cap) st lk,I c,S t] w λe w'=>e=H (Dq pl (J a n cap) st lk c t)/\Bw w w':=by
 unfold Df
 go_enter func110,ntmps110
 go_wp2
 exact bR (v:=Dq pl (J a n cap) st lk c t) (by simp[results,results110,go_sem,Dq]) rfl ⟨rfl,(aN _ _).alloc qi _⟩
theorem Mc(s:By)(w:E)(hs:s.size<=9223372036854775807):Calls prog 83 #[S s] w λe w'=>e=H (F (Fo s))/\w=w':=by
 by_cases h1:s.size<1
 ·rw[Cg (λh=>by have:=h.1;omega)];have d1:decide ((s.size:Int)<1)=true:=qj;go_enter func83,ntmps83;exact qan
 ·have d1:decide ((s.size:Int)<1)=false:=qj
  by_cases h2:60<s.size
  ·rw[Cg (λh=>by have:=h.2.1;omega)];have d2:decide ((60:Int)<s.size)=true:=qj;go_enter func83,ntmps83;exact qan
  ·have d2:decide ((60:Int)<s.size)=false:=qj;go_enter func83,ntmps83;go_wp2
   go_loopw [14] (λi wr=>∃k:X,k<=s.size/\i=I k/\Hd (∀j,(h:j<s.size)->j<k->33<=s[j].toNat/\s[j].toNat<=126)/\w=wr) (λi _=>s.size-(intOf i).toNat)
   case atStart=>exact⟨0,Nat.zero_le _,rfl,λj _ hj=>qg,rfl⟩
   case round=>
    exact qhe
theorem Bh{w:E}(ho:w.ownsRow B e sz v n xs)(hb:v.ownBlock=M b):B<=b/\∃cur,w.heap[b]?=M (O cur e (0,0)):=by
 rcases ho.2 with⟨rfl,_⟩|⟨g,cap,cur,rfl,hg,hh,_⟩
 ·simp[Value.ownBlock]at hb
 ·simp[Value.ownBlock]at hb;subst hb;exact⟨hg,cur,hh⟩
theorem Ah{w:E}(ho:w.ownsRow B e sz v n xs){cs:Array Z}{T:TypeId}(hT:T≠e)(hb:w.heap[b]?=M (O cs T (0,0))):v.ownBlock≠M b:=λq=>by
 obtain⟨_,cur,hh⟩:=Bh ho q
 rw[hb]at hh
 injection hh with hh
 injection hh with _ h5
 exact hT h5
theorem Cc{w w':E}(ho:w.ownsRow B e sz v n xs)(hk:∀b,v.ownBlock=M b->w'.heap[b]?=w.heap[b]?):w'.ownsRow B e sz v n xs:=by
 refine⟨ho.1,?_⟩
 rcases ho.2 with k|⟨g,cap,cur,rfl,hg,hh,r⟩
 ·exact Or.inl k
 ·exact Or.inr ⟨g,cap,cur,rfl,hg,by rw[hk g (by simp[Value.ownBlock])];exact hh,r⟩
def Qaw(n:X):By:=⟨#[UInt8.ofNat (48+n)]⟩
theorem digB_size(n:X):(Qaw n).size=1:=rfl
theorem l2Dec_in(n:X)(hn:n<=5)(w:E):Calls prog 51 #[I n] w λe w'=>e=H (S (Qaw n))/\Bw w w':=by
 have hu:=Sa n qg
 unfold Qaw
 generalize UInt8.ofNat (48+n)=u at *
 have hcv:=Se (w.alloc (O #[.int .u8 (48+n)] 5)) w.heap.size (48+n) u hu qr
 clear hu
 exact qkn
theorem Qa{w a b:E}(h:Bw w a)(k:Bw a b):Bw w b:=h.trans (k.mono h.size)
theorem Nb(m:X)(t:By)(a:Option Addr)(cap:X)(w:E)(hm:m<=5)(ht:t.size<=2000):Calls prog 106 #[G #[I m,S t,J a 0 cap]] w λe w'=>e=H (S (Qaw m++(⟨#[58]⟩:By)++t))/\Bw w w':=by
 have hd:(Qaw m).size<=1:=Nat.le_of_eq (digB_size m)
 have HC:Hd (∀W:E,Calls prog 51 #[I m] W λe w'=>e=H (S (Qaw m))/\Bw W w'):=λW=>l2Dec_in m hm W
 generalize Qaw m=d at *
 have HD:Hd (∀W:E,W.cell? ⟨w.heap.size,1,N⟩=M (S t)->Calls prog 51 #[I m] W λe w'=>e=H (S d)/\Bw W w'/\w'.cell? ⟨w.heap.size,1,N⟩=M (S t)):=λW hW=>(HC.o W).mono λe w' ⟨he,hb⟩=>⟨he,hb,Aa hb hW⟩
 have I8:(w.alloc (O #[I m,S t,J a 0 cap] 134)).cell? ⟨w.heap.size,0,N⟩=M (I m):=qr
 have hx1:(w.alloc (O #[I m,S t,J a 0 cap] 134)).cell? ⟨w.heap.size,1,N⟩=M (S t):=qr
 go_enter func106,ntmps106
 go_wp2
 go_region_with (first|(go_at_call 51;refine(HD.o _ ?_).mono ?_;(focus(simp[go_sem];done));rintro e w1 ⟨rfl,ah,hcc⟩))
 all_goals
  go_wp2;go_ret;exact⟨rfl,((aN _ _).drew.trans (ah.mono qi))⟩
end Go.Proofs.YtoihflimijabjaaGreatDoor
