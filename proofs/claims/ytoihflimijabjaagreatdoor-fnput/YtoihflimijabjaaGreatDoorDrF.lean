import Derived.Test.YtoihflimijabjaaGreatDoorTForm
import Derived.Test.YtoihflimijabjaaGreatDoorTValidP
namespace Go.Proofs.YtoihflimijabjaaGreatDoor
open Value renaming slice->J,string->S,agg->G,pointer->D
open Option renaming some->M,none->N
open Obj renaming cells->O
open Go renaming Value->Z,World->E
open Ending renaming returned->H
open _root_ renaming List->L,Nat->X
set_option maxHeartbeats 8000000
set_option maxRecDepth 100000
open _root_.Go.Proofs.Tryz Go.RowKit
set_option linter.unusedVariables false
set_option linter.unusedSimpArgs false
variable {w' b w1 u w0 V:E} {B n R p g K' K1:X} {a:Option Addr} {is:L I3}
def Gl(i:I3):L Z:=[I i.op,S i.text,I i.n]
def Dd(is:L I3):L Z:=is.flatMap Gl
theorem Ch(is:L I3):(Dd is).length=is.length*3:=by
 unfold Dd
 induction is with
 | nil=>rfl
 | cons e r ih=>rw[List.flatMap_cons,List.length_append,ih];simp[Gl];omega
theorem Xp(is js:L I3):Dd (is++js)=Dd is++Dd js:=by simp[Dd]
theorem Bk(is:L I3):∀u∈Dd is,u.oneCell'=true:=by
 intro u hu
 unfold Dd at hu
 rw[List.mem_flatMap]at hu
 obtain⟨i,_,hi⟩:=hu
 simp[Gl]at hi
 rcases hi with rfl|rfl|rfl<;>rfl
theorem Fa:∀(is:L I3)(i j:X),i<is.length->j<3->(Dd is)[i*3+j]?=(Gl (ix is i))[j]?
 | [],i,j,h,_=>qak
 | e::r,0,j,h,hj=>by
  unfold Dd;rw[List.flatMap_cons,Nat.zero_mul,Nat.zero_add,List.getElem?_append_left qbg];rfl
 | e::r,i+1,j,h,hj=>by
  have:=Fa r i j Zl hj;unfold Dd at this ⊢;rw[List.flatMap_cons,List.getElem?_append_right qbg];have e1:(i+1)*3+j-(Gl e).length=i*3+j:=qbg;rw[e1,this];rfl
theorem Ff{w:E}{e sz:X}{v:Z}{xs:L Z}(h:w.ownsRow B e sz v n xs)(hk:∀b,B<=b->b<w.heap.size->w'.heap[b]?=w.heap[b]?):w'.ownsRow B e sz v n xs:=by
 refine⟨h.1,?_⟩
 rcases h.2 with k|⟨g,cap,cur,e1,hg,hh,r⟩
 ·exact Or.inl k
 ·have au:g<w.heap.size:=by
   rcases Nat.lt_or_ge g w.heap.size with q|q
   ·exact q
   ·rw[Array.getElem?_eq_none q]at hh;cases hh
  exact Or.inr ⟨g,cap,cur,e1,hg,by rw[hk g hg au];exact hh,r⟩
theorem Bf(w:E)(o:Obj):(w.alloc o).heap[w.heap.size]?=M o:=qct
def Mw(l:L UInt8):L Z:=l.map λb=>Value.int .u8 b.toNat
open Go.RowKit
set_option linter.unusedVariables false
open Go.RowKit
set_option linter.unusedVariables false
structure Rd (B:X) (w:E) (R:X) (a:Option Addr) (len cap:X) (p:X):Prop where
 block:w.heap[R]?=M (O #[J a len cap,I p] 70 (0,0))
 bytes:∀i,i<len->∃b off v,a=M ⟨b,off,N⟩/\b≠R/\b<B/\w.cell? ⟨b,off+i,N⟩=M (.int .u8 v)/\0<=v/\v<=255
 short:len<=2000
 lt:R<B
section
variable {B:X} {w:E} {R:X} {a:Option Addr} {len cap p:X}
theorem Rd.cell0(h:Rd B w R a len cap p):w.cell? ⟨R,0,N⟩=M (J a len cap):=by
 simp[World.cell?,h.block]
theorem Rd.cell1(h:Rd B w R a len cap p):w.cell? ⟨R,1,N⟩=M (I p):=by
 simp[World.cell?,h.block]
theorem Rd.free(h:Rd B w R a len cap p)(j:X):w.frozen? ⟨R,j,N⟩=false:=by
 simp[World.frozen?,h.block]
theorem Rd.kept{w':E}{row:Option X}(h:Rd B w R a len cap p)(hB:B<=w.heap.size)(hg:w.grownBy w' row)(hr:∀k,row=M k->B<=k):Rd B w' R a len cap p:=by
 refine⟨?_,λi hi=>?_,h.short,h.lt⟩
 ·rw[hg.block R (zo h.lt) (λe=>by have:=hr R e.symm;have:=h.lt;omega)];exact h.block
 ·obtain⟨b,off,v,ha,hb,il,hc,h1,h2⟩:=h.bytes i hi;exact⟨b,off,v,ha,hb,il,hg.cell hc (λe=>by have:=hr b e.symm;omega),h1,h2⟩
theorem Rd.step(h:Rd B w R a len cap p):Rd B (w.setCell ⟨R,1,N⟩ (I (p+1:X))) R a len cap (p+1):=by
 refine⟨?_,λi hi=>?_,h.short,h.lt⟩
 ·simp[World.setCell,Array.getElem?_modify,h.block]
 ·obtain⟨b,off,v,ha,hb,il,hc,h1,h2⟩:=h.bytes i hi;refine⟨b,off,v,ha,hb,il,?_,h1,h2⟩;rw[World.cell?_of_block (w:=w) (hC w ⟨R,1,N⟩ _ b hb)];exact hc
theorem Bp(w:E)(R j:X)(v:Z):w.grownBy (w.setCell ⟨R,j,N⟩ v) (M R):=
 ⟨rfl,rfl,rfl,by simp[World.setCell],λk _ aq=>hC w ⟨R,j,N⟩ v k (λe=>aq (by rw[e]))⟩
theorem Qap{w w':E}{row:Option X}(h:w.grownBy w' row):w.grownBy w'.drew row:=⟨h.os,h.tape,h.output,h.size,h.block⟩
theorem Rd.drew(h:Rd B w R a len cap p):Rd B w.drew R a len cap p:=⟨h.block,h.bytes,h.short,h.lt⟩
theorem Fq{w a b:E}{R:X}{row:Option X}(h:w.grownBy a (M R))(h2:a.grownBy b row)(io:∀k,row=M k->k=R\/w.heap.size<=k):w.grownBy b (M R):=
 ⟨h2.os.trans h.os,h2.tape.trans h.tape,h2.output.trans h.output,Nat.le_trans h.size h2.size,λk hk aq=>
  (h2.block k (zo h.size) (λe=>by rcases io k e.symm with rfl|h' ;exact aq rfl;omega)).trans (h.block k hk aq)⟩
end
theorem Pf(a b:X)(ha:a<9223372036854775808)(hb:b<9223372036854775808):bits .xor .i64 (a:Int) (b:Int)=((a ^^^ b:X):Int):=by
 have hx:a ^^^ b<2 ^ 63:=Nat.xor_lt_two_pow qg qg
 have h1:(BitVec.ofInt 64 (a:Int)).toNat=a:=by
  rw[BitVec.ofInt_natCast,BitVec.toNat_ofNat];exact Nat.mod_eq_of_lt qg
 have h2:(BitVec.ofInt 64 (b:Int)).toNat=b:=by
  rw[BitVec.ofInt_natCast,BitVec.toNat_ofNat];exact Nat.mod_eq_of_lt qg
 show IntKind.i64.wrap ((BitVec.ofInt 64 (a:Int) ^^^ BitVec.ofInt 64 (b:Int)).toNat:Int)=_
 rw[BitVec.toNat_xor,h1,h2]
 rw[IntKind.wrap_i64]
 omega
theorem far_num(A:Int)(n:X)(h0:0<=A)(h1:A<=1000000000)(hn:1<=n):∃x:X,(bits .xor .i64 A (A / 64)).tmod n=(x:Int)/\x<n:=by
 obtain⟨m,rfl⟩:=Int.eq_ofNat_of_zero_le h0
 have e:((m:Int) / 64)=((m / 64:X):Int):=qg
 rw[e,Pf m (m / 64) qg qg]
 exact⟨(m ^^^ m / 64) % n,by rw[<- Int.ofNat_tmod],Nat.mod_lt _ qg⟩
theorem pick_far(w:E)(B R:X)(b off len cap p:X)(n:X)(u v:Int)(i1 i2 q:X)(h:Rd B w R (M ⟨b,off,N⟩) len cap p)(hp:p<=100000)(hn:1<=n)(yv:n<=100000)(hl:len<=p)(h0:0<len)(hu:w.cell? ⟨b,off+i1,N⟩=M (.int .u8 u))(hv:w.cell? ⟨b,off+i2,N⟩=M (.int .u8 v))(hu1:0<=u)(G4:u<=255)(hv1:0<=v)(hv2:v<=255)(hb:b≠R)(e1:(p:Int) % (len:Int)=(i1:Int))(e2:((p:Int)*7+3) % (len:Int)=(i2:Int))(e3:(p:Int) / (len:Int)=(q:Int))(m1:i1<len)(m2:i2<len)(m3:q<=p):Calls prog 14 #[D (p_ R),I n] w λe w'=>(∃x:X,e=H (I x)/\x<n)/\Rd B w' R (M ⟨b,off,N⟩) len cap (p+1)/\w.grownBy w' (M R):=by
 have c0:=h.cell0
 have c1:=h.cell1
 have f1:=h.free 1
 have dx:=h.short
 have aq:((len:Int) == 0)=false:=qj
 have HR:Hd (Rd B w R (M ⟨b,off,N⟩) len cap p):=h
 clear h
 go_enter func14,ntmps14
 go_wp2
 go_region
 all_goals go_wp2
 all_goals go_ret
 all_goals
  obtain⟨x,hx,n9⟩:=far_num (u*131+v*1117+p*29+q*53) n qg qg hn;exact⟨⟨x,congrArg (λi=>Ending.returned (I i)) hx,n9⟩,HR.o.step.drew,Qap (Bp _ _ _ _)⟩
theorem pick_near(w:E)(B R:X)(b off len cap p:X)(n:X)(u:Int)(h:Rd B w R (M ⟨b,off,N⟩) len cap p)(hp:p<=100000)(hn:1<=n)(yv:n<=100000)(hl:p<len)(hu:w.cell? ⟨b,off+p,N⟩=M (.int .u8 u))(hu1:0<=u)(G4:u<=255)(hb:b≠R):Calls prog 14 #[D (p_ R),I n] w λe w'=>(∃x:X,e=H (I x)/\x<n)/\Rd B w' R (M ⟨b,off,N⟩) len cap (p+1)/\w.grownBy w' (M R):=by
 have c0:=h.cell0
 have c1:=h.cell1
 have f1:=h.free 1
 have dx:=h.short
 have aq:((len:Int) == 0)=false:=qj
 have HR:Hd (Rd B w R (M ⟨b,off,N⟩) len cap p):=h
 clear h
 obtain⟨m,rfl⟩:=Int.eq_ofNat_of_zero_le hu1
 go_enter func14,ntmps14
 go_wp2
 go_ret
 exact⟨⟨m % n,by first|rfl|(simp;omega),Nat.mod_lt _ qg⟩,HR.o.step,Bp _ _ _ _⟩
theorem pick_none(w:E)(B R:X)(a:Option Addr)(cap p:X)(n:X)(h:Rd B w R a 0 cap p)(hp:p<=100000)(hn:1<=n)(yv:n<=100000):Calls prog 14 #[D (p_ R),I n] w λe w'=>(∃x:X,e=H (I x)/\x<n)/\Rd B w' R a 0 cap (p+1)/\w.grownBy w' (M R):=by
 have c0:=h.cell0
 have c1:=h.cell1
 have f1:=h.free 1
 have HR:Hd (Rd B w R a 0 cap p):=h
 clear h
 go_enter func14,ntmps14
 go_wp2
 go_ret
 exact⟨⟨0,rfl,qg⟩,HR.o.step,Bp _ _ _ _⟩
theorem pick_any(w:E)(B R:X)(a:Option Addr)(len cap p:X)(n:X)(h:Rd B w R a len cap p)(hp:p<=100000)(hn:1<=n)(yv:n<=100000):Calls prog 14 #[D (p_ R),I n] w λe w'=>(∃x:X,e=H (I x)/\x<n)/\Rd B w' R a len cap (p+1)/\w.grownBy w' (M R):=by
 by_cases h0:len=0
 ·subst h0;exact pick_none w B R a cap p n h hp hn yv
 ·by_cases hl:p<len
  ·obtain⟨b,off,u,rfl,hb,_,hc,h1,h2⟩:=h.bytes p hl;exact pick_near w B R b off len cap p n u h hp hn yv hl hc h1 h2 hb
  ·have m1:p % len<len:=Nat.mod_lt _ qg;have m2:(p*7+3) % len<len:=Nat.mod_lt _ qg;obtain⟨b,off,u,rfl,hb,_,hc,h1,h2⟩:=h.bytes (p % len) m1;obtain⟨b',bq,v,he,_,_,U6,h1',h2'⟩:=h.bytes ((p*7+3) % len) m2;cases he;exact pick_far w B R b off len cap p n u v (p % len) ((p*7+3) % len) (p / len) h hp hn yv qg qg hc U6 h1 h2 h1' h2' hb qi qi qi m1 m2 (Nat.div_le_self _ _)
open Go.RowKit
set_option linter.unusedVariables false
def Qe(w:E)(a:Option Addr)(len:X):Prop:=∀i,i<len->∃b off v,a=M ⟨b,off,N⟩/\w.cell? ⟨b,off+i,N⟩=M (.int .u8 v)/\0<=v/\v<=255
theorem rd_new{w:E}{len cap:X}(h:Qe w a len)(hs:len<=2000):Rd (w.heap.size+1) (w.alloc (O #[J a len cap,I 0] 70)) w.heap.size a len cap 0:=by
 refine⟨Bf w _,λi hi=>?_,hs,qg⟩
 obtain⟨b,off,v,ha,hc,h1,h2⟩:=h i hi
 have hb:b<w.heap.size:=World.block_lt_of_cell? w _ hc
 exact⟨b,off,v,ha,qg,qg,(World.grownBy_alloc w _ N).cell hc qi,h1,h2⟩
theorem Qam(w:E)(a:Option Addr)(len cap:X)(h:Qe w a len)(hlc:len<=cap)(hl:len<=1048576):Calls prog 12 #[J a len cap] w λe w'=>∃I5:X,e=H (D (p_ w.heap.size))/\Rd (w.heap.size+1) w' w.heap.size a I5 cap 0/\w.heap.size+1=w'.heap.size/\Bw w w':=by
 by_cases h2:len<=2000
 ·go_enter func12,ntmps12;go_wp2;go_ret;exact⟨len,rfl,rd_new h h2,qi,aN _ _⟩
 ·have h3:(2000:Int)<=cap:=qg;have h4:¬ cap=0:=qg;go_enter func12,ntmps12;go_wp2;go_ret;exact⟨2000,rfl,rd_new (λi hi=>h i qg) (Nat.le_refl _),qi,aN _ _⟩
theorem Ju(w:E)(B R:X)(a:Option Addr)(len cap p:X)(n:Int)(h:Rd B w R a len cap p)(hp:p<=100000)(hn:1<=n)(yv:n<=100000):Calls prog 14 #[D (p_ R),I n] w λe w'=>∃x:X,e=H (I x)/\(x:Int)<n/\Rd B w' R a len cap (p+1)/\w.grownBy w' (M R):=by
 obtain⟨m,rfl⟩:=Int.eq_ofNat_of_zero_le (show 0<=n from qg)
 refine(pick_any w B R a len cap p m h hp qg qg).mono ?_
 rintro e w' ⟨⟨x,rfl,hx⟩,h1,h2⟩
 exact⟨x,rfl,qg,h1,h2⟩
theorem Dr{w a:E}(h:w.grownBy a (M R))(h2:a.grownBy b (M R)):w.grownBy b (M R):=Fq h h2 (λk hk=>by cases hk;exact Or.inl rfl)
theorem Tryz.info5':(prog.info? 5).map (λi=>(i.zero,i.size,i.bytes))=M (M (.int .u8 0),1,1):=qk
theorem byte_of(c:X)(h:c<4):∃u:UInt8,(u.toNat:Int)=97+c:=⟨UInt8.ofNat (97+c),by rw[UInt8.toNat_ofNat'];omega⟩
theorem Xi{w wx:E}{len cap j ai:X}{l:L UInt8}{u:UInt8}{v':Z}(hB:B<=w.heap.size)(hg:w.heap.size<=g)(hgw:w.grownBy wx (M R))(hR:Rd B wx R a len cap p)(af:w1.ownsRow w.heap.size 5 1 v' (j+1) (Mw l++[.int .u8 u.toNat]))(ae:(wx.alloc (O #[.int .u8 u.toNat] 5)).grownBy w1 (Value.slice (p_ g) j ai).ownBlock):∃g ai:X,v'=J (p_ g) (j+1) ai/\w1.ownsRow w.heap.size 5 1 (J (p_ g) (j+1) ai) (j+1) (Mw (l++[u]))/\Rd B w1 R a len cap p/\w.grownBy w1 (M R):=by
 have hs:=hgw.size
 have e:Mw (l++[u])=Mw l++[.int .u8 u.toNat]:=by simp[Mw]
 rw[<- e]at af
 have r1:Rd B w1 R a len cap p:=(hR.kept qg (World.grownBy_alloc _ _ N) qi).kept qj ae qfl
 have r2:w.grownBy w1 (M R):=Fq (Fq hgw (World.grownBy_alloc _ _ N) qi) ae qfl
 rcases af.2 with⟨_,h⟩|⟨g,cap,cur,hv,_⟩
 ·omega
 ·subst hv;exact⟨g,cap,rfl,af,r1,r2⟩
theorem Qal(w:E)(B R:X)(a:Option Addr)(len cap p:X)(h:Rd B w R a len cap p)(hB:B<=w.heap.size)(hp:p<=90000):Calls prog 16 #[D (p_ R)] w λe w'=>∃s:By,∃p':X,e=H (S s)/\s.size<=10/\Rd B w' R a len cap p'/\p'<=p+10/\w.grownBy w' (M R):=by
 obtain⟨i0,hi,bm,bg,bi⟩:=info_parts Tryz.info5'
 go_enter func16,ntmps16
 go_wp2_with fail
 refine(Ju w B R a len cap p _ h qg qg qg).mono ?_
 rintro e w1 ⟨x,rfl,hx,vp,am⟩
 rcases(show x=0\/x=1\/x=2\/x=3\/x=4\/x=5\/6<=x from qg)with rfl|rfl|rfl|rfl|rfl|rfl|hx6
 iterate 6
  ·go_wp2;go_ret;exact⟨_,p+1,rfl,qh,vp,qg,am⟩
 ·go_wp2_with fail;refine(Ju w1 B R a len cap (p+1) _ vp qg qg qg).mono ?_;rintro e w2 ⟨n,rfl,hn,og,H7⟩;have hg:w.grownBy w2 (M R):=Dr am H7;clear am H7 vp;go_wp2_with fail;have hs0:=hg.size
  go_loopw [4,5] (λo i wr=>∃j g ai:X,∃l:L UInt8,j<=n+1/\l.length=j/\i=I j/\o=J (p_ g) j ai/\wr.ownsRow w.heap.size 5 1 (J (p_ g) j ai) j (Mw l)/\Rd B wr R a len cap (p+2+j)/\w.grownBy wr (M R)) (λ_ i _=>n+1-(intOf i).toNat)
  case atStart=>
   refine⟨0,w2.heap.size,0,[],qg,rfl,rfl,rfl,World.ownsRow_lit w2 #[] 0 hs0 qn qi,og.kept qg (World.grownBy_alloc _ _ N) qi,Fq hg (World.grownBy_alloc _ _ N) qi⟩
  case round=>
   obtain⟨j,g,ai,l,hj,hl,rfl,rfl,ak,hR,hgw⟩:=hrel
   by_cases au:j<=n
   ·go_wp2_with fail;refine(Ju wr B R a len cap (p+2+j) _ hR qg qg qg).mono ?_;rintro e wx ⟨c,rfl,hc,hR',hgp⟩;have hgB:=(ak.lt g rfl).1;have P8:=hR.lt;have gh:=ak.kept hgp (Or.inr (by simp[Value.ownBlock];omega));have fu:w.grownBy wx (M R):=Dr hgw hgp;have hsx:=fu.size;obtain⟨u,hu⟩:=byte_of c qg;clear ak hR hgp hgw
    go_wp2_with (first|(at_builtin;rw[<- hu];refine wpList_append_own _ rfl (.tmp 28) (.tmp 33) 22 rfl w.heap.size 5 i0 (.int .u8 0) 1 1 underlying22 hi bm bg bi rfl qh _ _ _ rfl (gh.alloc _) ⟨wx.heap.size,0,N⟩ 1 1 [.int .u8 u.toNat] rfl rfl (cell_one_new _ _ _) qbe qn qg qj ?_;intro v' w1 af ae bn;obtain⟨g',mt,ym,R⟩:=Xi hB hgB fu hR' af ae;clear af ae bn gh fu hR';rw[ym];clear ym))
    go_roundw
    case rel=>exact⟨j+1,g',mt,l++[u],qg,by simp[hl],qp,rfl,R.1,by rw[show p+2+(j+1)=p+2+j+1 from qg];exact R.2.1,R.2.2⟩
    case measure=>simp[intOf];omega
   ·have hcv:(convert 22 9 (J (p_ g) j ai)).run prog wr=.ok (S ⟨l.toArray⟩) wr:=by
     have:=run_convert_bytes_back (P:=prog) wr 22 9 5 ⟨g,0,N⟩ ai l underlying22 underlying5 underlying9 (λt ht=>ak.cells rfl t _ (by rw[Mw,List.getElem?_map,gQ ht];rfl))
     rwa [hl]at this
    go_wp2;go_ret;exact⟨⟨l.toArray⟩,p+2+j,rfl,by show l.toArray.size<=10;simp;omega,hR,qg,hgw⟩
open Go.RowKit
set_option linter.unusedVariables false
theorem Fr{w a:E}(h:w.grownBy a (M R))(h2:Bw a b):w.grownBy b (M R):=
 ⟨h2.os.trans h.os,h2.tape.trans h.tape,h2.output.trans h.output,Nat.le_trans h.size h2.size,λk hk aq=>(h2.block k (zo h.size)).trans (h.block k hk aq)⟩
theorem Im(w:E)(R:X):w.grownBy w (M R):=⟨rfl,rfl,rfl,Nat.le_refl _,λ_ _ _=>rfl⟩
theorem Rd.bl{w:E}{len cap:X}(h:Rd B w R a len cap p)(hB:B<=w.heap.size)(hb:Bw w w'):Rd B w' R a len cap p:=
 h.kept (row:=N) hB ⟨hb.os,hb.tape,hb.output,hb.size,λk hk _=>hb.block k hk⟩ qi
def Ba(B R:X)(a:Option Addr)(len cap p K:X)(w w':E):Prop:=w.grownBy w' (M R)/\∃p',p'<=p+K/\Rd B w' R a len cap p'
theorem Ha(s:By)(n:X)(w:E)(hs:s.size<=100)(hn:n<=5000):Calls prog 15 #[S s,I n] w λe w'=>∃r:By,e=H (S r)/\r.size=s.size*n/\w'=w:=by
 obtain⟨T,eT⟩:=Aj (s.size*n)
 have hT:T<=500000:=by rw[<- eT];exact Nat.le_trans (Nat.mul_le_mul hs hn) qg
 have HT:Hd (s.size*n=T):=eT
 rw[eT]
 clear eT
 go_enter func15,ntmps15
 go_wp2
 go_loopw [0,1,5] (λx i o wr=>∃(y r:By)(m:X),m<=5000/\y.size<=1000000+100/\x=S y/\i=I m/\o=S r/\Hd (r.size+y.size*m=T)/\wr=w) (λ_ i _ _=>(intOf i).toNat)
 case atStart=>exact⟨s,⟨#[]⟩,n,hn,qg,rfl,rfl,rfl,by show 0+s.size*n=T;rw[Nat.zero_add];exact HT.o,rfl⟩
 case round=>
  obtain⟨y,r,m,hm,hy,rfl,rfl,rfl,HI,rfl⟩:=hrel
  by_cases h0:0<m
  ·have h0I:(0:Int)<(m:Int):=qg
   have hyT:y.size<=T:=by
    have:=HI.o;have h2:y.size*1<=y.size*m:=Nat.mul_le_mul (Nat.le_refl _) h0;omega
   have hrT:r.size<=T:=zo HI.o
   by_cases h1:m % 2=1
   ·have h1I:((m:Int) % 2 == 1)=true:=qj
    have HN:Hd ((r++y).size+(y++y).size*(m / 2)=T):=by
     show _=_;rw[ByteArray.size_append,ByteArray.size_append,<- HI.o];have e:m=2*(m / 2)+1:=qg;generalize m / 2=k at e;subst e;rw[Nat.add_mul,Nat.mul_add,Nat.mul_one,<- Nat.mul_assoc,Nat.mul_comm y.size 2,Nat.mul_assoc];omega
    go_wp2_with fail;have e2:(m:Int) / 2=((m / 2:X):Int):=qg;rw[e2];exact⟨⟨y++y,r++y,m / 2,qg,qdk,rfl,rfl,rfl,HN,trivial⟩,Yj⟩
   ·have h1I:((m:Int) % 2 == 1)=false:=qj
    have HN:Hd (r.size+(y++y).size*(m / 2)=T):=by
     show _=_;rw[ByteArray.size_append,<- HI.o];have e:m=2*(m / 2):=qg;generalize m / 2=k at e;subst e;rw[Nat.add_mul,<- Nat.mul_assoc,Nat.mul_comm y.size 2,Nat.mul_assoc];omega
    go_wp2_with fail;have e2:(m:Int) / 2=((m / 2:X):Int):=qg;rw[e2];exact⟨⟨y++y,r,m / 2,qg,qdk,rfl,rfl,rfl,HN,trivial⟩,Yj⟩
  ·obtain rfl:m=0:=qg;have h0I:¬ (0:Int)<((0:X):Int):=qg;have HR:Hd (r.size=T):=by have:=HI.o;rw[Nat.mul_zero,Nat.add_zero]at this;exact this
   go_wp2_with fail;exact bR (v:=S r) (by simp[results,results15,go_sem]) rfl ⟨r,rfl,HR.o,rfl⟩
theorem Qai(w:E)(B R:X)(a:Option Addr)(len cap p:X)(h:Rd B w R a len cap p)(hB:B<=w.heap.size)(hp:p<=90000):Calls prog 57 #[D (p_ R)] w λe w'=>∃s:By,e=H (S s)/\s.size<=10/\Ba B R a len cap p 1 w w':=by
 go_enter func57,ntmps57
 go_wp2_with fail
 refine(Ju w B R a len cap p _ h qg qg qg).mono ?_
 rintro e w1 ⟨x,rfl,hx,vp,am⟩
 have HK:Hd (Ba B R a len cap p 1 w w1):=⟨am,p+1,Nat.le_refl _,vp⟩
 have HG:Hd (w.grownBy w1 (M R)/\Rd B w1 R a len cap (p+1)/\B<=w1.heap.size):=⟨am,vp,Nat.le_trans hB am.size⟩
 clear am vp h
 by_cases h6:x<6
 ·have h6I:(x:Int)<6:=qg
  rcases(show x=0\/x=1\/x=2\/x=3\/x=4\/x=5 from qg)with rfl|rfl|rfl|rfl|rfl|rfl
  all_goals
   go_wp2;go_ret;exact⟨_,rfl,qh,HK.o⟩
 ·have h6I:¬ (x:Int)<6:=qg
  by_cases h14:x<14
  ·have h14I:(x:Int)<14:=qg;obtain⟨m,rfl⟩:∃m,x=m+6:=⟨x-6,qg⟩;have e6:((m+6:X):Int)-6=(m:Int):=qg;have HDC:Hd (Calls prog 51 #[I m] w1 _):=Gz m w1 qg;have oe:(Lib.decDigits m).length<=1:=En 0 m qg;go_wp2_with fail;refine HDC.o.mono ?_;rintro e w2 ⟨rfl,a9⟩;have ke:Hd (Bw w1 w2):=a9;obtain⟨q,eq⟩:=Aj ((⟨(Lib.decDigits m).toArray⟩:By));have hq:q.size<=1:=by rw[<- eq];show(Lib.decDigits m).toArray.size<=1;simpa using oe
   rw[eq];clear a9 eq HDC;go_wp2_with fail;exact bR (v:=S (⟨#[116]⟩++q)) (by simp[results,results57,go_sem]) rfl ⟨_,rfl,by rw[ByteArray.size_append];show 1+q.size<=10;omega,Fr HG.o.1 ke.o,p+1,Nat.le_refl _,HG.o.2.1.bl HG.o.2.2 ke.o⟩
  ·have h14I:¬ (x:Int)<14:=qg;go_wp2;go_ret;exact⟨_,rfl,qh,HK.o⟩
theorem Cm(s:By)(w:E):Calls prog 69 #[S s] w λe w'=>e=H (G #[I 1,S s,I 0])/\Bw w w':=by
 go_enter func69,ntmps69
 go_wp2
 exact bR (v:=G #[I 1,S s,I 0]) (by simp[results,results69,go_sem]) rfl ⟨rfl,aN _ _⟩
theorem Bu(o:Int)(w:E):Calls prog 70 #[I o] w λe w'=>e=H (G #[I o,ze,I 0])/\Bw w w':=by
 go_enter func70,ntmps70
 go_wp2
 exact bR (v:=G #[I o,ze,I 0]) (by simp[results,results70,go_sem]) rfl ⟨rfl,aN _ _⟩
theorem Er(o n:Int)(w:E):Calls prog 71 #[I o,I n] w λe w'=>e=H (G #[I o,ze,I n])/\Bw w w':=by
 go_enter func71,ntmps71
 go_wp2
 exact bR (v:=G #[I o,ze,I n]) (by simp[results,results71,go_sem]) rfl ⟨rfl,aN _ _⟩
theorem Pt(n:Int)(w:E):Calls prog 93 #[I n] w λe w'=>(∃m:Int,e=H (I m))/\w'=w:=by
 by_cases h:(200:Int)<n
 ·go_enter func93,ntmps93;go_wp2;go_ret;exact⟨⟨200,rfl⟩,rfl⟩
 ·go_enter func93,ntmps93;go_wp2;go_ret;exact⟨⟨n,rfl⟩,rfl⟩
structure Ow (w0 w:E) (g n c:X) (is:L I3):Prop where
 ln:n=is.length
 row:w.ownsRow w0.heap.size 103 3 (J (p_ g) n c) n (Dd is)
 tx:∀x∈is,x.text.size<=50000
theorem Ow.bl{w:E}{c:X}(h:Ow w0 w g n c is)(hb:Bw w w'):Ow w0 w' g n c is:=⟨h.ln,Ff h.row (λb _ nk=>hb.block b nk),h.tx⟩
open Go.RowKit
set_option linter.unusedVariables false
theorem Tryz.info80D:(prog.info? 103).map (λi=>(i.zero,i.size,i.bytes))=M (M (G #[I 0,ze,I 0]),3,32):=qk
theorem Ow.gb{w:E}{c:X}(h:Ow w0 w g n c is)(hg:w.grownBy w' (M R))(hR:R<w0.heap.size):Ow w0 w' g n c is:=⟨h.ln,Ff h.row (λb hb au=>hg.block b au (λe=>qbu)),h.tx⟩
theorem Ba.bl{len cap K:X}{w:E}(h:Ba B R a len cap p K w0 w)(hB:B<=w0.heap.size)(hb:Bw w w'):Ba B R a len cap p K w0 w':=by
 obtain⟨h1,p',h2,h3⟩:=h
 exact⟨Fr h1 hb,p',h2,h3.bl (Nat.le_trans hB h1.size) hb⟩
theorem Ba.more{len cap K:X}{w:E}(h:Ba B R a len cap p K w0 w)(hK:K<=K'):Ba B R a len cap p K' w0 w:=by
 obtain⟨h1,p',h2,h3⟩:=h
 exact⟨h1,p',qg,h3⟩
theorem Ba.then{len cap p' K:X}{w:E}(h:w0.grownBy w (M R))(hp:p'<=p+K)(k:Ba B R a len cap p' K' w w'):Ba B R a len cap p (K+K') w0 w':=by
 obtain⟨h1,q,h2,h3⟩:=k
 exact⟨Dr h h1,q,qg,h3⟩
theorem Ba.pick{len cap K:X}{w:E}(h:Ba B R a len cap p K w0 w)(hp:p+K<=90000)(n:Int)(hn:1<=n)(yv:n<=100000):Calls prog 14 #[D (p_ R),I n] w λe w'=>∃x:X,e=H (I x)/\(x:Int)<n/\Ba B R a len cap p (K+1) w0 w'/\w.grownBy w' (M R):=by
 obtain⟨h1,p',h2,h3⟩:=h
 refine(Ju w B R a len cap p' n h3 qg hn yv).mono ?_
 rintro e w' ⟨x,rfl,hx,hr,hg⟩
 exact⟨x,rfl,hx,⟨Dr h1 hg,p'+1,qg,hr⟩,hg⟩
theorem Ba.text{len cap K:X}{w:E}(h:Ba B R a len cap p K w0 w)(hB:B<=w0.heap.size)(hp:p+K<=90000):Calls prog 16 #[D (p_ R)] w λe w'=>∃s:By,e=H (S s)/\s.size<=10/\Ba B R a len cap p (K+10) w0 w'/\w.grownBy w' (M R):=by
 obtain⟨h1,p',h2,h3⟩:=h
 refine(Qal w B R a len cap p' h3 (Nat.le_trans hB h1.size) qg).mono ?_
 rintro e w' ⟨s,q,rfl,hs,hr,hq,hg⟩
 exact⟨s,rfl,hs,⟨Dr h1 hg,q,qg,hr⟩,hg⟩
theorem Ba.name{len cap K:X}{w:E}(h:Ba B R a len cap p K w0 w)(hB:B<=w0.heap.size)(hp:p+K<=90000):Calls prog 57 #[D (p_ R)] w λe w'=>∃s:By,e=H (S s)/\s.size<=10/\Ba B R a len cap p (K+1) w0 w'/\w.grownBy w' (M R):=by
 obtain⟨h1,p',h2,h3⟩:=h
 refine(Qai w B R a len cap p' h3 (Nat.le_trans hB h1.size) qg).mono ?_
 exact qki
theorem Ow.app{len cap K:X}{w wa w8:E}{c k:X}{js:L I3}{news:L Z}{v8:Z}(hA:Bw w wa)(h:Ow w0 w g n c is)(hK:Ba B R a len cap p K w0 w)(hB:B<=w0.heap.size)(hR:R<w0.heap.size)(hn:news=Dd js)(hk:k=js.length)(h0:0<k)(ht:∀x∈js,x.text.size<=50000)(ak:w8.ownsRow w0.heap.size 103 3 v8 (n+k) (Dd is++news))(hg:wa.grownBy w8 (Value.slice (p_ g) n c).ownBlock):∃g8 c8,v8=J (p_ g8) (n+k) c8/\Ow w0 w8 g8 (n+k) c8 (is++js)/\Ba B R a len cap p K w0 w8:=by
 obtain⟨h1,p',h2,h3⟩:=hK
 have hgB:w0.heap.size<=g:=by
  exact qed
 have hs:=h1.size
 obtain⟨g8,c8,rfl⟩:∃g8 c8,v8=J (p_ g8) (n+k) c8:=by
  rcases ak.2 with⟨_,q⟩|⟨g1,V7,cur,q,_⟩
  ·omega
  ·exact⟨g1,V7,q⟩
 subst hn
 rw[<- Xp]at ak
 refine⟨g8,c8,rfl,⟨by rw[List.length_append,h.ln,hk],ak,λx hx=>?_⟩,Fq (Fr h1 hA) hg (by intro b hb;simp[Value.ownBlock]at hb;omega),p',h2,(h3.bl qg hA).kept (zo hA.size) hg (by intro b hb;simp[Value.ownBlock]at hb;omega)⟩
 rcases List.mem_append.mp hx with q|q
 ·exact h.tx x q
 ·exact ht x q
theorem Tw:∀(is:L I3)(i:X)(m:Int),i<is.length->(Dd is).set (i*3+2) (I m)=Dd (is.set i ⟨(ix is i).op,(ix is i).text,m⟩)
 | [],i,m,h=>qak
 | e::r,0,m,h=>by
  simp[Dd,Gl,ix]
 | e::r,i+1,m,h=>by
  have:=Tw r i m Zl;unfold Dd at this ⊢;rw[List.set_cons_succ,List.flatMap_cons,List.flatMap_cons,List.set_append_right _ _ qbg];have e1:(i+1)*3+2-(Gl e).length=i*3+2:=qbg;rw[e1,this];rfl
theorem Ow.setN{B R:Nat}{a:Option Addr}{len cap p K:Nat}{w0 w:World}{g n c:Nat}{is:List I3}(h:Ow w0 w g n c is)(hK:Ba B R a len cap p K w0 w)(hB:B<=w0.heap.size)(hR:R<w0.heap.size)(i:Nat)(hi:i<n)(m:Int):Ow w0 (w.setCell ⟨g,i*3+2,none⟩ (.int .i64 m)) g n c (is.set i ⟨(ix is i).op,(ix is i).text,m⟩)/\Ba B R a len cap p K w0 (w.setCell ⟨g,i*3+2,none⟩ (.int .i64 m))/\(∃v,w.cell? ⟨g,i*3+2,none⟩=some v)/\∀j,w.frozen? ⟨g,j,none⟩=false:=by
 obtain⟨h1,p',h2,h3⟩:=hK
 have hgB:w0.heap.size<=g:=by
  rcases h.row.2 with⟨q,_⟩|⟨g1,V7,cur,q,hg,_⟩
  ·cases q
  ·simp only[Value.slice.injEq,Option.some.injEq,Addr.mk.injEq]at q;omega
 have hl:=h.ln
 have du:=h.row.stored (i*3+2) (.int .i64 m)
 rw[Tw is i m (by omega)]at du
 have iz:=h1.size
 refine⟨⟨by rw[List.length_set];exact hl,du.1,λx hx=>?_⟩,⟨Fq h1 (Bp _ _ _ _) (by intro b hb;cases hb;omega),p',h2,h3.kept (by omega) (Bp _ _ _ _) (by intro b hb;cases hb;omega)⟩,?_,λj=>h.row.frozenAt j⟩
 ·rcases List.mem_or_eq_of_mem_set hx with q|q
  ·exact h.tx x q
  ·subst q
   have:ix is i∈is:=by
    (have e:ix is i=is[i]'(by omega):=by simp[ix,gG,(by omega:i<is.length)]);rw[e];exact List.getElem_mem _
   exact h.tx (ix is i) this
 ·rw[h.row.cellAt (i*3+2) (by omega)];exact⟨_,gQ (by rw[Ch];omega)⟩
def ValP(B R:X)(a:Option Addr)(len cap p K AM:X)(w:E)(e:Ending)(w':E):Prop:=
 ∃(g c:X)(is:L I3),e=H (J (p_ g) is.length c)/\Ow w w' g is.length c is/\0<is.length/\is.length<=AM/\Ba B R a len cap p K w w'
theorem Je{len cap K AM:X}{w:E}{c:X}(ho:Ow w w' g n c is)(hk:Ba B R a len cap p K1 w w')(h0:0<n)(hL:n<=AM)(hK:K1<=K):ValP B R a len cap p K AM w (H (J (p_ g) n c)) w':=by
 have hl:=ho.ln
 subst hl
 exact⟨g,c,is,rfl,ho,h0,hL,hk.more hK⟩
def Sj(d K AM P A:X):Prop:=∀(B R:X)(a:Option Addr)(len cap p:X)(at_:Int)(w:E),Rd B w R a len cap p->B<=w.heap.size->p<=P->0<=at_->at_<=A→
 Calls prog 84 #[D (p_ R),I at_,I d] w λe w'=>ValP B R a len cap p K AM w e w'
theorem Ik(d K AM P P' A A':X)(hd:d<=3)(hK:K<=10000)(hL:AM<=1000)(hP:P+2*K+30<=P')(A8:P'<=80000)(hA:A+2*AM+4<=A')(hA2:A'<=1000000)(IH:1<=d->Sj (d-1) K AM P' A'):Sj d (3*K+25) (3*AM+4) P A:=by
 intro B R a len cap p at_ w h hB hp hat0 lh
 have P8:=h.lt
 obtain⟨i0,hi,bm,bg,bi⟩:=info_parts Tryz.info80D
 have HW:Hd (Ba B R a len cap p 0 w (w.alloc (O #[] 103))):=⟨World.grownBy_alloc _ _ _,p,Nat.le_refl _,h.bl hB (aN _ _)⟩
 have HO:Hd (Ow w (w.alloc (O #[] 103)) w.heap.size 0 0 []):=⟨rfl,World.ownsRow_lit (base:=w.heap.size) (e:=103) (size:=3) w #[] 0 (Nat.le_refl _) qn rfl,λx hx=>qbl⟩
 have HIH:=(show Hd _ from IH)
 clear h IH
 go_enter func84,ntmps84
 go_wp2_with fail
 refine(HW.o.pick qg _ qg qg).mono ?_
 rintro e w1 ⟨x,rfl,hx,fh,am⟩
 have iq:Hd (Ba B R a len cap p 1 w w1):=fh
 have fc:Hd (Ow w w1 w.heap.size 0 0 []):=HO.o.gb am qg
 clear fh am HW HO
 have HK:=iq
 have HO:=fc
 clear iq fc
 by_cases hd0:d=0
 ·subst hd0
  rcases(show x=0\/x=1\/x=7\/x=2\/x=3\/x=4\/x=8\/x=9\/x=10\/x=5\/x=11\/x=6 from qg)with rfl|rfl|rfl|rfl|rfl|rfl|rfl|rfl|rfl|rfl|rfl|rfl
  iterate 3
   ·exact qgv
  iterate 6
   ·exact qgt
  iterate 2
   ·exact qgo
  ·exact qgs
 ·obtain⟨d',rfl⟩:∃d',d=d'+1:=⟨d-1,qg⟩;have HV:Hd (Sj d' K AM P' A'):=HIH.o qg;have hdI:¬ ((d'+1:X):Int)<=0:=qg
  rcases(show x=0\/x=1\/x=2\/x=3\/x=4\/x=5\/x=6\/x=11\/x=7\/x=8\/x=9\/x=10 from qg)with rfl|rfl|rfl|rfl|rfl|rfl|rfl|rfl|rfl|rfl|rfl|rfl
  iterate 2
   ·exact qgv
  iterate 3
   ·exact qgt
  ·exact qgo
  ·exact qgs
  ·go_wp2_with (first|(go_at_call 16;refine(HK.o.text hB qg).mono ?_;rintro e wn ⟨s,rfl,hs,hk,hg⟩;have HO:Hd (Ow w wn _ _ _ _):=HO.o.gb hg qg;have HK:Hd (Ba B R a len cap p _ w wn):=hk;clear hk hg)|(go_at_call 69;refine(Cm _ _).mono ?_;rintro e wn ⟨rfl,hb⟩;have HO:Hd (Ow w wn _ _ _ _):=HO.o.bl hb;have HK:Hd (Ba B R a len cap p _ w wn):=HK.o.bl hB hb;clear hb)|(go_at_call 70;refine(Bu _ _).mono ?_;rintro e wn ⟨rfl,hb⟩;have HO:Hd (Ow w wn _ _ _ _):=HO.o.bl hb;have HK:Hd (Ba B R a len cap p _ w wn):=HK.o.bl hB hb;clear hb)|(at_builtin;refine wpList_append_own _ rfl _ _ 51 rfl w.heap.size 103 i0 (G #[I 0,ze,I 0]) 3 32 underlying51 hi bm bg bi rfl qh _ _ _ ?_ (HO.o.row.alloc _) ⟨wn.heap.size,0,N⟩ 4 4 [I 1,S s,I 0,I 7,ze,I 0,I 8,ze,I 0,I 9,ze,I 0] ?_ rfl (World.news_of_block (cs:=#[I 1,S s,I 0,I 7,ze,I 0,I 8,ze,I 0,I 9,ze,I 0]) (t:=103) (fr:=(0,0)) (Bf _ _)) (λu hu=>Bk ([⟨1,s,0⟩,⟨7,⟨#[]⟩,0⟩,⟨8,⟨#[]⟩,0⟩,⟨9,⟨#[]⟩,0⟩]:L I3) u hu) qn qg (by have:=HK.o.1.size;simp;omega) ?_;(focus(first|rfl|(simp[Act.eval];done)));(focus(first|rfl|(simp[Act.eval];done)));intro v8 w8 an ag be;obtain⟨g8,c8,rfl,co,cl⟩:=Ow.app (aN _ _) HO.o HK.o hB qg (js:=[⟨1,s,0⟩,⟨7,⟨#[]⟩,0⟩,⟨8,⟨#[]⟩,0⟩,⟨9,⟨#[]⟩,0⟩]) (k:=4) rfl rfl qi (by intro x hx;simp at hx;rcases hx with rfl|rfl|rfl|rfl<;>first|(simp only;omega)|(show 0<=50000;omega)) an ag;have HO:Hd (Ow w w8 _ _ _ _):=co;have HK:Hd (Ba B R a len cap p _ w w8):=cl;clear co cl an ag be))
   exact bR (v:=J (p_ g8) _ c8) qbc rfl (Je HO.o HK.o (by first|omega|(simp;done)|(simp;omega)) (by first|omega|(simp;done)|(simp;omega)) (by first|omega|(simp;done)|(simp;omega)))
  ·have T1:Hd True:=trivial;have R1:Hd True:=trivial;have T2:Hd True:=trivial;have R2:Hd True:=trivial;have P2:Hd True:=trivial;go_wp2_with (first|(clear T1;go_at_call 84;obtain⟨h1,p',h2,h3⟩:=HK.o;refine(HV.o B R a len cap p' _ _ h3 (zo h1.size) qg qg qg).mono ?_;rintro e wn ⟨g21,wt,n8,rfl,vz,J8,hjL1,ph⟩;have HO:Hd (Ow w wn _ _ _ _):=HO.o.gb ph.1 qg;have HK:Hd (Ba B R a len cap p _ w wn):=Ba.then h1 h2 ph;have M9:Hd (Ow _ wn g21 n8.length wt n8):=vz;clear h1 h2 h3 vz ph)|(clear R1;at_builtin;refine wpList_append_own _ rfl _ _ 51 rfl w.heap.size 103 i0 (G #[I 0,ze,I 0]) 3 32 underlying51 hi bm bg bi rfl qh _ _ _ ?_ HO.o.row ⟨g21,0,N⟩ n8.length wt (Dd n8) ?_ (Ch n8) (λj u hu=>M9.o.row.cells rfl j u hu) (Bk n8) qn qg (zo HK.o.1.size) ?_;(focus(first|rfl|(simp[Act.eval];done)));(focus(first|rfl|(simp[Act.eval];done)));intro v8 w8 an ag be;obtain⟨g8,c8,rfl,co,cl⟩:=Ow.app (Below.refl _ _) HO.o HK.o hB qg (js:=n8) rfl rfl J8 M9.o.tx an ag;have HO:Hd (Ow w w8 _ _ _ _):=co;have HK:Hd (Ba B R a len cap p _ w w8):=cl;clear co cl an ag be M9)|(clear T2;go_at_call 84;obtain⟨h1,p',h2,h3⟩:=HK.o;refine(HV.o B R a len cap p' _ _ h3 (zo h1.size) qg qg qg).mono ?_;rintro e wn ⟨g22,uz,xk,rfl,vz,hj02,hjL2,ph⟩;have HO:Hd (Ow w wn _ _ _ _):=HO.o.gb ph.1 qg;have HK:Hd (Ba B R a len cap p _ w wn):=Ba.then h1 h2 ph;have HJ2:Hd (Ow _ wn g22 xk.length uz xk):=vz;clear h1 h2 h3 vz ph)|(clear R2;at_builtin;refine wpList_append_own _ rfl _ _ 51 rfl w.heap.size 103 i0 (G #[I 0,ze,I 0]) 3 32 underlying51 hi bm bg bi rfl qh _ _ _ ?_ HO.o.row ⟨g22,0,N⟩ xk.length uz (Dd xk) ?_ (Ch xk) (λj u hu=>HJ2.o.row.cells rfl j u hu) (Bk xk) qn qg (zo HK.o.1.size) ?_;(focus(first|rfl|(simp[Act.eval];done)));(focus(first|rfl|(simp[Act.eval];done)));intro v8 w8 an ag be;obtain⟨g8,c8,rfl,co,cl⟩:=Ow.app (Below.refl _ _) HO.o HK.o hB qg (js:=xk) rfl rfl hj02 HJ2.o.tx an ag;have HO:Hd (Ow w w8 _ _ _ _):=co;have HK:Hd (Ba B R a len cap p _ w w8):=cl;clear co cl an ag be HJ2)|(clear P2;go_at_call 14;refine(HK.o.pick qg _ qg qg).mono ?_;rintro e wn ⟨y2,rfl,I7,hk,hg⟩;have HO:Hd (Ow w wn _ _ _ _):=HO.o.gb hg qg;have HK:Hd (Ba B R a len cap p _ w wn):=hk;clear hk hg)|(go_at_call 70;refine(Bu _ _).mono ?_;rintro e wn ⟨rfl,hb⟩;have HO:Hd (Ow w wn _ _ _ _):=HO.o.bl hb;have HK:Hd (Ba B R a len cap p _ w wn):=HK.o.bl hB hb;clear hb)|(at_builtin;refine wpList_append_own _ rfl _ _ 51 rfl w.heap.size 103 i0 (G #[I 0,ze,I 0]) 3 32 underlying51 hi bm bg bi rfl qh _ _ _ ?_ (HO.o.row.alloc _) ⟨wn.heap.size,0,N⟩ 1 1 [I (2+4*(y2:Int)),ze,I 0] ?_ rfl (World.news_of_block (cs:=#[I (2+4*(y2:Int)),ze,I 0]) (t:=103) (fr:=(0,0)) (Bf _ _)) (λu hu=>Bk ([⟨(2+4*(y2:Int)),⟨#[]⟩,0⟩]:L I3) u hu) qn qg (by have:=HK.o.1.size;simp;omega) ?_;(focus(first|rfl|(simp[Act.eval];done)));(focus(first|rfl|(simp[Act.eval];done)));intro v8 w8 an ag be;obtain⟨g8,c8,rfl,co,cl⟩:=Ow.app (aN _ _) HO.o HK.o hB qg (js:=[⟨(2+4*(y2:Int)),⟨#[]⟩,0⟩]) (k:=1) rfl rfl qi (by intro x hx;simp at hx;subst hx;first|(simp only;omega)|(show 0<=50000;omega)) an ag;have HO:Hd (Ow w w8 _ _ _ _):=co;have HK:Hd (Ba B R a len cap p _ w w8):=cl;clear co cl an ag be));exact bR (v:=J (p_ g8) _ c8) qbc rfl (Je HO.o HK.o (by first|omega|(simp;done)|(simp;omega)) (by first|omega|(simp;done)|(simp;omega)) (by first|omega|(simp;done)|(simp;omega)))
  ·have T1:Hd True:=trivial;have R1:Hd True:=trivial;have P3:Hd True:=trivial;have P4:Hd True:=trivial;go_wp2_with (first|(clear T1;go_at_call 84;obtain⟨h1,p',h2,h3⟩:=HK.o;refine(HV.o B R a len cap p' _ _ h3 (zo h1.size) qg qg qg).mono ?_;rintro e wn ⟨g21,wt,n8,rfl,vz,J8,hjL1,ph⟩;have HO:Hd (Ow w wn _ _ _ _):=HO.o.gb ph.1 qg;have HK:Hd (Ba B R a len cap p _ w wn):=Ba.then h1 h2 ph;have M9:Hd (Ow _ wn g21 n8.length wt n8):=vz;clear h1 h2 h3 vz ph)|(clear R1;at_builtin;refine wpList_append_own _ rfl _ _ 51 rfl w.heap.size 103 i0 (G #[I 0,ze,I 0]) 3 32 underlying51 hi bm bg bi rfl qh _ _ _ ?_ HO.o.row ⟨g21,0,N⟩ n8.length wt (Dd n8) ?_ (Ch n8) (λj u hu=>M9.o.row.cells rfl j u hu) (Bk n8) qn qg (zo HK.o.1.size) ?_;(focus(first|rfl|(simp[Act.eval];done)));(focus(first|rfl|(simp[Act.eval];done)));intro v8 w8 an ag be;obtain⟨g8,c8,rfl,co,cl⟩:=Ow.app (Below.refl _ _) HO.o HK.o hB qg (js:=n8) rfl rfl J8 M9.o.tx an ag;have HO:Hd (Ow w w8 _ _ _ _):=co;have HK:Hd (Ba B R a len cap p _ w w8):=cl;clear co cl an ag be M9)|(clear P3;go_at_call 14;refine(HK.o.pick qg _ qg qg).mono ?_;rintro e wn ⟨y3,rfl,hy3,hk,hg⟩;have HO:Hd (Ow w wn _ _ _ _):=HO.o.gb hg qg;have HK:Hd (Ba B R a len cap p _ w wn):=hk;clear hk hg)|(clear P4;go_at_call 14;refine(HK.o.pick qg _ qg qg).mono ?_;rintro e wn ⟨y4,rfl,hy4,hk,hg⟩;have HO:Hd (Ow w wn _ _ _ _):=HO.o.gb hg qg;have HK:Hd (Ba B R a len cap p _ w wn):=hk;clear hk hg)|(go_at_call 71;refine(Er _ _ _).mono ?_;rintro e wn ⟨rfl,hb⟩;have HO:Hd (Ow w wn _ _ _ _):=HO.o.bl hb;have HK:Hd (Ba B R a len cap p _ w wn):=HK.o.bl hB hb;clear hb)|(at_builtin;refine wpList_append_own _ rfl _ _ 51 rfl w.heap.size 103 i0 (G #[I 0,ze,I 0]) 3 32 underlying51 hi bm bg bi rfl qh _ _ _ ?_ (HO.o.row.alloc _) ⟨wn.heap.size,0,N⟩ 1 1 [I (3+(y3:Int)),ze,I (y4:Int)] ?_ rfl (World.news_of_block (cs:=#[I (3+(y3:Int)),ze,I (y4:Int)]) (t:=103) (fr:=(0,0)) (Bf _ _)) (λu hu=>Bk ([⟨(3+(y3:Int)),⟨#[]⟩,(y4:Int)⟩]:L I3) u hu) qn qg (by have:=HK.o.1.size;simp;omega) ?_;(focus(first|rfl|(simp[Act.eval];done)));(focus(first|rfl|(simp[Act.eval];done)));intro v8 w8 an ag be;obtain⟨g8,c8,rfl,co,cl⟩:=Ow.app (aN _ _) HO.o HK.o hB qg (js:=[⟨(3+(y3:Int)),⟨#[]⟩,(y4:Int)⟩]) (k:=1) rfl rfl qi (by intro x hx;simp at hx;subst hx;first|(simp only;omega)|(show 0<=50000;omega)) an ag;have HO:Hd (Ow w w8 _ _ _ _):=co;have HK:Hd (Ba B R a len cap p _ w w8):=cl;clear co cl an ag be));exact bR (v:=J (p_ g8) _ c8) qbc rfl (Je HO.o HK.o (by first|omega|(simp;done)|(simp;omega)) (by first|omega|(simp;done)|(simp;omega)) (by first|omega|(simp;done)|(simp;omega)))
  iterate 2
   ·have T1:Hd True:=trivial;have R1:Hd True:=trivial;have T2:Hd True:=trivial;have R2:Hd True:=trivial;have T3:Hd True:=trivial;have R3:Hd True:=trivial;have Q1:Hd True:=trivial;have Q2:Hd True:=trivial;have S1:Hd True:=trivial;have S2:Hd True:=trivial;go_wp2_with (first|(clear T1;go_at_call 84;obtain⟨h1,p',h2,h3⟩:=HK.o;refine(HV.o B R a len cap p' _ _ h3 (zo h1.size) qg qg qg).mono ?_;rintro e wn ⟨g21,wt,n8,rfl,vz,J8,hjL1,ph⟩;have HO:Hd (Ow w wn _ _ _ _):=HO.o.gb ph.1 qg;have HK:Hd (Ba B R a len cap p _ w wn):=Ba.then h1 h2 ph;have M9:Hd (Ow _ wn g21 n8.length wt n8):=vz;clear h1 h2 h3 vz ph)|(clear R1;at_builtin;refine wpList_append_own _ rfl _ _ 51 rfl w.heap.size 103 i0 (G #[I 0,ze,I 0]) 3 32 underlying51 hi bm bg bi rfl qh _ _ _ ?_ HO.o.row ⟨g21,0,N⟩ n8.length wt (Dd n8) ?_ (Ch n8) (λj u hu=>M9.o.row.cells rfl j u hu) (Bk n8) qn qg (zo HK.o.1.size) ?_;(focus(first|rfl|(simp[Act.eval];done)));(focus(first|rfl|(simp[Act.eval];done)));intro v8 w8 an ag be;obtain⟨g8,c8,rfl,co,cl⟩:=Ow.app (Below.refl _ _) HO.o HK.o hB qg (js:=n8) rfl rfl J8 M9.o.tx an ag;have HO:Hd (Ow w w8 _ _ _ _):=co;have HK:Hd (Ba B R a len cap p _ w w8):=cl;clear co cl an ag be M9)|(clear T2;go_at_call 84;obtain⟨h1,p',h2,h3⟩:=HK.o;refine(HV.o B R a len cap p' _ _ h3 (zo h1.size) qg qg qg).mono ?_;rintro e wn ⟨g22,uz,xk,rfl,vz,hj02,hjL2,ph⟩;have HO:Hd (Ow w wn _ _ _ _):=HO.o.gb ph.1 qg;have HK:Hd (Ba B R a len cap p _ w wn):=Ba.then h1 h2 ph;have HJ2:Hd (Ow _ wn g22 xk.length uz xk):=vz;clear h1 h2 h3 vz ph)|(clear R2;at_builtin;refine wpList_append_own _ rfl _ _ 51 rfl w.heap.size 103 i0 (G #[I 0,ze,I 0]) 3 32 underlying51 hi bm bg bi rfl qh _ _ _ ?_ HO.o.row ⟨g22,0,N⟩ xk.length uz (Dd xk) ?_ (Ch xk) (λj u hu=>HJ2.o.row.cells rfl j u hu) (Bk xk) qn qg (zo HK.o.1.size) ?_;(focus(first|rfl|(simp[Act.eval];done)));(focus(first|rfl|(simp[Act.eval];done)));intro v8 w8 an ag be;obtain⟨g8,c8,rfl,co,cl⟩:=Ow.app (Below.refl _ _) HO.o HK.o hB qg (js:=xk) rfl rfl hj02 HJ2.o.tx an ag;have HO:Hd (Ow w w8 _ _ _ _):=co;have HK:Hd (Ba B R a len cap p _ w w8):=cl;clear co cl an ag be HJ2)|(clear T3;go_at_call 84;obtain⟨h1,p',h2,h3⟩:=HK.o;refine(HV.o B R a len cap p' _ _ h3 (zo h1.size) qg qg qg).mono ?_;rintro e wn ⟨g23,c23,js3,rfl,vz,hj03,hjL3,ph⟩;have HO:Hd (Ow w wn _ _ _ _):=HO.o.gb ph.1 qg;have HK:Hd (Ba B R a len cap p _ w wn):=Ba.then h1 h2 ph;have HJ3:Hd (Ow _ wn g23 js3.length c23 js3):=vz;clear h1 h2 h3 vz ph)|(clear R3;at_builtin;refine wpList_append_own _ rfl _ _ 51 rfl w.heap.size 103 i0 (G #[I 0,ze,I 0]) 3 32 underlying51 hi bm bg bi rfl qh _ _ _ ?_ HO.o.row ⟨g23,0,N⟩ js3.length c23 (Dd js3) ?_ (Ch js3) (λj u hu=>HJ3.o.row.cells rfl j u hu) (Bk js3) qn qg (zo HK.o.1.size) ?_;(focus(first|rfl|(simp[Act.eval];done)));(focus(first|rfl|(simp[Act.eval];done)));intro v8 w8 an ag be;obtain⟨g8,c8,rfl,co,cl⟩:=Ow.app (Below.refl _ _) HO.o HK.o hB qg (js:=js3) rfl rfl hj03 HJ3.o.tx an ag;have HO:Hd (Ow w w8 _ _ _ _):=co;have HK:Hd (Ba B R a len cap p _ w w8):=cl;clear co cl an ag be HJ3)|(clear S1;go_at_call 93;refine(Pt _ _).mono ?_;rintro e wn ⟨⟨m1,rfl⟩,rfl⟩;obtain⟨ho,hk,⟨vo1,hvo1⟩,hfo1⟩:=HO.o.setN HK.o hB qg (n8.length) qg m1;have HO:Hd (Ow w _ _ _ _ _):=ho;have HK:Hd (Ba B R a len cap p _ w _):=hk;clear ho hk)|(clear S2;go_at_call 93;refine(Pt _ _).mono ?_;rintro e wn ⟨⟨m2,rfl⟩,rfl⟩;obtain⟨ho,hk,⟨vo2,hvo2⟩,hfo2⟩:=HO.o.setN HK.o hB qg (n8.length+1+xk.length) qg m2;have HO:Hd (Ow w _ _ _ _ _):=ho;have HK:Hd (Ba B R a len cap p _ w _):=hk;clear ho hk)|(go_at_call 71;refine(Er _ _ _).mono ?_;rintro e wn ⟨rfl,hb⟩;have HO:Hd (Ow w wn _ _ _ _):=HO.o.bl hb;have HK:Hd (Ba B R a len cap p _ w wn):=HK.o.bl hB hb;clear hb)|(clear Q1;at_builtin;refine wpList_append_own _ rfl _ _ 51 rfl w.heap.size 103 i0 (G #[I 0,ze,I 0]) 3 32 underlying51 hi bm bg bi rfl qh _ _ _ ?_ (HO.o.row.alloc _) ⟨wn.heap.size,0,N⟩ 1 1 [I 11,ze,I 0] ?_ rfl (World.news_of_block (cs:=#[I 11,ze,I 0]) (t:=103) (fr:=(0,0)) (Bf _ _)) (λu hu=>Bk ([⟨11,⟨#[]⟩,0⟩]:L I3) u hu) qn qg (by have:=HK.o.1.size;simp;omega) ?_;(focus(first|rfl|(simp[Act.eval];done)));(focus(first|rfl|(simp[Act.eval];done)));intro v8 w8 an ag be;obtain⟨g8,c8,rfl,co,cl⟩:=Ow.app (aN _ _) HO.o HK.o hB qg (js:=[⟨11,⟨#[]⟩,0⟩]) (k:=1) rfl rfl qi (by intro x hx;simp at hx;subst hx;first|(simp only;omega)|(show 0<=50000;omega)) an ag;have HO:Hd (Ow w w8 _ _ _ _):=co;have HK:Hd (Ba B R a len cap p _ w w8):=cl;clear co cl an ag be)|(clear Q2;at_builtin;refine wpList_append_own _ rfl _ _ 51 rfl w.heap.size 103 i0 (G #[I 0,ze,I 0]) 3 32 underlying51 hi bm bg bi rfl qh _ _ _ ?_ (HO.o.row.alloc _) ⟨wn.heap.size,0,N⟩ 1 1 [I 10,ze,I 0] ?_ rfl (World.news_of_block (cs:=#[I 10,ze,I 0]) (t:=103) (fr:=(0,0)) (Bf _ _)) (λu hu=>Bk ([⟨10,⟨#[]⟩,0⟩]:L I3) u hu) qn qg (by have:=HK.o.1.size;simp;omega) ?_;(focus(first|rfl|(simp[Act.eval];done)));(focus(first|rfl|(simp[Act.eval];done)));intro v8 w8 an ag be;obtain⟨g8,c8,rfl,co,cl⟩:=Ow.app (aN _ _) HO.o HK.o hB qg (js:=[⟨10,⟨#[]⟩,0⟩]) (k:=1) rfl rfl qi (by intro x hx;simp at hx;subst hx;first|(simp only;omega)|(show 0<=50000;omega)) an ag;have HO:Hd (Ow w w8 _ _ _ _):=co;have HK:Hd (Ba B R a len cap p _ w w8):=cl;clear co cl an ag be));exact bR (v:=J (p_ g8) _ c8) qbc rfl (Je HO.o HK.o (by first|omega|(simp;done)|(simp;omega)) (by first|omega|(simp;done)|(simp;omega)) (by first|omega|(simp;done)|(simp;omega)))
theorem val0:Sj 0 25 4 75000 50000:=Ik 0 0 0 75000 75030 50000 50004 qg qg qg qg qg qg qg (λh=>qg)
theorem val1:Sj 1 100 16 74000 40000:=Ik 1 25 4 74000 75000 40000 50000 qg qg qg qg qg qg qg (λ_=>val0)
theorem val2:Sj 2 325 52 73000 30000:=Ik 2 100 16 73000 74000 30000 40000 qg qg qg qg qg qg qg (λ_=>val1)
theorem val3:Sj 3 1000 160 72000 20000:=Ik 3 325 52 72000 73000 20000 30000 qg qg qg qg qg qg qg (λ_=>val2)
theorem Ow.lit{w:E}{cs:Array Z}(hb:w0.heap.size<=w.heap.size)(hc:cs.toList=Dd is)(hn:n=is.length)(hl:n<=1000)(ht:∀x∈is,x.text.size<=50000):Ow w0 (w.alloc (.cells cs 103)) w.heap.size n n is:=by
 subst hn
 refine⟨rfl,?_,ht⟩
 have:=World.ownsRow_lit (base:=w0.heap.size) (e:=103) (size:=3) w cs is.length hb qn (by rw[<- Array.length_toList,hc,Ch])
 rw[hc]at this
 exact this
theorem Xd(n:X)(w:E)(hn:n<=5000):Calls Tryz.prog 85 #[.int .i64 n] w λe w'=>∃(g:X)(is:L I3),e=H (.slice (M ⟨g,0,N⟩) 7 7)/\Ow w w' g 7 7 is/\Below w.heap.size w w':=by
 have HB:Hd (Below w.heap.size w w):=Below.refl _ _
 go_enter Tryz.func85,Tryz.ntmps85
 go_wp2_with (first|(go_at_call 15;refine(Ha _ n _ qh hn).mono ?_;rintro e wx ⟨s,rfl,hs,hw⟩;rw[hw];clear hw wx)|(go_at_call 69;refine(Cm _ _).mono ?_;rintro e wn ⟨rfl,hb⟩;have HB:Hd (Below w.heap.size w wn):=HB.o.trans (hb.mono HB.o.size);clear hb)|(go_at_call 70;refine(Bu _ _).mono ?_;rintro e wn ⟨rfl,hb⟩;have HB:Hd (Below w.heap.size w wn):=HB.o.trans (hb.mono HB.o.size);clear hb)|(go_at_call 71;refine(Er _ _ _).mono ?_;rintro e wn ⟨rfl,hb⟩;have HB:Hd (Below w.heap.size w wn):=HB.o.trans (hb.mono HB.o.size);clear hb))
 have iz:s.size<=50000:=by rw[hs];exact Nat.le_trans (Nat.mul_le_mul (show(⟨#[97,32]⟩:ByteArray).size<=2 from qh) hn) qg
 exact bR (v:=.slice (M ⟨wn.heap.size,0,N⟩) 7 7) (by simp[results,Tryz.results85,go_sem]) rfl ⟨wn.heap.size,[⟨1,s,0⟩,⟨7,⟨#[]⟩,0⟩,⟨5,⟨#[]⟩,0⟩,⟨13,⟨#[]⟩,0⟩,⟨9,⟨#[]⟩,0⟩,⟨4,⟨#[]⟩,2⟩,⟨10,⟨#[]⟩,1⟩],rfl,Ow.lit HB.o.size rfl rfl qg (by intro x hx;simp at hx;rcases hx with rfl|rfl|rfl|rfl|rfl|rfl|rfl<;>first|(simp only;omega)|(show 0<=50000;omega)),HB.o.alloc HB.o.size _⟩
theorem Ow.base{w:E}{c:X}(h:Ow w1 w g n c is)(hle:w0.heap.size<=w1.heap.size):Ow w0 w g n c is:=by
 refine⟨h.ln,⟨h.row.1,?_⟩,h.tx⟩
 rcases h.row.2 with k|⟨g1,cap,cur,e1,hg,r⟩
 ·exact Or.inl k
 ·exact Or.inr ⟨g1,cap,cur,e1,qg,r⟩
theorem Ow.row3{w:E}{c:X}(h:Ow w0 w g n c is):Dl w (p_ g) is:=λi hi=>by
 have hl:=h.ln
 have e:∀j,j<3->w.cell? ⟨g,i*3+j,N⟩=(Gl (ix is i))[j]?:=λj hj=>by rw[h.row.cellAt (i*3+j) qg,Fa is i j hi hj]
 refine⟨g,0,rfl,?_,?_,?_⟩
 ·have:=e 0 qg;rw[Nat.zero_add];exact this
 ·have:=e 1 qg;rw[Nat.zero_add];exact this
 ·have:=e 2 qg;rw[Nat.zero_add];exact this
theorem Ow.short{w:E}{c:X}(h:Ow w0 w g n c is)(i:X):(ix is i).text.size<=50000:=by
 rcases Nat.lt_or_ge i is.length with q|q
 ·have e:ix is i=is[i]:=qce;rw[e];exact h.tx _ (List.getElem_mem q)
 ·have e:ix is i=Go.Proofs.YtoihflimijabjaaGreatDoor.i0:=qce;rw[e];exact Nat.zero_le _
def ProgP(B R:X)(a:Option Addr)(len cap p K:X)(w:E)(e:Ending)(w':E):Prop:=
 ∃(g n c:X)(is:L I3),e=H (G #[J (p_ g) n c])/\Ow w w' g n c is/\0<n/\n<=400/\Ba B R a len cap p K w w'
theorem Gi{len cap K:X}{w:E}{c:X}{o:Obj}(ew:u.alloc o=w)(hB:B<=u.heap.size)(ho:Ow w V g n c is)(hk:Ba B R a len cap p K1 w V)(h0:0<n)(hL:n<=400)(hK:K1<=K)(x:Z):ProgP B R a len cap p K u (H (G #[J (p_ g) n c])) (V.setCell ⟨u.heap.size,0,N⟩ x):=by
 have hw:w.heap.size=u.heap.size+1:=qcv
 obtain⟨h1,p',h2,h3⟩:=hk
 have hs:=h1.size
 have ik:Ow w (V.setCell ⟨u.heap.size,0,N⟩ x) g n c is:=⟨ho.ln,Ff ho.row (λb hb _=>hC V ⟨u.heap.size,0,N⟩ x b qj),ho.tx⟩
 have hu:u.grownBy w (M R):=by rw[<- ew];exact World.grownBy_alloc _ _ _
 refine⟨g,n,c,is,rfl,ik.base qg,h0,hL,Fq (Dr hu h1) (Bp _ _ _ _) (by intro k hk;cases hk;exact Or.inr (Nat.le_refl _)),p',qg,h3.kept qg (Bp _ _ _ _) (by intro k hk;cases hk;exact hB)⟩
theorem box_cell{w:E}{x:Z}{T:TypeId}(ew:u.alloc (O #[x] T)=w)(hg:w.grownBy V (M R))(hR:R<u.heap.size):V.cell? ⟨u.heap.size,0,N⟩=M x/\V.frozen? ⟨u.heap.size,0,N⟩=false/\∀y,(V.setCell ⟨u.heap.size,0,N⟩ y).cell? ⟨u.heap.size,0,N⟩=M y:=by
 have e:V.heap[u.heap.size]?=M (O #[x] T (0,0)):=by
  rw[hg.block _ qcv (λe=>qbu),<- ew];exact Bf _ _
 exact qjr
theorem Nj(B R:X)(a:Option Addr)(len cap p:X)(u:E)(h:Rd B u R a len cap p)(zh:B<=u.heap.size)(hp:p<=60000):Calls Tryz.prog 68 #[.pointer (M ⟨R,0,N⟩)] u λe w'=>ProgP B R a len cap p 1300 u e w':=by
 have P8:=h.lt
 obtain⟨i0,hi,bm,bg,bi⟩:=info_parts Tryz.info80D
 obtain⟨w,ew⟩:∃w,u.alloc (.cells #[.slice N 0 0] 53)=w:=⟨_,rfl⟩
 have hw:w.heap.size=u.heap.size+1:=qcv
 have HWS:Hd (w.heap.size=u.heap.size+1):=hw
 have hB:B<=w.heap.size:=qg
 have hwR:R<w.heap.size:=qg
 have HK:Hd (Ba B R a len cap p 0 w w):=⟨Im _ _,p,Nat.le_refl _,by rw[<- ew];exact h.bl zh (aN _ _)⟩
 have EW:Hd (u.alloc (.cells #[.slice N 0 0] 53)=w):=ew
 have vk:Hd (∀V,w.grownBy V (M R)->V.cell? ⟨u.heap.size,0,N⟩=M (.slice N 0 0)/\V.frozen? ⟨u.heap.size,0,N⟩=false/\∀y,(V.setCell ⟨u.heap.size,0,N⟩ y).cell? ⟨u.heap.size,0,N⟩=M y):=λV hV=>box_cell ew hV qg
 clear h hw
 go_enter Tryz.func68,Tryz.ntmps68
 go_wp2_with fail
 refine(HK.o.pick qg _ qg qg).mono ?_
 rintro e w1 ⟨y,rfl,hy,hk,hg⟩
 have HV:Hd (∀(V:E)(p':X),Rd B V R a len cap p'->B<=V.heap.size->p'<=72000->Calls Tryz.prog 84 #[.pointer (M ⟨R,0,N⟩),.int .i64 0,.int .i64 (2+(y:Int))] V λe w'=>ValP B R a len cap p' 1000 160 V e w'):=by
  intro V p' h1 h2 h3
  rcases(show y=0\/y=1 from qg)with rfl|rfl
  ·refine(val2 B R a len cap p' 0 V h1 h2 qg qg qg).mono ?_;rintro e w' ⟨g,c,is,rfl,ho,h0,hL,hk⟩;exact⟨g,c,is,rfl,ho,h0,qg,hk.more qg⟩
  ·exact val3 B R a len cap p' 0 V h1 h2 qg qg qg
 have HK:Hd (Ba B R a len cap p 1 w w1):=hk
 clear hk hg
 go_wp2_with fail
 obtain⟨h1,p',h2,h3⟩:=HK.o
 refine(HV.o _ p' h3 (by have:=h1.size;omega) qg).mono ?_
 rintro e w2 ⟨g,c,is,rfl,ow,ni,hnL,rk⟩
 have HO:Hd (Ow w w2 g is.length c is):=ow.base h1.size
 have HK:Hd (Ba B R a len cap p 1001 w w2):=Ba.then h1 h2 rk
 obtain⟨n,en⟩:∃n,is.length=n:=⟨_,rfl⟩
 rw[en]at HO ni hnL ⊢
 clear h1 h2 h3 ow rk HV en
 go_wp2_with fail
 refine(HK.o.pick qg _ qg qg).mono ?_
 rintro e wn ⟨k,rfl,hk24,hk,hg⟩
 have HO:Hd (Ow w wn g n c is):=HO.o.gb hg qg
 have HK:Hd (Ba B R a len cap p 1002 w wn):=hk
 clear hk hg
 by_cases h7:7<=k
 ·have k0:((k:Int) == 0)=false:=qj;have k1:((k:Int) == 1)=false:=qj;have k2:((k:Int) == 2)=false:=qj;have k3:((k:Int) == 3)=false:=qj;have k4:((k:Int) == 4)=false:=qj;have k5:((k:Int) == 5)=false:=qj;have k6:((k:Int) == 6)=false:=qj
  go_upto_region 18 with(first|(go_at_call 70;refine(Bu _ _).mono ?_;rintro e wn ⟨rfl,hb⟩;have HO:Hd (Ow w wn _ _ _ _):=HO.o.bl hb;have HK:Hd (Ba B R a len cap p _ w wn):=HK.o.bl hB hb;clear hb)|(at_builtin;refine wpList_append_own _ rfl _ _ 51 rfl w.heap.size 103 i0 (.agg #[.int .i64 0,.string ⟨#[]⟩,.int .i64 0]) 3 32 Tryz.underlying51 hi bm bg bi rfl qh _ _ _ ?_ (HO.o.row.alloc _) ⟨wn.heap.size,0,N⟩ 1 1 [.int .i64 15,.string ⟨#[]⟩,.int .i64 0] ?_ rfl (World.news_of_block (cs:=#[.int .i64 15,.string ⟨#[]⟩,.int .i64 0]) (t:=103) (fr:=(0,0)) (Bf _ _)) (λu hu=>Bk ([⟨15,⟨#[]⟩,0⟩]:L I3) u hu) qn qg (by have:=HK.o.1.size;simp;omega) ?_;(focus(first|rfl|(simp[Act.eval];done)));(focus(first|rfl|(simp[Act.eval];done)));intro v8 w8 an ag be;obtain⟨g8,c8,rfl,co,cl⟩:=Ow.app (aN _ _) HO.o HK.o hB qg (js:=[⟨15,⟨#[]⟩,0⟩]) (k:=1) rfl rfl qi (by intro x hx;simp at hx;subst hx;first|(simp only;omega)|(show 0<=50000;omega)) an ag;have HO:Hd (Ow w w8 _ _ _ _):=co;have HK:Hd (Ba B R a len cap p _ w w8):=cl;clear co cl an ag be))
  have hN4:n+1<=400:=qg
  by_cases wo:(200:Int)<(n:Int)+1
  ·exfalso;omega
  ·have vd:Hd (∀V,Below w8.heap.size w8 V->True):=λ_ _=>trivial;obtain⟨js,ejs⟩:∃js,(is++[⟨15,⟨#[]⟩,0⟩]:L I3)=js:=⟨_,rfl⟩;rw[ejs]at HO;have gz:=HO.o.ln
   have B5:Hd (Calls Tryz.prog 35 #[.agg #[.slice (M ⟨g8,0,N⟩) (n+1) c8]] w8 λe w'=>Below w8.heap.size w8 w'/\e=H (.bool (Aq js))):=by
    have q:=Ci (M ⟨g8,0,N⟩) c8 js w8 HO.o.row3 qg (λi=>by have:=HO.o.short i;omega);rw[<- gz]at q;exact q
   exact qgx
 ·rcases(show k=0\/k=1\/k=2\/k=3\/k=4\/k=5\/k=6 from qg)with rfl|rfl|rfl|rfl|rfl|rfl|rfl
  ·have Q1:Hd True:=trivial;have Q2:Hd True:=trivial;go_upto_region 18 with(first|(go_at_call 70;refine(Bu _ _).mono ?_;rintro e wn ⟨rfl,hb⟩;have HO:Hd (Ow w wn _ _ _ _):=HO.o.bl hb;have HK:Hd (Ba B R a len cap p _ w wn):=HK.o.bl hB hb;clear hb)|(clear Q1;at_builtin;refine wpList_append_own _ rfl _ _ 51 rfl w.heap.size 103 i0 (.agg #[.int .i64 0,.string ⟨#[]⟩,.int .i64 0]) 3 32 Tryz.underlying51 hi bm bg bi rfl qh _ _ _ ?_ (HO.o.row.alloc _) ⟨wn.heap.size,0,N⟩ 1 1 [.int .i64 14,.string ⟨#[]⟩,.int .i64 0] ?_ rfl (World.news_of_block (cs:=#[.int .i64 14,.string ⟨#[]⟩,.int .i64 0]) (t:=103) (fr:=(0,0)) (Bf _ _)) (λu hu=>Bk ([⟨14,⟨#[]⟩,0⟩]:L I3) u hu) qn qg (by have:=HK.o.1.size;simp;omega) ?_;(focus(first|rfl|(simp[Act.eval];done)));(focus(first|rfl|(simp[Act.eval];done)));intro v8 w8 an ag be;obtain⟨g8,c8,rfl,co,cl⟩:=Ow.app (aN _ _) HO.o HK.o hB qg (js:=[⟨14,⟨#[]⟩,0⟩]) (k:=1) rfl rfl qi (by intro x hx;simp at hx;subst hx;first|(simp only;omega)|(show 0<=50000;omega)) an ag;have HO:Hd (Ow w w8 _ _ _ _):=co;have HK:Hd (Ba B R a len cap p _ w w8):=cl;clear co cl an ag be)|(clear Q2;at_builtin;refine wpList_append_own _ rfl _ _ 51 rfl w.heap.size 103 i0 (.agg #[.int .i64 0,.string ⟨#[]⟩,.int .i64 0]) 3 32 Tryz.underlying51 hi bm bg bi rfl qh _ _ _ ?_ (HO.o.row.alloc _) ⟨wn.heap.size,0,N⟩ 1 1 [.int .i64 15,.string ⟨#[]⟩,.int .i64 0] ?_ rfl (World.news_of_block (cs:=#[.int .i64 15,.string ⟨#[]⟩,.int .i64 0]) (t:=103) (fr:=(0,0)) (Bf _ _)) (λu hu=>Bk ([⟨15,⟨#[]⟩,0⟩]:L I3) u hu) qn qg (by have:=HK.o.1.size;simp;omega) ?_;(focus(first|rfl|(simp[Act.eval];done)));(focus(first|rfl|(simp[Act.eval];done)));intro v8 w8 an ag be;obtain⟨g8,c8,rfl,co,cl⟩:=Ow.app (aN _ _) HO.o HK.o hB qg (js:=[⟨15,⟨#[]⟩,0⟩]) (k:=1) rfl rfl qi (by intro x hx;simp at hx;subst hx;first|(simp only;omega)|(show 0<=50000;omega)) an ag;have HO:Hd (Ow w w8 _ _ _ _):=co;have HK:Hd (Ba B R a len cap p _ w w8):=cl;clear co cl an ag be));have hN4:n+1+1<=400:=qg
   by_cases wo:(200:Int)<(n:Int)+1+1
   ·exfalso;omega
   ·have vd:Hd (∀V,Below w8.heap.size w8 V->True):=λ_ _=>trivial;obtain⟨js,ejs⟩:∃js,(is++[⟨14,⟨#[]⟩,0⟩]++[⟨15,⟨#[]⟩,0⟩]:L I3)=js:=⟨_,rfl⟩;exact qdt
  ·have Q1:Hd True:=trivial;have Q2:Hd True:=trivial;go_upto_region 18 with(first|(go_at_call 70;refine(Bu _ _).mono ?_;rintro e wn ⟨rfl,hb⟩;have HO:Hd (Ow w wn _ _ _ _):=HO.o.bl hb;have HK:Hd (Ba B R a len cap p _ w wn):=HK.o.bl hB hb;clear hb)|(go_at_call 71;refine(Er _ _ _).mono ?_;rintro e wn ⟨rfl,hb⟩;have HO:Hd (Ow w wn _ _ _ _):=HO.o.bl hb;have HK:Hd (Ba B R a len cap p _ w wn):=HK.o.bl hB hb;clear hb)|(clear Q1;at_builtin;refine wpList_append_own _ rfl _ _ 51 rfl w.heap.size 103 i0 (.agg #[.int .i64 0,.string ⟨#[]⟩,.int .i64 0]) 3 32 Tryz.underlying51 hi bm bg bi rfl qh _ _ _ ?_ (HO.o.row.alloc _) ⟨wn.heap.size,0,N⟩ 1 1 [.int .i64 10,.string ⟨#[]⟩,.int .i64 0] ?_ rfl (World.news_of_block (cs:=#[.int .i64 10,.string ⟨#[]⟩,.int .i64 0]) (t:=103) (fr:=(0,0)) (Bf _ _)) (λu hu=>Bk ([⟨10,⟨#[]⟩,0⟩]:L I3) u hu) qn qg (by have:=HK.o.1.size;simp;omega) ?_;(focus(first|rfl|(simp[Act.eval];done)));(focus(first|rfl|(simp[Act.eval];done)));intro v8 w8 an ag be;obtain⟨g8,c8,rfl,co,cl⟩:=Ow.app (aN _ _) HO.o HK.o hB qg (js:=[⟨10,⟨#[]⟩,0⟩]) (k:=1) rfl rfl qi (by intro x hx;simp at hx;subst hx;first|(simp only;omega)|(show 0<=50000;omega)) an ag;have HO:Hd (Ow w w8 _ _ _ _):=co;have HK:Hd (Ba B R a len cap p _ w w8):=cl;clear co cl an ag be)|(clear Q2;at_builtin;refine wpList_append_own _ rfl _ _ 51 rfl w.heap.size 103 i0 (.agg #[.int .i64 0,.string ⟨#[]⟩,.int .i64 0]) 3 32 Tryz.underlying51 hi bm bg bi rfl qh _ _ _ ?_ (HO.o.row.alloc _) ⟨wn.heap.size,0,N⟩ 1 1 [.int .i64 15,.string ⟨#[]⟩,.int .i64 0] ?_ rfl (World.news_of_block (cs:=#[.int .i64 15,.string ⟨#[]⟩,.int .i64 0]) (t:=103) (fr:=(0,0)) (Bf _ _)) (λu hu=>Bk ([⟨15,⟨#[]⟩,0⟩]:L I3) u hu) qn qg (by have:=HK.o.1.size;simp;omega) ?_;(focus(first|rfl|(simp[Act.eval];done)));(focus(first|rfl|(simp[Act.eval];done)));intro v8 w8 an ag be;obtain⟨g8,c8,rfl,co,cl⟩:=Ow.app (aN _ _) HO.o HK.o hB qg (js:=[⟨15,⟨#[]⟩,0⟩]) (k:=1) rfl rfl qi (by intro x hx;simp at hx;subst hx;first|(simp only;omega)|(show 0<=50000;omega)) an ag;have HO:Hd (Ow w w8 _ _ _ _):=co;have HK:Hd (Ba B R a len cap p _ w w8):=cl;clear co cl an ag be));have hN4:n+1+1<=400:=qg
   by_cases wo:(200:Int)<(n:Int)+1+1
   ·exfalso;omega
   ·have vd:Hd (∀V,Below w8.heap.size w8 V->True):=λ_ _=>trivial;obtain⟨js,ejs⟩:∃js,(is++[⟨10,⟨#[]⟩,0⟩]++[⟨15,⟨#[]⟩,0⟩]:L I3)=js:=⟨_,rfl⟩;exact qdt
  ·have Q1:Hd True:=trivial;have Q2:Hd True:=trivial;go_upto_region 18 with(first|(go_at_call 70;refine(Bu _ _).mono ?_;rintro e wn ⟨rfl,hb⟩;have HO:Hd (Ow w wn _ _ _ _):=HO.o.bl hb;have HK:Hd (Ba B R a len cap p _ w wn):=HK.o.bl hB hb;clear hb)|(go_at_call 14;refine(HK.o.pick qg _ qg qg).mono ?_;rintro e wn ⟨y15,rfl,hy15,hk,hg⟩;have HO:Hd (Ow w wn _ _ _ _):=HO.o.gb hg qg;have HK:Hd (Ba B R a len cap p _ w wn):=hk;clear hk hg)|(clear Q1;at_builtin;refine wpList_append_own _ rfl _ _ 51 rfl w.heap.size 103 i0 (.agg #[.int .i64 0,.string ⟨#[]⟩,.int .i64 0]) 3 32 Tryz.underlying51 hi bm bg bi rfl qh _ _ _ ?_ (HO.o.row.alloc _) ⟨wn.heap.size,0,N⟩ 1 1 [.int .i64 (1+(y15:Int)),.string ⟨#[]⟩,.int .i64 0] ?_ rfl (World.news_of_block (cs:=#[.int .i64 (1+(y15:Int)),.string ⟨#[]⟩,.int .i64 0]) (t:=103) (fr:=(0,0)) (Bf _ _)) (λu hu=>Bk ([⟨(1+(y15:Int)),⟨#[]⟩,0⟩]:L I3) u hu) qn qg (by have:=HK.o.1.size;simp;omega) ?_;(focus(first|rfl|(simp[Act.eval];done)));(focus(first|rfl|(simp[Act.eval];done)));intro v8 w8 an ag be;obtain⟨g8,c8,rfl,co,cl⟩:=Ow.app (aN _ _) HO.o HK.o hB qg (js:=[⟨(1+(y15:Int)),⟨#[]⟩,0⟩]) (k:=1) rfl rfl qi (by intro x hx;simp at hx;subst hx;first|(simp only;omega)|(show 0<=50000;omega)) an ag;have HO:Hd (Ow w w8 _ _ _ _):=co;have HK:Hd (Ba B R a len cap p _ w w8):=cl;clear co cl an ag be)|(clear Q2;at_builtin;refine wpList_append_own _ rfl _ _ 51 rfl w.heap.size 103 i0 (.agg #[.int .i64 0,.string ⟨#[]⟩,.int .i64 0]) 3 32 Tryz.underlying51 hi bm bg bi rfl qh _ _ _ ?_ (HO.o.row.alloc _) ⟨wn.heap.size,0,N⟩ 1 1 [.int .i64 15,.string ⟨#[]⟩,.int .i64 0] ?_ rfl (World.news_of_block (cs:=#[.int .i64 15,.string ⟨#[]⟩,.int .i64 0]) (t:=103) (fr:=(0,0)) (Bf _ _)) (λu hu=>Bk ([⟨15,⟨#[]⟩,0⟩]:L I3) u hu) qn qg (by have:=HK.o.1.size;simp;omega) ?_;(focus(first|rfl|(simp[Act.eval];done)));(focus(first|rfl|(simp[Act.eval];done)));intro v8 w8 an ag be;obtain⟨g8,c8,rfl,co,cl⟩:=Ow.app (aN _ _) HO.o HK.o hB qg (js:=[⟨15,⟨#[]⟩,0⟩]) (k:=1) rfl rfl qi (by intro x hx;simp at hx;subst hx;first|(simp only;omega)|(show 0<=50000;omega)) an ag;have HO:Hd (Ow w w8 _ _ _ _):=co;have HK:Hd (Ba B R a len cap p _ w w8):=cl;clear co cl an ag be));clear hy15;have hN4:n+1+1<=400:=qg
   by_cases wo:(200:Int)<(n:Int)+1+1
   ·exfalso;omega
   ·have vd:Hd (∀V,Below w8.heap.size w8 V->True):=λ_ _=>trivial;obtain⟨js,ejs⟩:∃js,(is++[⟨(1+(y15:Int)),⟨#[]⟩,0⟩]++[⟨15,⟨#[]⟩,0⟩]:L I3)=js:=⟨_,rfl⟩;exact qdt
  ·go_upto_region 18 with(first|(go_at_call 69;refine(Cm _ _).mono ?_;rintro e wn ⟨rfl,hb⟩;have HO:Hd (Ow w wn _ _ _ _):=HO.o.bl hb;have HK:Hd (Ba B R a len cap p _ w wn):=HK.o.bl hB hb;clear hb)|(go_at_call 70;refine(Bu _ _).mono ?_;rintro e wn ⟨rfl,hb⟩;have HO:Hd (Ow w wn _ _ _ _):=HO.o.bl hb;have HK:Hd (Ba B R a len cap p _ w wn):=HK.o.bl hB hb;clear hb)|(go_at_call 71;refine(Er _ _ _).mono ?_;rintro e wn ⟨rfl,hb⟩;have HO:Hd (Ow w wn _ _ _ _):=HO.o.bl hb;have HK:Hd (Ba B R a len cap p _ w wn):=HK.o.bl hB hb;clear hb)|(at_builtin;refine wpList_append_own _ rfl _ _ 51 rfl w.heap.size 103 i0 (.agg #[.int .i64 0,.string ⟨#[]⟩,.int .i64 0]) 3 32 Tryz.underlying51 hi bm bg bi rfl qh _ _ _ ?_ (HO.o.row.alloc _) ⟨wn.heap.size,0,N⟩ 1 1 [.int .i64 15,.string ⟨#[]⟩,.int .i64 0] ?_ rfl (World.news_of_block (cs:=#[.int .i64 15,.string ⟨#[]⟩,.int .i64 0]) (t:=103) (fr:=(0,0)) (Bf _ _)) (λu hu=>Bk ([⟨15,⟨#[]⟩,0⟩]:L I3) u hu) qn qg (by have:=HK.o.1.size;simp;omega) ?_;(focus(first|rfl|(simp[Act.eval];done)));(focus(first|rfl|(simp[Act.eval];done)));intro v8 w8 an ag be;obtain⟨g8,c8,rfl,co,cl⟩:=Ow.app (aN _ _) HO.o HK.o hB qg (js:=[⟨15,⟨#[]⟩,0⟩]) (k:=1) rfl rfl qi (by intro x hx;simp at hx;subst hx;first|(simp only;omega)|(show 0<=50000;omega)) an ag;have HO:Hd (Ow w w8 _ _ _ _):=co;have HK:Hd (Ba B R a len cap p _ w w8):=cl;clear co cl an ag be))
   have HO:Hd (Ow w (wn.alloc (.cells #[.int .i64 1,.string ⟨#[97,98,99,100,101,102,103,104]⟩,.int .i64 0,.int .i64 7,.string ⟨#[]⟩,.int .i64 0,.int .i64 2,.string ⟨#[]⟩,.int .i64 0,.int .i64 10,.string ⟨#[]⟩,.int .i64 1] 103)) wn.heap.size 4 4 [⟨1,⟨#[97,98,99,100,101,102,103,104]⟩,0⟩,⟨7,⟨#[]⟩,0⟩,⟨2,⟨#[]⟩,0⟩,⟨10,⟨#[]⟩,1⟩]):=Ow.lit HK.o.1.size rfl rfl qg (by intro x hx;simp at hx;rcases hx with rfl|rfl|rfl|rfl<;>first|(simp only;omega)|(show 0<=50000;omega)|(simp only;decide));have HK:Hd (Ba B R a len cap p _ w (wn.alloc (.cells #[.int .i64 1,.string ⟨#[97,98,99,100,101,102,103,104]⟩,.int .i64 0,.int .i64 7,.string ⟨#[]⟩,.int .i64 0,.int .i64 2,.string ⟨#[]⟩,.int .i64 0,.int .i64 10,.string ⟨#[]⟩,.int .i64 1] 103))):=HK.o.bl hB (aN _ _);obtain⟨w8,e8⟩:∃w8,wn.alloc (.cells #[.int .i64 1,.string ⟨#[97,98,99,100,101,102,103,104]⟩,.int .i64 0,.int .i64 7,.string ⟨#[]⟩,.int .i64 0,.int .i64 2,.string ⟨#[]⟩,.int .i64 0,.int .i64 10,.string ⟨#[]⟩,.int .i64 1] 103)=w8:=⟨_,rfl⟩;rw[e8]at HO HK ⊢;obtain⟨g8,B3⟩:∃g8,wn.heap.size=g8:=⟨_,rfl⟩;rw[B3]at HO ⊢;clear e8 B3;have hN4:4<=400:=qg
   by_cases wo:(200:Int)<(4:Int)
   ·exfalso;omega
   ·have vd:Hd (∀V,Below w8.heap.size w8 V->True):=λ_ _=>trivial;obtain⟨js,ejs⟩:∃js,([⟨1,⟨#[97,98,99,100,101,102,103,104]⟩,0⟩,⟨7,⟨#[]⟩,0⟩,⟨2,⟨#[]⟩,0⟩,⟨10,⟨#[]⟩,1⟩]:L I3)=js:=⟨_,rfl⟩;exact qgu
  ·go_upto_region 18 with(first|(go_at_call 57;refine(HK.o.name hB qg).mono ?_;rintro e wn ⟨s,rfl,hs,hk,hg⟩;have HO:Hd (Ow w wn _ _ _ _):=HO.o.gb hg qg;have HK:Hd (Ba B R a len cap p _ w wn):=hk;clear hk hg)|(go_at_call 69;refine(Cm _ _).mono ?_;rintro e wn ⟨rfl,hb⟩;have HO:Hd (Ow w wn _ _ _ _):=HO.o.bl hb;have HK:Hd (Ba B R a len cap p _ w wn):=HK.o.bl hB hb;clear hb)|(go_at_call 70;refine(Bu _ _).mono ?_;rintro e wn ⟨rfl,hb⟩;have HO:Hd (Ow w wn _ _ _ _):=HO.o.bl hb;have HK:Hd (Ba B R a len cap p _ w wn):=HK.o.bl hB hb;clear hb)|(go_at_call 71;refine(Er _ _ _).mono ?_;rintro e wn ⟨rfl,hb⟩;have HO:Hd (Ow w wn _ _ _ _):=HO.o.bl hb;have HK:Hd (Ba B R a len cap p _ w wn):=HK.o.bl hB hb;clear hb)|(at_builtin;refine wpList_append_own _ rfl _ _ 51 rfl w.heap.size 103 i0 (.agg #[.int .i64 0,.string ⟨#[]⟩,.int .i64 0]) 3 32 Tryz.underlying51 hi bm bg bi rfl qh _ _ _ ?_ (HO.o.row.alloc _) ⟨wn.heap.size,0,N⟩ 1 1 [.int .i64 15,.string ⟨#[]⟩,.int .i64 0] ?_ rfl (World.news_of_block (cs:=#[.int .i64 15,.string ⟨#[]⟩,.int .i64 0]) (t:=103) (fr:=(0,0)) (Bf _ _)) (λu hu=>Bk ([⟨15,⟨#[]⟩,0⟩]:L I3) u hu) qn qg (by have:=HK.o.1.size;simp;omega) ?_;(focus(first|rfl|(simp[Act.eval];done)));(focus(first|rfl|(simp[Act.eval];done)));intro v8 w8 an ag be;obtain⟨g8,c8,rfl,co,cl⟩:=Ow.app (aN _ _) HO.o HK.o hB qg (js:=[⟨15,⟨#[]⟩,0⟩]) (k:=1) rfl rfl qi (by intro x hx;simp at hx;subst hx;first|(simp only;omega)|(show 0<=50000;omega)) an ag;have HO:Hd (Ow w w8 _ _ _ _):=co;have HK:Hd (Ba B R a len cap p _ w w8):=cl;clear co cl an ag be))
   have HO:Hd (Ow w (wn.alloc (.cells #[.int .i64 1,.string s,.int .i64 0,.int .i64 13,.string ⟨#[]⟩,.int .i64 0,.int .i64 9,.string ⟨#[]⟩,.int .i64 0,.int .i64 10,.string ⟨#[]⟩,.int .i64 0] 103)) wn.heap.size 4 4 [⟨1,s,0⟩,⟨13,⟨#[]⟩,0⟩,⟨9,⟨#[]⟩,0⟩,⟨10,⟨#[]⟩,0⟩]):=Ow.lit HK.o.1.size rfl rfl qg (by intro x hx;simp at hx;rcases hx with rfl|rfl|rfl|rfl<;>first|(simp only;omega)|(show 0<=50000;omega)|(simp only;decide));have HK:Hd (Ba B R a len cap p _ w (wn.alloc (.cells #[.int .i64 1,.string s,.int .i64 0,.int .i64 13,.string ⟨#[]⟩,.int .i64 0,.int .i64 9,.string ⟨#[]⟩,.int .i64 0,.int .i64 10,.string ⟨#[]⟩,.int .i64 0] 103))):=HK.o.bl hB (aN _ _);obtain⟨w8,e8⟩:∃w8,wn.alloc (.cells #[.int .i64 1,.string s,.int .i64 0,.int .i64 13,.string ⟨#[]⟩,.int .i64 0,.int .i64 9,.string ⟨#[]⟩,.int .i64 0,.int .i64 10,.string ⟨#[]⟩,.int .i64 0] 103)=w8:=⟨_,rfl⟩;rw[e8]at HO HK ⊢;obtain⟨g8,B3⟩:∃g8,wn.heap.size=g8:=⟨_,rfl⟩;rw[B3]at HO ⊢;clear e8 B3;have hN4:4<=400:=qg
   by_cases wo:(200:Int)<(4:Int)
   ·exfalso;omega
   ·have vd:Hd (∀V,Below w8.heap.size w8 V->True):=λ_ _=>trivial;obtain⟨js,ejs⟩:∃js,([⟨1,s,0⟩,⟨13,⟨#[]⟩,0⟩,⟨9,⟨#[]⟩,0⟩,⟨10,⟨#[]⟩,0⟩]:L I3)=js:=⟨_,rfl⟩;exact qgu
  ·go_upto_region 18 with(first|(go_at_call 69;refine(Cm _ _).mono ?_;rintro e wn ⟨rfl,hb⟩;have HO:Hd (Ow w wn _ _ _ _):=HO.o.bl hb;have HK:Hd (Ba B R a len cap p _ w wn):=HK.o.bl hB hb;clear hb)|(go_at_call 70;refine(Bu _ _).mono ?_;rintro e wn ⟨rfl,hb⟩;have HO:Hd (Ow w wn _ _ _ _):=HO.o.bl hb;have HK:Hd (Ba B R a len cap p _ w wn):=HK.o.bl hB hb;clear hb)|(go_at_call 71;refine(Er _ _ _).mono ?_;rintro e wn ⟨rfl,hb⟩;have HO:Hd (Ow w wn _ _ _ _):=HO.o.bl hb;have HK:Hd (Ba B R a len cap p _ w wn):=HK.o.bl hB hb;clear hb)|(at_builtin;refine wpList_append_own _ rfl _ _ 51 rfl w.heap.size 103 i0 (.agg #[.int .i64 0,.string ⟨#[]⟩,.int .i64 0]) 3 32 Tryz.underlying51 hi bm bg bi rfl qh _ _ _ ?_ (HO.o.row.alloc _) ⟨wn.heap.size,0,N⟩ 1 1 [.int .i64 15,.string ⟨#[]⟩,.int .i64 0] ?_ rfl (World.news_of_block (cs:=#[.int .i64 15,.string ⟨#[]⟩,.int .i64 0]) (t:=103) (fr:=(0,0)) (Bf _ _)) (λu hu=>Bk ([⟨15,⟨#[]⟩,0⟩]:L I3) u hu) qn qg (by have:=HK.o.1.size;simp;omega) ?_;(focus(first|rfl|(simp[Act.eval];done)));(focus(first|rfl|(simp[Act.eval];done)));intro v8 w8 an ag be;obtain⟨g8,c8,rfl,co,cl⟩:=Ow.app (aN _ _) HO.o HK.o hB qg (js:=[⟨15,⟨#[]⟩,0⟩]) (k:=1) rfl rfl qi (by intro x hx;simp at hx;subst hx;first|(simp only;omega)|(show 0<=50000;omega)) an ag;have HO:Hd (Ow w w8 _ _ _ _):=co;have HK:Hd (Ba B R a len cap p _ w w8):=cl;clear co cl an ag be))
   have HO:Hd (Ow w (wn.alloc (.cells #[.int .i64 1,.string ⟨#[115]⟩,.int .i64 0,.int .i64 10,.string ⟨#[]⟩,.int .i64 0] 103)) wn.heap.size 2 2 [⟨1,⟨#[115]⟩,0⟩,⟨10,⟨#[]⟩,0⟩]):=Ow.lit HK.o.1.size rfl rfl qg (by intro x hx;simp at hx;rcases hx with rfl|rfl<;>first|(simp only;omega)|(show 0<=50000;omega)|(simp only;decide));have HK:Hd (Ba B R a len cap p _ w (wn.alloc (.cells #[.int .i64 1,.string ⟨#[115]⟩,.int .i64 0,.int .i64 10,.string ⟨#[]⟩,.int .i64 0] 103))):=HK.o.bl hB (aN _ _);obtain⟨w8,e8⟩:∃w8,wn.alloc (.cells #[.int .i64 1,.string ⟨#[115]⟩,.int .i64 0,.int .i64 10,.string ⟨#[]⟩,.int .i64 0] 103)=w8:=⟨_,rfl⟩;rw[e8]at HO HK ⊢;obtain⟨g8,B3⟩:∃g8,wn.heap.size=g8:=⟨_,rfl⟩;rw[B3]at HO ⊢;clear e8 B3;have hN4:2<=400:=qg
   by_cases wo:(200:Int)<(2:Int)
   ·exfalso;omega
   ·have vd:Hd (∀V,Below w8.heap.size w8 V->True):=λ_ _=>trivial;obtain⟨js,ejs⟩:∃js,([⟨1,⟨#[115]⟩,0⟩,⟨10,⟨#[]⟩,0⟩]:L I3)=js:=⟨_,rfl⟩;rw[ejs]at HO;have gz:=HO.o.ln
    have B5:Hd (Calls Tryz.prog 35 #[.agg #[.slice (M ⟨g8,0,N⟩) (2) 2]] w8 λe w'=>Below w8.heap.size w8 w'/\e=H (.bool (Aq js))):=by
     have q:=Ci (M ⟨g8,0,N⟩) 2 js w8 HO.o.row3 qg (λi=>by have:=HO.o.short i;omega);rw[<- gz]at q;exact q
    clear gz ejs;go_wp2_with fail;refine B5.o.mono ?_;rintro e wn ⟨hb,rfl⟩;have HO:Hd (Ow w wn _ _ _ _):=HO.o.bl hb;have HK:Hd (Ba B R a len cap p _ w wn):=HK.o.bl hB hb;clear hb;obtain⟨bc,bf,bs⟩:=vk.o wn HK.o.1
    cases Aq js with
    | true=>
     go_wp2_with fail;exact bR (v:=.agg #[.slice (M ⟨g8,0,N⟩) (2) 2]) qav rfl (Gi EW.o zh HO.o HK.o qg qg qg _)
    | false=>
     exact qhf
  ·go_upto_region 14 with(first|(go_at_call 70;refine(Bu _ _).mono ?_;rintro e wn ⟨rfl,hb⟩;have HO:Hd (Ow w wn _ _ _ _):=HO.o.bl hb;have HK:Hd (Ba B R a len cap p _ w wn):=HK.o.bl hB hb;clear hb)|(at_builtin;refine wpList_append_own _ rfl _ _ 51 rfl w.heap.size 103 i0 (.agg #[.int .i64 0,.string ⟨#[]⟩,.int .i64 0]) 3 32 Tryz.underlying51 hi bm bg bi rfl qh _ _ _ ?_ (HO.o.row.alloc _) ⟨wn.heap.size,0,N⟩ 1 1 [.int .i64 15,.string ⟨#[]⟩,.int .i64 0] ?_ rfl (World.news_of_block (cs:=#[.int .i64 15,.string ⟨#[]⟩,.int .i64 0]) (t:=103) (fr:=(0,0)) (Bf _ _)) (λu hu=>Bk ([⟨15,⟨#[]⟩,0⟩]:L I3) u hu) qn qg (by have:=HK.o.1.size;simp;omega) ?_;(focus(first|rfl|(simp[Act.eval];done)));(focus(first|rfl|(simp[Act.eval];done)));intro v8 w8 an ag be;obtain⟨g8,c8,rfl,co,cl⟩:=Ow.app (aN _ _) HO.o HK.o hB qg (js:=[⟨15,⟨#[]⟩,0⟩]) (k:=1) rfl rfl qi (by intro x hx;simp at hx;subst hx;first|(simp only;omega)|(show 0<=50000;omega)) an ag;have HO:Hd (Ow w w8 _ _ _ _):=co;have HK:Hd (Ba B R a len cap p _ w w8):=cl;clear co cl an ag be))
   go_wp2_with fail;refine(HK.o.pick qg _ qg qg).mono ?_;rintro e wn ⟨y3,rfl,hy3,hk,hg⟩;have HO:Hd (Ow w wn _ _ _ _):=HO.o.gb hg qg;have HK:Hd (Ba B R a len cap p _ w wn):=hk;clear hk hg
   by_cases nd:y3=0
   ·subst nd;go_wp2_with fail;refine(HK.o.pick qg _ qg qg).mono ?_;rintro e wn ⟨y4,rfl,hy4,hk,hg⟩;have HO:Hd (Ow w wn _ _ _ _):=HO.o.gb hg qg;have HK:Hd (Ba B R a len cap p _ w wn):=hk;clear hk hg;have e199:(200:Int)+(y4:Int)-1=((199+y4:X):Int):=qg;have qw:=Xd (199+y4) wn qg;rw[show((199+y4:X):Int)=199+(y4:Int) from qg]at qw;have HWD:Hd (Calls Tryz.prog 85 #[.int .i64 (199+(y4:Int))] wn _):=qw;clear qw;go_wp2_with fail;refine HWD.o.mono ?_;rintro e w8 ⟨g8,is8,rfl,ow8,fi⟩;have HO:Hd (Ow w w8 g8 7 7 is8):=ow8.base HK.o.1.size;have HK:Hd (Ba B R a len cap p _ w w8):=HK.o.bl hB fi;clear ow8 fi HWD
    go_upto_region 18 with fail
    clear hy3 hy4;have hN4:7<=400:=qg
    by_cases wo:(200:Int)<(7:Int)
    ·exfalso;omega
    ·have vd:Hd (∀V,Below w8.heap.size w8 V->True):=λ_ _=>trivial;obtain⟨js,ejs⟩:∃js,(is8:L I3)=js:=⟨_,rfl⟩;rw[ejs]at HO;have gz:=HO.o.ln
     have B5:Hd (Calls Tryz.prog 35 #[.agg #[.slice (M ⟨g8,0,N⟩) (7) 7]] w8 λe w'=>Below w8.heap.size w8 w'/\e=H (.bool (Aq js))):=by
      have q:=Ci (M ⟨g8,0,N⟩) 7 js w8 HO.o.row3 qg (λi=>by have:=HO.o.short i;omega);rw[<- gz]at q;exact q
     clear gz ejs;go_wp2_with fail;refine B5.o.mono ?_;rintro e wn ⟨hb,rfl⟩;have HO:Hd (Ow w wn _ _ _ _):=HO.o.bl hb;have HK:Hd (Ba B R a len cap p _ w wn):=HK.o.bl hB hb;clear hb;obtain⟨bc,bf,bs⟩:=vk.o wn HK.o.1
     cases Aq js with
     | true=>
      go_wp2_with fail;exact bR (v:=.agg #[.slice (M ⟨g8,0,N⟩) (7) 7]) qav rfl (Gi EW.o zh HO.o HK.o qg qg qg _)
     | false=>
      exact qhf
   ·have S5:((y3:Int) == 0)=false:=qj
    go_upto_region 18 with fail
    clear hy3 nd S5;have hN4:n+1<=400:=qg
    by_cases wo:(200:Int)<(n:Int)+1
    ·exfalso;omega
    ·have vd:Hd (∀V,Below wn.heap.size wn V->True):=λ_ _=>trivial;obtain⟨js,ejs⟩:∃js,(is++[⟨15,⟨#[]⟩,0⟩]:L I3)=js:=⟨_,rfl⟩;rw[ejs]at HO;have gz:=HO.o.ln
     have B5:Hd (Calls Tryz.prog 35 #[.agg #[.slice (M ⟨g8,0,N⟩) (n+1) c8]] wn λe w'=>Below wn.heap.size wn w'/\e=H (.bool (Aq js))):=by
      have q:=Ci (M ⟨g8,0,N⟩) c8 js wn HO.o.row3 qg (λi=>by have:=HO.o.short i;omega);rw[<- gz]at q;exact q
     exact qgx
def ProgQ(B R:X)(a:Option Addr)(len cap p K:X)(w:E)(e:Ending)(w':E):Prop:=
 ∃(g n c:X)(is:L I3),e=H (G #[J (p_ g) n c])/\Ow w w' g n c is/\n<=400/\Ba B R a len cap p K w w'
theorem row3_news{w:E}{m:X}(h:Dl w (p_ g) is):∀j u,(Dd is)[j]?=M u->w.cell? ((⟨g,0,N⟩:Addr).add j)=M u:=by
 intro j u hu
 have hj:j<is.length*3:=by
  rcases Nat.lt_or_ge j (is.length*3)with q|q
  ·exact q
  ·rw[List.getElem?_eq_none (by rw[Ch];exact q)]at hu;cases hu
 have e:j=j / 3*3+j % 3:=qg
 have hi:j / 3<is.length:=qg
 have G4:=hu
 rw[e,Fa is (j / 3) (j % 3) hi qg]at G4
 obtain⟨b,off,eb,c0,c1,c2⟩:=h (j / 3) hi
 cases eb
 rw[Addr.add_lit]
 rcases(show j % 3=0\/j % 3=1\/j % 3=2 from qg)with q|q|q
 ·rw[q]at G4;simp[Gl]at G4;subst G4;have e2:0+j=0+j / 3*3:=qg;rw[e2];exact c0
 ·rw[q]at G4;simp[Gl]at G4;subst G4;have e2:0+j=0+j / 3*3+1:=qg;rw[e2];exact c1
 ·rw[q]at G4;simp[Gl]at G4;subst G4;have e2:0+j=0+j / 3*3+2:=qg;rw[e2];exact c2
theorem Tx:∀(is:L I3)(i j:X)(v:Z)(x:I3),i<is.length->j<3->(Gl (ix is i)).set j v=Gl x->(Dd is).set (i*3+j) v=Dd (is.set i x)
 | [],i,j,v,x,h,_,_=>qak
 | e::r,0,j,v,x,h,hj,hx=>by
  have hx2:(Gl e).set j v=Gl x:=hx;unfold Dd;rw[List.set_cons_zero,List.flatMap_cons,List.flatMap_cons,<- hx2,List.set_append_left _ _ qbg];rw[show 0*3+j=j from qg]
 | e::r,i+1,j,v,x,h,hj,hx=>by
  have:=Tx r i j v x Zl hj hx;unfold Dd at this ⊢;rw[List.set_cons_succ,List.flatMap_cons,List.flatMap_cons,List.set_append_right _ _ qbg];have e1:(i+1)*3+j-(Gl e).length=i*3+j:=qbg;rw[e1,this]
theorem Ow.setF{len cap K:X}{w:E}{c:X}(h:Ow w0 w g n c is)(hK:Ba B R a len cap p K w0 w)(hB:B<=w0.heap.size)(hR:R<w0.heap.size)(i j:X)(v:Z)(x:I3)(hi:i<n)(hj:j<3)(hx:(Gl (ix is i)).set j v=Gl x)(hs:x.text.size<=50000):Ow w0 (w.setCell ⟨g,i*3+j,N⟩ v) g n c (is.set i x)/\Ba B R a len cap p K w0 (w.setCell ⟨g,i*3+j,N⟩ v)/\(∃v,w.cell? ⟨g,i*3+j,N⟩=M v)/\∀j,w.frozen? ⟨g,j,N⟩=false:=by
 obtain⟨h1,p',h2,h3⟩:=hK
 have hgB:w0.heap.size<=g:=by
  exact qed
 have hl:=h.ln
 have du:=h.row.stored (i*3+j) v
 rw[Tx is i j v x qg hj hx]at du
 have iz:=h1.size
 refine⟨⟨by rw[List.length_set];exact hl,du.1,λy hy=>?_⟩,⟨Fq h1 (Bp _ _ _ _) qdn,p',h2,h3.kept qg (Bp _ _ _ _) qdn⟩,?_,λj=>h.row.frozenAt j⟩
 ·rcases List.mem_or_eq_of_mem_set hy with q|q
  ·exact h.tx y q
  ·subst q;exact hs
 ·rw[h.row.cellAt (i*3+j) qg];exact⟨_,gQ qdp⟩
theorem insC_take(is:L I3)(i:X)(h:i<=is.length):(Dd is).take (i*3)=Dd (is.take i):=by
 have e:Dd is=Dd (is.take i)++Dd (is.drop i):=by rw[<- Xp,List.take_append_drop]
 rw[e,List.take_left' (by rw[Ch,List.length_take];omega)]
theorem Ow.cut{w:E}{c:X}(h:Ow w0 w g n c is)(i:X)(hi:i<=n):Ow w0 w g i c (is.take i):=by
 have hl:=h.ln
 have e:(is.take i).length=i:=qag
 refine⟨e.symm,⟨by rw[Ch,e],?_⟩,λx hx=>h.tx x (List.mem_of_mem_take hx)⟩
 rcases h.row.2 with⟨q,_⟩|⟨g1,V7,cur,q,hg,hh,h1,h2,h3,h4⟩
 ·cases q
 ·simp only[Value.slice.injEq,Option.some.injEq,Addr.mk.injEq]at q;obtain⟨⟨rfl,_⟩,_,rfl⟩:=q;refine Or.inr ⟨g,c,cur,rfl,hg,hh,qg,h2,h3,?_⟩;rw[<- insC_take is i qg,<- h4,List.take_take];congr 1;omega
theorem Ow.capn{w:E}{c:X}(h:Ow w0 w g n c is):n<=c:=by
 rcases h.row.2 with⟨q,_⟩|⟨g1,V7,cur,q,hg,hh,h1,h2,h3,h4⟩
 ·cases q
 ·simp only[Value.slice.injEq,Option.some.injEq,Addr.mk.injEq]at q;obtain⟨⟨rfl,_⟩,_,rfl⟩:=q;omega
theorem heap_ltD{w:E}{b:X}{o:Obj}(h:w.heap[b]?=M o):b<w.heap.size:=by
 rcases Nat.lt_or_ge b w.heap.size with k|k
 ·exact k
 ·rw[Array.getElem?_eq_none k]at h;cases h
def Wm:Z->X
 | J _ n _=>n
 | _=>0
theorem Ox{len cap K:X}{w:E}{c:X}{o o':Obj}(ew:(u.alloc o).alloc o'=w)(hB:B<=u.heap.size)(ho:Ow w V g n c is)(hk:Ba B R a len cap p K1 w V)(hL:n<=400)(hK:K1<=K)(x:Z):ProgQ B R a len cap p K u (H (G #[J (p_ g) n c])) (V.setCell ⟨u.heap.size+1,0,N⟩ x):=by
 have hw:w.heap.size=u.heap.size+1+1:=qcv
 obtain⟨h1,p',h2,h3⟩:=hk
 have hs:=h1.size
 have ik:Ow w (V.setCell ⟨u.heap.size+1,0,N⟩ x) g n c is:=⟨ho.ln,Ff ho.row (λb hb _=>hC V ⟨u.heap.size+1,0,N⟩ x b qj),ho.tx⟩
 have hu:u.grownBy w (M R):=by rw[<- ew];exact Fr (World.grownBy_alloc _ _ _) (aN _ _)
 refine⟨g,n,c,is,rfl,ik.base qg,hL,Fq (Dr hu h1) (Bp _ _ _ _) (by intro k hk;cases hk;exact Or.inr qg),p',qg,h3.kept qg (Bp _ _ _ _) (by intro k hk;cases hk;omega)⟩
theorem Xe(B R:X)(a:Option Addr)(len cap p g0 c0:X)(f9:L I3)(u:E)(h:Rd B u R a len cap p)(zh:B<=u.heap.size)(hp:p<=60000)(h3:Dl u (p_ g0) f9)(hm0:0<f9.length)(U2:f9.length<=400)(ht:∀x∈f9,x.text.size<=50000):Calls prog 55 #[D (p_ R),G #[J (p_ g0) f9.length c0]] u λe w'=>ProgQ B R a len cap p 300 u e w':=by
 have P8:=h.lt
 obtain⟨i0,hi,bm,bg,bi⟩:=info_parts Tryz.info80D
 obtain⟨w,ew⟩:=Aj ((u.alloc (O #[J (p_ g0) f9.length c0] 53)).alloc (O #[nS] 53))
 have hw:w.heap.size=u.heap.size+1+1:=qcv
 have mi:Bw u w:=by rw[<- ew];exact(aN _ _).alloc qi _
 have HWS:Hd (w.heap.size=u.heap.size+1+1):=hw
 have hB:B<=w.heap.size:=qg
 have hwR:R<w.heap.size:=qg
 have bx1:w.heap[u.heap.size]?=M (O #[J (p_ g0) f9.length c0] 53 (0,0)):=by
  rw[<- ew,Lib.alloc_old _ _ _ qi];exact Bf _ _
 have bx2:w.heap[u.heap.size+1]?=M (O #[nS] 53 (0,0)):=by
  rw[<- ew];have q:=Bf (u.alloc (O #[J (p_ g0) f9.length c0] 53)) (O #[nS] 53);rw[show(u.alloc (O #[J (p_ g0) f9.length c0] 53)).heap.size=u.heap.size+1 from qi]at q;exact q
 have vk:Hd (∀V,w.grownBy V (M R)->V.cell? ⟨u.heap.size+1,0,N⟩=M nS/\V.frozen? ⟨u.heap.size+1,0,N⟩=false/\∀y,(V.setCell ⟨u.heap.size+1,0,N⟩ y).cell? ⟨u.heap.size+1,0,N⟩=M y):=λV hV=>by
  have e:V.heap[u.heap.size+1]?=M (O #[nS] 53 (0,0)):=by
   rw[hV.block _ qg (λe=>qbu)];exact bx2
  exact qjr
 have D6:Bw w (w.alloc (O #[] 103)):=aN _ _
 have k1:(w.alloc (O #[] 103)).cell? ⟨u.heap.size,0,N⟩=M (J (p_ g0) f9.length c0):=Aa D6 (by rw[cH bx1];rfl)
 have HK:Hd (Ba B R a len cap p 0 w (w.alloc (O #[] 103))):=⟨World.grownBy_alloc _ _ _,p,Nat.le_refl _,(h.bl zh mi).bl qg D6⟩
 have HO:Hd (Ow w (w.alloc (O #[] 103)) w.heap.size 0 0 []):=⟨rfl,World.ownsRow_lit (base:=w.heap.size) (e:=103) (size:=3) w #[] 0 (Nat.le_refl _) qn rfl,λx hx=>qbl⟩
 have X7:Hd (∀j u',(Dd f9)[j]?=M u'->(w.alloc (O #[] 103)).cell? ((⟨g0,0,N⟩:Addr).add j)=M u'):=row3_news (m:=0) (λi hi=>by obtain⟨b,off,e,c0',mu,ml⟩:=h3 i hi;exact⟨b,off,e,Aa ((mi.trans (D6.mono mi.size))) c0',Aa ((mi.trans (D6.mono mi.size))) mu,Aa ((mi.trans (D6.mono mi.size))) ml⟩)
 have HT0:Hd (∀x∈f9,x.text.size<=50000):=ht
 have EW:Hd ((u.alloc (O #[J (p_ g0) f9.length c0] 53)).alloc (O #[nS] 53)=w):=ew
 have ir:Hd (Bw u w):=mi
 clear h h3 ht hw bx1 bx2 D6 mi
 go_enter func55,ntmps55
 go_wp2_with (first|(at_builtin;refine wpList_append_own _ rfl _ _ 51 rfl w.heap.size 103 i0 (G #[I 0,ze,I 0]) 3 32 underlying51 hi bm bg bi rfl qh _ _ _ ?_ HO.o.row ⟨g0,0,N⟩ f9.length c0 (Dd f9) ?_ (Ch f9) X7.o (Bk f9) qn qg (zo HK.o.1.size) ?_;(focus(first|rfl|(simp[Act.eval];done)));(focus(first|rfl|(simp[Act.eval];done)));intro v8 w8 an ag be;obtain⟨g8,c8,rfl,co,cl⟩:=Ow.app (Below.refl _ _) HO.o HK.o hB qg (js:=f9) rfl rfl hm0 HT0.o an ag;have HO:Hd (Ow w w8 _ _ _ _):=co;have HK:Hd (Ba B R a len cap p _ w w8):=cl;clear co cl an ag be))
 rw[Nat.zero_add,List.nil_append]at HO
 clear X7 k1
 have aq:((f9.length:Int) == 0)=false:=by rw[beq_eq_false_iff_ne];omega
 obtain⟨n,en⟩:=Aj f9.length
 rw[en]at HO hm0 U2 aq ⊢
 refine(HK.o.pick qg _ qg qg).mono ?_
 rintro e wn ⟨i1,rfl,hi1,hk,hg⟩
 have HO:Hd (Ow w wn _ _ _ _):=HO.o.gb hg qg
 have HK:Hd (Ba B R a len cap p _ w wn):=hk
 clear hk hg
 have O4:i1<n:=qg
 go_wp2_with fail
 refine(HK.o.pick qg _ qg qg).mono ?_
 rintro e wn ⟨k7,rfl,D4,hk,hg⟩
 have HO:Hd (Ow w wn _ _ _ _):=HO.o.gb hg qg
 have HK:Hd (Ba B R a len cap p _ w wn):=hk
 clear hk hg
 rcases(show k7=0\/k7=1\/k7=2\/k7=3\/k7=4\/k7=5\/k7=6 from qg)with rfl|rfl|rfl|rfl|rfl|rfl|rfl
 ·go_wp2_with fail;refine(HK.o.pick qg _ qg qg).mono ?_;rintro e wn ⟨y,rfl,hy,hk,hg⟩;have HO:Hd (Ow w wn _ _ _ _):=HO.o.gb hg qg;have HK:Hd (Ba B R a len cap p _ w wn):=hk;clear hk hg;obtain⟨co,cl,⟨vo,I9⟩,U4⟩:=HO.o.setF HK.o hB qg i1 0 (I ((y:Int)-1)) ⟨(y:Int)-1,(ix f9 i1).text,(ix f9 i1).n⟩ O4 qg rfl (HO.o.short i1);simp only[Nat.add_zero]at co cl I9;exact qal
 ·have yx:=HO.o.row.cellAt (i1*3+2) qg;rw[Fa f9 i1 2 qg qg]at yx;have A6:wn.cell? ⟨g8,i1*3+2,N⟩=M (I (ix f9 i1).n):=yx;clear yx;obtain⟨m,em⟩:=Aj ((ix f9 i1).n);obtain⟨co,cl,⟨vo,I9⟩,U4⟩:=HO.o.setF HK.o hB qg i1 2 (I (wrap64 (m+1))) ⟨(ix f9 i1).op,(ix f9 i1).text,wrap64 (m+1)⟩ O4 qg rfl (HO.o.short i1);rw[em]at A6;clear em I9 vo;exact qal
 ·obtain⟨AN,eX⟩:=Aj (wn.alloc (O #[I (-1),I 2000,I 2001,I 200,I 201,I 1000000007] 3));have xu:Bw wn AN:=eX▸aN _ _;have hXb:AN.heap[wn.heap.size]?=M (O #[I (-1),I 2000,I 2001,I 200,I 201,I 1000000007] 3 (0,0)):=eX▸Bf _ _;have hRn:R<wn.heap.size:=Nat.lt_of_lt_of_le hwR HK.o.1.size;have HO:Hd (Ow w AN _ _ _ _):=HO.o.bl xu;have HK:Hd (Ba B R a len cap p _ w AN):=HK.o.bl hB xu;obtain⟨q,eq⟩:=Aj wn.heap.size;have hqX:q<AN.heap.size:=by rw[<- eq];exact heap_ltD hXb
  rw[eq]at hXb hRn;have Eq:Hd (wn.heap.size=q):=eq;clear xu eq;go_wp2_with fail
  try rw[Eq.o]
  refine(HK.o.pick qg _ qg qg).mono ?_;rintro e w2 ⟨y,rfl,hy,hk,hg⟩;have yw:w2.heap[q]?=M (O #[I (-1),I 2000,I 2001,I 200,I 201,I 1000000007] 3 (0,0)):=by rw[hg.block q hqX (λe=>qbu)];exact hXb
  have HO:Hd (Ow w w2 _ _ _ _):=HO.o.gb hg qg;have HK:Hd (Ba B R a len cap p _ w w2):=hk;clear hk hg hXb
  rcases(show y=0\/y=1\/y=2\/y=3\/y=4\/y=5 from qg)with rfl|rfl|rfl|rfl|rfl|rfl
  ·have O9:w2.cell? ⟨q,0,N⟩=M (I (-1)):=qcg;obtain⟨co,cl,⟨vo,I9⟩,U4⟩:=HO.o.setF HK.o hB qg i1 2 (I (-1)) ⟨(ix f9 i1).op,(ix f9 i1).text,-1⟩ O4 qg rfl (HO.o.short i1);exact qal
  ·have O9:w2.cell? ⟨q,1,N⟩=M (I (2000)):=qcg;obtain⟨co,cl,⟨vo,I9⟩,U4⟩:=HO.o.setF HK.o hB qg i1 2 (I (2000)) ⟨(ix f9 i1).op,(ix f9 i1).text,2000⟩ O4 qg rfl (HO.o.short i1);exact qal
  ·have O9:w2.cell? ⟨q,2,N⟩=M (I (2001)):=qcg;obtain⟨co,cl,⟨vo,I9⟩,U4⟩:=HO.o.setF HK.o hB qg i1 2 (I (2001)) ⟨(ix f9 i1).op,(ix f9 i1).text,2001⟩ O4 qg rfl (HO.o.short i1);exact qal
  ·have O9:w2.cell? ⟨q,3,N⟩=M (I (200)):=qcg;obtain⟨co,cl,⟨vo,I9⟩,U4⟩:=HO.o.setF HK.o hB qg i1 2 (I (200)) ⟨(ix f9 i1).op,(ix f9 i1).text,200⟩ O4 qg rfl (HO.o.short i1);exact qal
  ·have O9:w2.cell? ⟨q,4,N⟩=M (I (201)):=qcg;obtain⟨co,cl,⟨vo,I9⟩,U4⟩:=HO.o.setF HK.o hB qg i1 2 (I (201)) ⟨(ix f9 i1).op,(ix f9 i1).text,201⟩ O4 qg rfl (HO.o.short i1);exact qal
  ·have O9:w2.cell? ⟨q,5,N⟩=M (I (1000000007)):=qcg;obtain⟨co,cl,⟨vo,I9⟩,U4⟩:=HO.o.setF HK.o hB qg i1 2 (I (1000000007)) ⟨(ix f9 i1).op,(ix f9 i1).text,1000000007⟩ O4 qg rfl (HO.o.short i1);exact qal
 ·go_wp2_with fail;refine(HK.o.pick qg _ qg qg).mono ?_;rintro e wn ⟨y,rfl,hy,hk,hg⟩;have HO:Hd (Ow w wn _ _ _ _):=HO.o.gb hg qg;have HK:Hd (Ba B R a len cap p _ w wn):=hk;clear hk hg;have qm:=Ha ⟨#[116]⟩ (2000+y) wn qh qg;rw[show((2000+y:X):Int)=2000+(y:Int) from qg]at qm;have HM:Hd (Calls prog 15 #[S ⟨#[116]⟩,I (2000+(y:Int))] wn _):=qm;clear qm;go_wp2_with fail;refine HM.o.mono ?_;rintro e wx ⟨s,rfl,hs,hw⟩;rw[hw];clear hw wx HM;have iz:s.size<=50000:=by rw[hs];exact Nat.le_trans (Nat.mul_le_mul (show(⟨#[116]⟩:By).size<=1 from qh) (show 2000+y<=2002 from qg)) qg
  obtain⟨co,cl,⟨vo,I9⟩,U4⟩:=HO.o.setF HK.o hB qg i1 1 (S s) ⟨(ix f9 i1).op,s,(ix f9 i1).n⟩ O4 qg rfl (iz);exact qal
 ·have co:=HO.o.cut i1 qg;have cl:=HK.o;have O7:=HO.o.capn;have K3:(i1:Int)<=(c8:Int):=qg;obtain⟨bc,bf,bs⟩:=vk.o _ cl.1;go_wp2_with fail;exact bR (v:=G #[J (p_ g8) i1 c8]) qfq rfl (Ox EW.o zh co cl qg qg _)
 ·go_wp2;obtain⟨n0,en0⟩:∃n0,n0=n:=⟨_,rfl⟩;have ni:n0=n:=en0
  go_loopw [5] (λv wr=>∃(g n c K:X)(is:L I3),v=J (p_ g) n c/\Hd (Ow w wr g n c is)/\Hd (Ba B R a len cap p K w wr)/\K+n0<=2+n/\n0<=n/\(n=n0\/n<=201)) (λv _=>500-Wm v)
  case atStart=>exact⟨g8,n,c8,_,f9,rfl,HO.o,HK.o,qg,qg,qg⟩
  case round=>
   clear HO HK;obtain⟨g,m,c,K,is,rfl,HO,HK,hK,hm1',hm2⟩:=hrel;go_wp2_with fail;refine(HK.o.pick qg _ qg qg).mono ?_;rintro e wn ⟨y,rfl,hy,hk,hg⟩;have HO:Hd (Ow w wn _ _ _ _):=HO.o.gb hg qg;have HK:Hd (Ba B R a len cap p _ w wn):=hk;clear hk hg
   by_cases au:m<200+y
   ·have dl:decide ((m:Int)<200+(y:Int))=true:=qj;go_wp2_with fail;refine(Bu _ _).mono ?_;rintro e wq ⟨rfl,hb⟩;have HO:Hd (Ow w wq _ _ _ _):=HO.o.bl hb;have HK:Hd (Ba B R a len cap p _ w wq):=HK.o.bl hB hb;clear hb
    go_wp2_with (first|(at_builtin;refine wpList_append_own _ rfl _ _ 51 rfl w.heap.size 103 i0 (G #[I 0,ze,I 0]) 3 32 underlying51 hi bm bg bi rfl qh _ _ _ ?_ (HO.o.row.alloc _) ⟨wq.heap.size,0,N⟩ 1 1 [I 9,ze,I 0] ?_ rfl (World.news_of_block (cs:=#[I 9,ze,I 0]) (t:=103) (fr:=(0,0)) (Bf _ _)) (λu hu=>Bk ([⟨9,⟨#[]⟩,0⟩]:L I3) u hu) qn qg (by have:=HK.o.1.size;simp;omega) ?_;(focus(first|rfl|(simp[Act.eval];done)));(focus(first|rfl|(simp[Act.eval];done)));intro v8 w8 an ag be;obtain⟨g9,c9,rfl,ho9,hk9⟩:=Ow.app (aN _ _) HO.o HK.o hB qg (js:=[⟨9,⟨#[]⟩,0⟩]) (k:=1) rfl rfl qi (by intro x hx;simp at hx;subst hx;show 0<=50000;omega) an ag;have HO:Hd (Ow w w8 _ _ _ _):=ho9;have HK:Hd (Ba B R a len cap p _ w w8):=hk9;clear ho9 hk9 an ag be))
    go_roundw
    case rel=>exact⟨g9,m+1,c9,K+1,_,rfl,HO.o,HK.o,qg,qg,qg⟩
    case measure=>simp[Wm];omega
   ·have dl:decide ((m:Int)<200+(y:Int))=false:=qj;have co:=HO.o;have cl:=HK.o;obtain⟨bc,bf,bs⟩:=vk.o _ cl.1;go_wp2_with fail;exact bR (v:=G #[J (p_ g) m c]) qfq rfl (Ox EW.o zh co cl qg qg _)
 ·obtain⟨co,cl,⟨vo,I9⟩,U4⟩:=HO.o.setF HK.o hB qg i1 1 (S ⟨#[121]⟩) ⟨(ix f9 i1).op,⟨#[121]⟩,(ix f9 i1).n⟩ O4 qg rfl (by show(⟨#[121]⟩:By).size<=50000;decide);exact qal
end Go.Proofs.YtoihflimijabjaaGreatDoor
