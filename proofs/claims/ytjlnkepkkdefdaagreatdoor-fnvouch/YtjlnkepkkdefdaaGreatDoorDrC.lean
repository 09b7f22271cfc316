import Derived.Test.YtjlnkepkkdefdaaGreatDoorTNSmall
import Derived.Deep.AppendLies
import Derived.Lib.ItoaNum
import Derived.Deep.RegionWith
import Derived.Deep.RegionHeld3
import Derived.Deep.DeepCutAuto
namespace Go.Proofs.YtjlnkepkkdefdaaGreatDoor
set_option maxHeartbeats 1000000
set_option maxRecDepth 100000
open Go.RowKit
set_option linter.unusedVariables false
set_option linter.unusedSimpArgs false
def Ex (i:I3):List Value:=[.int .i64 i.op,.string i.text,.int .i64 i.n]
def Di (is:List I3):List Value:=is.flatMap Ex
theorem Bu (is:List I3):(Di is).length=is.length*3:=by
 unfold Di
 induction is with
 | nil=>rfl
 | cons e r ih=>rw[List.flatMap_cons,List.length_append,ih];simp[Ex];omega
theorem Sl (is js:List I3):Di (is++js)=Di is++Di js:=by simp[Di]
theorem Bg (is:List I3):∀ u∈Di is,u.oneCell'=true:=by
 intro u hu
 unfold Di at hu
 rw[List.mem_flatMap] at hu
 obtain⟨i,_,hi⟩:=hu
 simp[Ex] at hi
 rcases hi with rfl|rfl|rfl<;>rfl
theorem Ia:∀(is:List I3) (i j:Nat),i<is.length->j<3->(Di is)[i*3+j]?=(Ex (ix is i))[j]?
 | [],i,j,h,_=>by simp at h
 | e :: r,0,j,h,hj=>by
  unfold Di;rw[List.flatMap_cons,Nat.zero_mul,Nat.zero_add,List.getElem?_append_left (by simp[Ex];omega)];rfl
 | e :: r,i+1,j,h,hj=>by
  have:=Ia r i j (by simpa using h) hj;unfold Di at this ⊢;rw[List.flatMap_cons,List.getElem?_append_right (by simp[Ex];omega)];have e1:(i+1)*3+j-(Ex e).length=i*3+j:=by simp[Ex];omega
  rw[e1,this];rfl
theorem Fs {w w':World} {B e sz n:Nat} {v:Value} {xs:List Value} (h:w.ownsRow B e sz v n xs) (hk:∀ b,B<=b->b<w.heap.size->w'.heap[b]?=w.heap[b]?):w'.ownsRow B e sz v n xs:=by
 refine⟨h.1,?_⟩
 rcases h.2 with k|⟨g,cap,cur,e1,hg,hh,r⟩
 ·exact Or.inl k
 ·have hlt:g<w.heap.size:=by
   rcases Nat.lt_or_ge g w.heap.size with q|q
   ·exact q
   ·rw[Array.getElem?_eq_none q] at hh;cases hh
  exact Or.inr ⟨g,cap,cur,e1,hg,by rw[hk g hg hlt];exact hh,r⟩
theorem Bb (w:World) (o:Obj):(w.alloc o).heap[w.heap.size]?=some o:=by unfold World.alloc;simp
def Nw (l:List UInt8):List Value:=l.map fun b=>Value.int .u8 b.toNat

structure Rd (B:Nat) (w:World) (R:Nat) (a:Option Addr) (len cap:Nat) (p:Nat):Prop where
 block:w.heap[R]?=some (.cells #[.slice a len cap,.int .i64 p] 128 (0,0))
 bytes:∀ i,i<len->∃ b off v,a=some ⟨b,off,none⟩/\b≠R/\b<B/\w.cell? ⟨b,off+i,none⟩=some (.int .u8 v)/\0<=v/\v<=255
 short:len<=2000
 lt:R<B
section
variable {B:Nat} {w:World} {R:Nat} {a:Option Addr} {len cap p:Nat}
theorem Rd.cell0 (h:Rd B w R a len cap p):w.cell? ⟨R,0,none⟩=some (.slice a len cap):=by
 simp[World.cell?,h.block]
theorem Rd.cell1 (h:Rd B w R a len cap p):w.cell? ⟨R,1,none⟩=some (.int .i64 p):=by
 simp[World.cell?,h.block]
theorem Rd.free (h:Rd B w R a len cap p) (j:Nat):w.frozen? ⟨R,j,none⟩=false:=by
 simp[World.frozen?,h.block]
theorem Rd.kept {w':World} {row:Option Nat} (h:Rd B w R a len cap p) (hB:B<=w.heap.size) (hg:w.grownBy w' row) (hr:∀ k,row=some k->B<=k):Rd B w' R a len cap p:=by
 refine⟨?_,fun i hi=>?_,h.short,h.lt⟩
 ·rw[hg.block R (by have:=h.lt;omega) (fun e=>by have:=hr R e.symm;have:=h.lt;omega)];exact h.block
 ·obtain⟨b,off,v,ha,hb,hbB,hc,h1,h2⟩:=h.bytes i hi;exact⟨b,off,v,ha,hb,hbB,hg.cell hc (fun e=>by have:=hr b e.symm;omega),h1,h2⟩
theorem Rd.step (h:Rd B w R a len cap p):Rd B (w.setCell ⟨R,1,none⟩ (.int .i64 (p+1:Nat))) R a len cap (p+1):=by
 refine⟨?_,fun i hi=>?_,h.short,h.lt⟩
 ·simp[World.setCell,Array.getElem?_modify,h.block]
 ·obtain⟨b,off,v,ha,hb,hbB,hc,h1,h2⟩:=h.bytes i hi;refine⟨b,off,v,ha,hb,hbB,?_,h1,h2⟩;rw[World.cell?_of_block (w:=w) (hC w ⟨R,1,none⟩ _ b hb)];exact hc
theorem Ci (w:World) (R j:Nat) (v:Value):w.grownBy (w.setCell ⟨R,j,none⟩ v) (some R):=
 ⟨rfl,rfl,rfl,by simp[World.setCell],fun k _ hne=>hC w ⟨R,j,none⟩ v k (fun e=>hne (by rw[e]))⟩
theorem grown_drew {w w':World} {row:Option Nat} (h:w.grownBy w' row):w.grownBy w'.drew row:=⟨h.os,h.tape,h.output,h.size,h.block⟩
theorem Rd.drew (h:Rd B w R a len cap p):Rd B w.drew R a len cap p:=⟨h.block,h.bytes,h.short,h.lt⟩
theorem Gh {w a b:World} {R:Nat} {row:Option Nat} (h:w.grownBy a (some R)) (h2:a.grownBy b row) (hrow:∀ k,row=some k->k=R\/w.heap.size<=k):w.grownBy b (some R):=
 ⟨h2.os.trans h.os,h2.tape.trans h.tape,h2.output.trans h.output,Nat.le_trans h.size h2.size,fun k hk hne=>
  (h2.block k (by have:=h.size;omega) (fun e=>by rcases hrow k e.symm with rfl|h' ;exact hne rfl;omega)).trans (h.block k hk hne)⟩
end
theorem Qj (a b:Nat) (ha:a<9223372036854775808) (hb:b<9223372036854775808) :
  bits .xor .i64 (a:Int) (b:Int)=((a ^^^ b:Nat):Int):=by
 have hx:a ^^^ b<2 ^ 63:=Nat.xor_lt_two_pow (by omega) (by omega)
 have h1:(BitVec.ofInt 64 (a:Int)).toNat=a:=by
  rw[BitVec.ofInt_natCast,BitVec.toNat_ofNat];exact Nat.mod_eq_of_lt (by omega)
 have h2:(BitVec.ofInt 64 (b:Int)).toNat=b:=by
  rw[BitVec.ofInt_natCast,BitVec.toNat_ofNat];exact Nat.mod_eq_of_lt (by omega)
 show IntKind.i64.wrap ((BitVec.ofInt 64 (a:Int) ^^^ BitVec.ofInt 64 (b:Int)).toNat:Int)=_
 rw[BitVec.toNat_xor,h1,h2]
 rw[IntKind.wrap_i64]
 omega
theorem far_num (A:Int) (n:Nat) (h0:0<=A) (h1:A<=1000000000) (hn:1<=n):∃ x:Nat,(bits .xor .i64 A (A / 64)).tmod n=(x:Int)/\x<n:=by
 obtain⟨m,rfl⟩:=Int.eq_ofNat_of_zero_le h0
 have e:((m:Int) / 64)=((m / 64:Nat):Int):=by omega
 rw[e,Qj m (m / 64) (by omega) (by omega)]
 exact⟨(m ^^^ m / 64) % n,by rw[<- Int.ofNat_tmod],Nat.mod_lt _ (by omega)⟩
theorem pick_far (w:World) (B R:Nat) (b off len cap p:Nat) (n:Nat) (u v:Int) (i1 i2 q:Nat) (h:Rd B w R (some ⟨b,off,none⟩) len cap p) (hp:p<=100000) (hn:1<=n) (hn2:n<=1000) (hl:len<=p) (h0:0<len)
  (hu:w.cell? ⟨b,off+i1,none⟩=some (.int .u8 u)) (hv:w.cell? ⟨b,off+i2,none⟩=some (.int .u8 v)) (hu1:0<=u) (hu2:u<=255) (hv1:0<=v) (hv2:v<=255) (hb:b≠R)
  (e1:(p:Int) % (len:Int)=(i1:Int)) (e2:((p:Int)*7+3) % (len:Int)=(i2:Int)) (e3:(p:Int) / (len:Int)=(q:Int)) (m1:i1<len) (m2:i2<len) (m3:q<=p) :
  Calls Tryz.prog 60 #[.pointer (some ⟨R,0,none⟩),.int .i64 n] w fun e w'=>(∃ x:Nat,e=.returned (.int .i64 x)/\x<n)/\Rd B w' R (some ⟨b,off,none⟩) len cap (p+1)/\w.grownBy w' (some R):=by
 have c0:=h.cell0
 have c1:=h.cell1
 have f1:=h.free 1
 have hsh:=h.short
 have hne:((len:Int) == 0)=false:=by simp;omega
 have HR:Hd (Rd B w R (some ⟨b,off,none⟩) len cap p):=h
 clear h
 go_enter Tryz.func60,Tryz.ntmps60
 go_wp2
 go_region
 all_goals go_wp2
 all_goals go_ret
 all_goals
  obtain⟨x,hx,hxn⟩:=far_num (u*131+v*1117+p*29+q*53) n (by omega) (by omega) hn;exact⟨⟨x,congrArg (fun i=>Ending.returned (.int .i64 i)) hx,hxn⟩,HR.o.step.drew,grown_drew (Ci _ _ _ _)⟩
theorem pick_near (w:World) (B R:Nat) (b off len cap p:Nat) (n:Nat) (u:Int) (h:Rd B w R (some ⟨b,off,none⟩) len cap p) (hp:p<=100000) (hn:1<=n) (hn2:n<=1000) (hl:p<len)
  (hu:w.cell? ⟨b,off+p,none⟩=some (.int .u8 u)) (hu1:0<=u) (hu2:u<=255) (hb:b≠R) :
  Calls Tryz.prog 60 #[.pointer (some ⟨R,0,none⟩),.int .i64 n] w fun e w'=>(∃ x:Nat,e=.returned (.int .i64 x)/\x<n)/\Rd B w' R (some ⟨b,off,none⟩) len cap (p+1)/\w.grownBy w' (some R):=by
 have c0:=h.cell0
 have c1:=h.cell1
 have f1:=h.free 1
 have hsh:=h.short
 have hne:((len:Int) == 0)=false:=by simp;omega
 have HR:Hd (Rd B w R (some ⟨b,off,none⟩) len cap p):=h
 clear h
 obtain⟨m,rfl⟩:=Int.eq_ofNat_of_zero_le hu1
 go_enter Tryz.func60,Tryz.ntmps60
 go_wp2
 go_ret
 exact⟨⟨m % n,by first|rfl|(simp;omega),Nat.mod_lt _ (by omega)⟩,HR.o.step,Ci _ _ _ _⟩
theorem pick_none (w:World) (B R:Nat) (a:Option Addr) (cap p:Nat) (n:Nat) (h:Rd B w R a 0 cap p) (hp:p<=100000) (hn:1<=n) (hn2:n<=1000) :
  Calls Tryz.prog 60 #[.pointer (some ⟨R,0,none⟩),.int .i64 n] w fun e w'=>(∃ x:Nat,e=.returned (.int .i64 x)/\x<n)/\Rd B w' R a 0 cap (p+1)/\w.grownBy w' (some R):=by
 have c0:=h.cell0
 have c1:=h.cell1
 have f1:=h.free 1
 have HR:Hd (Rd B w R a 0 cap p):=h
 clear h
 go_enter Tryz.func60,Tryz.ntmps60
 go_wp2
 go_ret
 exact⟨⟨0,rfl,by omega⟩,HR.o.step,Ci _ _ _ _⟩
theorem pick_any (w:World) (B R:Nat) (a:Option Addr) (len cap p:Nat) (n:Nat) (h:Rd B w R a len cap p) (hp:p<=100000) (hn:1<=n) (hn2:n<=1000) :
  Calls Tryz.prog 60 #[.pointer (some ⟨R,0,none⟩),.int .i64 n] w fun e w'=>(∃ x:Nat,e=.returned (.int .i64 x)/\x<n)/\Rd B w' R a len cap (p+1)/\w.grownBy w' (some R):=by
 by_cases h0:len=0
 ·subst h0;exact pick_none w B R a cap p n h hp hn hn2
 ·by_cases hl:p<len
  ·obtain⟨b,off,u,rfl,hb,_,hc,h1,h2⟩:=h.bytes p hl;exact pick_near w B R b off len cap p n u h hp hn hn2 hl hc h1 h2 hb
  ·have m1:p % len<len:=Nat.mod_lt _ (by omega);have m2:(p*7+3) % len<len:=Nat.mod_lt _ (by omega);obtain⟨b,off,u,rfl,hb,_,hc,h1,h2⟩:=h.bytes (p % len) m1;obtain⟨b',off',v,he,_,_,hc',h1',h2'⟩:=h.bytes ((p*7+3) % len) m2;cases he;exact pick_far w B R b off len cap p n u v (p % len) ((p*7+3) % len) (p / len) h hp hn hn2 (by omega) (by omega) hc hc' h1 h2 h1' h2' hb (by simp) (by simp) (by simp) m1 m2 (Nat.div_le_self _ _)
def Tl (w:World) (a:Option Addr) (len:Nat):Prop:=∀ i,i<len->∃ b off v,a=some ⟨b,off,none⟩/\w.cell? ⟨b,off+i,none⟩=some (.int .u8 v)/\0<=v/\v<=255
theorem rd_new {w:World} {a:Option Addr} {len cap:Nat} (h:Tl w a len) (hs:len<=2000):Rd (w.heap.size+1) (w.alloc (.cells #[.slice a len cap,.int .i64 0] 128)) w.heap.size a len cap 0:=by
 refine⟨Bb w _,fun i hi=>?_,hs,by omega⟩
 obtain⟨b,off,v,ha,hc,h1,h2⟩:=h i hi
 have hb:b<w.heap.size:=World.block_lt_of_cell? w _ hc
 exact⟨b,off,v,ha,by omega,by omega,(World.grownBy_alloc w _ none).cell hc (by simp),h1,h2⟩
theorem l1Open_any (w:World) (a:Option Addr) (len cap:Nat) (h:Tl w a len) (hlc:len<=cap) (hl:len<=1048576) :
  Calls Tryz.prog 37 #[.slice a len cap] w fun e w'=>∃ len':Nat,e=.returned (.pointer (some ⟨w.heap.size,0,none⟩))/\Rd (w.heap.size+1) w' w.heap.size a len' cap 0/\w.heap.size+1=w'.heap.size/\Below w.heap.size w w':=by
 by_cases h2:len<=2000
 ·go_enter Tryz.func37,Tryz.ntmps37;go_wp2;go_ret;exact⟨len,rfl,rd_new h h2,by simp,aN _ _⟩
 ·have h3:(2000:Int)<=cap:=by omega
  have h4:¬ cap=0:=by omega
  go_enter Tryz.func37,Tryz.ntmps37;go_wp2;go_ret;exact⟨2000,rfl,rd_new (fun i hi=>h i (by omega)) (Nat.le_refl _),by simp,aN _ _⟩
theorem Lw (w:World) (B R:Nat) (a:Option Addr) (len cap p:Nat) (n:Int) (h:Rd B w R a len cap p) (hp:p<=100000) (hn:1<=n) (hn2:n<=1000) :
  Calls Tryz.prog 60 #[.pointer (some ⟨R,0,none⟩),.int .i64 n] w fun e w'=>∃ x:Nat,e=.returned (.int .i64 x)/\(x:Int)<n/\Rd B w' R a len cap (p+1)/\w.grownBy w' (some R):=by
 obtain⟨m,rfl⟩:=Int.eq_ofNat_of_zero_le (show 0<=n by omega)
 refine(pick_any w B R a len cap p m h hp (by omega) (by omega)).mono ?_
 rintro e w' ⟨⟨x,rfl,hx⟩,h1,h2⟩
 exact⟨x,rfl,by omega,h1,h2⟩
theorem Ic {w a b:World} {R:Nat} (h:w.grownBy a (some R)) (h2:a.grownBy b (some R)):w.grownBy b (some R):=Gh h h2 (fun k hk=>by cases hk;exact Or.inl rfl)
theorem Tryz.info5':(Tryz.prog.info? 5).map (fun i=>(i.zero,i.size,i.bytes))=some (some (.int .u8 0),1,1):=by kernel_rfl
theorem byte_of (c:Nat) (h:c<4):∃ u:UInt8,(u.toNat:Int)=97+c:=⟨UInt8.ofNat (97+c),by rw[UInt8.toNat_ofNat'];omega⟩
theorem Zd {w wx w1:World} {B R:Nat} {a:Option Addr} {len cap p j g cap':Nat} {l:List UInt8} {u:UInt8} {v':Value} (hB:B<=w.heap.size) (hg:w.heap.size<=g) (hgw:w.grownBy wx (some R)) (hR:Rd B wx R a len cap p)
  (hown':w1.ownsRow w.heap.size 5 1 v' (j+1) (Nw l++[.int .u8 u.toNat])) (hgrow:(wx.alloc (.cells #[.int .u8 u.toNat] 5)).grownBy w1 (Value.slice (some ⟨g,0,none⟩) j cap').ownBlock) :
  ∃ g cap':Nat,v'=.slice (some ⟨g,0,none⟩) (j+1) cap'/\w1.ownsRow w.heap.size 5 1 (.slice (some ⟨g,0,none⟩) (j+1) cap') (j+1) (Nw (l++[u]))/\Rd B w1 R a len cap p/\w.grownBy w1 (some R):=by
 have hs:=hgw.size
 have e:Nw (l++[u])=Nw l++[.int .u8 u.toNat]:=by simp[Nw]
 rw[<- e] at hown'
 have r1:Rd B w1 R a len cap p:=(hR.kept (by omega) (World.grownBy_alloc _ _ none) (by simp)).kept (by simp;omega) hgrow (by intro k hk;simp[Value.ownBlock] at hk;omega)
 have r2:w.grownBy w1 (some R):=Gh (Gh hgw (World.grownBy_alloc _ _ none) (by simp)) hgrow (by intro k hk;simp[Value.ownBlock] at hk;omega)
 rcases hown'.2 with ⟨_,h⟩|⟨g,cap,cur,hv,_⟩
 ·omega
 ·subst hv;exact⟨g,cap,rfl,hown',r1,r2⟩
theorem l1Text_any (w:World) (B R:Nat) (a:Option Addr) (len cap p:Nat) (h:Rd B w R a len cap p) (hB:B<=w.heap.size) (hp:p<=90000) :
  Calls Tryz.prog 94 #[.pointer (some ⟨R,0,none⟩)] w fun e w'=>∃ s:ByteArray,∃ p':Nat,e=.returned (.string s)/\s.size<=10/\Rd B w' R a len cap p'/\p'<=p+10/\w.grownBy w' (some R):=by
 obtain⟨i0,hi,hz0,hz1,hz2⟩:=info_parts Tryz.info5'
 go_enter Tryz.func94,Tryz.ntmps94
 go_wp2_with fail
 refine(Lw w B R a len cap p _ h (by omega) (by omega) (by omega)).mono ?_
 rintro e w1 ⟨x,rfl,hx,hR1,hg1⟩
 rcases (show x=0\/x=1\/x=2\/x=3\/x=4\/x=5\/6<=x from by omega) with rfl|rfl|rfl|rfl|rfl|rfl|hx6
 iterate 6
  ·go_wp2;go_ret;exact⟨_,p+1,rfl,by decide,hR1,by omega,hg1⟩
 ·go_wp2_with fail;refine(Lw w1 B R a len cap (p+1) _ hR1 (by omega) (by omega) (by omega)).mono ?_;rintro e w2 ⟨n,rfl,hn,hR2,hg2⟩;have hg:w.grownBy w2 (some R):=Ic hg1 hg2;clear hg1 hg2 hR1;go_wp2_with fail;have hs0:=hg.size
  go_loopw [4,5] (fun o i wr=>∃ j g cap':Nat,∃ l:List UInt8,j<=n+1/\l.length=j/\i=.int .i64 j/\o=.slice (some ⟨g,0,none⟩) j cap'/\wr.ownsRow w.heap.size 5 1 (.slice (some ⟨g,0,none⟩) j cap') j (Nw l)/\Rd B wr R a len cap (p+2+j)/\w.grownBy wr (some R)) (fun _ i _=>n+1-(intOf i).toNat)
  case atStart=>
   refine⟨0,w2.heap.size,0,[],by omega,rfl,rfl,rfl,World.ownsRow_lit w2 #[] 0 hs0 (by unfold maxLen;omega) (by simp),hR2.kept (by omega) (World.grownBy_alloc _ _ none) (by simp),Gh hg (World.grownBy_alloc _ _ none) (by simp)⟩
  case round=>
   obtain⟨j,g,cap',l,hj,hl,rfl,rfl,hown,hR,hgw⟩:=hrel
   by_cases hlt:j<=n
   ·go_wp2_with fail;refine(Lw wr B R a len cap (p+2+j) _ hR (by omega) (by omega) (by omega)).mono ?_;rintro e wx ⟨c,rfl,hc,hR',hgp⟩;have hgB:=(hown.lt g rfl).1;have hRB:=hR.lt;have hown2:=hown.kept hgp (Or.inr (by simp[Value.ownBlock];omega));have hgx:w.grownBy wx (some R):=Ic hgw hgp;have hsx:=hgx.size;obtain⟨u,hu⟩:=byte_of c (by omega);clear hown hR hgp hgw
    go_wp2_with (first|(at_builtin;rw[<- hu];refine wpList_append_own _ rfl (.tmp 28) (.tmp 33) 22 rfl w.heap.size 5 i0 (.int .u8 0) 1 1 Tryz.underlying22 hi hz0 hz1 hz2 rfl (by decide) _ _ _ rfl (hown2.alloc _) ⟨wx.heap.size,0,none⟩ 1 1 [.int .u8 u.toNat] rfl rfl (cell_one_new _ _ _) (by intro u hu;simp at hu;subst hu;rfl) (by unfold maxLen;omega) (by omega) (by simp;omega) ?_;intro v' w1 hown' hgrow hnil;obtain⟨g',cap2,hv',R⟩:=Zd hB hgB hgx hR' hown' hgrow;clear hown' hgrow hnil hown2 hgx hR';rw[hv'];clear hv'))
    go_roundw
    case rel=>exact⟨j+1,g',cap2,l++[u],by omega,by simp[hl],by go_num,rfl,R.1,by rw[show p+2+(j+1)=p+2+j+1 by omega];exact R.2.1,R.2.2⟩
    case measure=>simp[intOf];omega
   ·have hcv:(convert 22 9 (.slice (some ⟨g,0,none⟩) j cap')).run Tryz.prog wr=.ok (.string ⟨l.toArray⟩) wr:=by
     have:=run_convert_bytes_back (P:=Tryz.prog) wr 22 9 5 ⟨g,0,none⟩ cap' l Tryz.underlying22 Tryz.underlying5 Tryz.underlying9 (fun t ht=>hown.cells rfl t _ (by rw[Nw,List.getElem?_map,gQ ht];rfl))
     rwa [hl] at this
    go_wp2;go_ret;exact⟨⟨l.toArray⟩,p+2+j,rfl,by show l.toArray.size<=10;simp;omega,hR,by omega,hgw⟩
theorem Dk {w a b:World} {R:Nat} (h:w.grownBy a (some R)) (h2:Below a.heap.size a b):w.grownBy b (some R):=
 ⟨h2.os.trans h.os,h2.tape.trans h.tape,h2.output.trans h.output,Nat.le_trans h.size h2.size,fun k hk hne=>(h2.block k (by have:=h.size;omega)).trans (h.block k hk hne)⟩
theorem Pf (w:World) (R:Nat):w.grownBy w (some R):=⟨rfl,rfl,rfl,Nat.le_refl _,fun _ _ _=>rfl⟩
theorem Rd.bl {B:Nat} {w w':World} {R:Nat} {a:Option Addr} {len cap p:Nat} (h:Rd B w R a len cap p) (hB:B<=w.heap.size) (hb:Below w.heap.size w w'):Rd B w' R a len cap p:=
 h.kept (row:=none) hB ⟨hb.os,hb.tape,hb.output,hb.size,fun k hk _=>hb.block k hk⟩ (by simp)
def Bd (B R:Nat) (a:Option Addr) (len cap p K:Nat) (w w':World):Prop:=w.grownBy w' (some R)/\∃ p',p'<=p+K/\Rd B w' R a len cap p'
theorem Ky (s:ByteArray) (n:Nat) (w:World) (hs:s.size<=100) (hn:n<=5000) :
  Calls Tryz.prog 101 #[.string s,.int .i64 n] w fun e w'=>∃ r:ByteArray,e=.returned (.string r)/\r.size=s.size*n/\w'=w:=by
 obtain⟨T,eT⟩:∃ T,s.size*n=T:=⟨_,rfl⟩
 have hT:T<=500000:=by rw[<- eT];exact Nat.le_trans (Nat.mul_le_mul hs hn) (by omega)
 have HT:Hd (s.size*n=T):=eT
 rw[eT]
 clear eT
 go_enter Tryz.func101,Tryz.ntmps101
 go_wp2
 go_loopw [0,1,5] (fun x i o wr=>∃(y r:ByteArray) (m:Nat),m<=5000/\y.size<=1000000+100/\x=.string y/\i=.int .i64 m/\o=.string r/\Hd (r.size+y.size*m=T)/\wr=w) (fun _ i _ _=>(intOf i).toNat)
 case atStart=>exact⟨s,⟨#[]⟩,n,hn,by omega,rfl,rfl,rfl,by show 0+s.size*n=T;rw[Nat.zero_add];exact HT.o,rfl⟩
 case round=>
  obtain⟨y,r,m,hm,hy,rfl,rfl,rfl,HI,rfl⟩:=hrel
  by_cases h0:0<m
  ·have h0I:(0:Int)<(m:Int):=by omega
   have hyT:y.size<=T:=by
    have:=HI.o;have h2:y.size*1<=y.size*m:=Nat.mul_le_mul (Nat.le_refl _) h0;omega
   have hrT:r.size<=T:=by have:=HI.o;omega
   by_cases h1:m % 2=1
   ·have h1I:((m:Int) % 2 == 1)=true:=by simp;omega
    have HN:Hd ((r++y).size+(y++y).size*(m / 2)=T):=by
     show _=_;rw[ByteArray.size_append,ByteArray.size_append,<- HI.o];(have e:m=2*(m / 2)+1:=by omega);generalize m / 2=k at e;subst e;rw[Nat.add_mul,Nat.mul_add,Nat.mul_one,<- Nat.mul_assoc,Nat.mul_comm y.size 2,Nat.mul_assoc];omega
    go_wp2_with fail;(have e2:(m:Int) / 2=((m / 2:Nat):Int):=by omega);rw[e2];exact⟨⟨y++y,r++y,m / 2,by omega,by rw[ByteArray.size_append];omega,rfl,rfl,rfl,HN,trivial⟩,by simp[intOf];omega⟩
   ·have h1I:((m:Int) % 2 == 1)=false:=by simp;omega
    have HN:Hd (r.size+(y++y).size*(m / 2)=T):=by
     show _=_;rw[ByteArray.size_append,<- HI.o];(have e:m=2*(m / 2):=by omega);generalize m / 2=k at e;subst e;rw[Nat.add_mul,<- Nat.mul_assoc,Nat.mul_comm y.size 2,Nat.mul_assoc];omega
    go_wp2_with fail;(have e2:(m:Int) / 2=((m / 2:Nat):Int):=by omega);rw[e2];exact⟨⟨y++y,r,m / 2,by omega,by rw[ByteArray.size_append];omega,rfl,rfl,rfl,HN,trivial⟩,by simp[intOf];omega⟩
  ·obtain rfl:m=0:=by omega
   have h0I:¬ (0:Int)<((0:Nat):Int):=by omega
   have HR:Hd (r.size=T):=by have:=HI.o;rw[Nat.mul_zero,Nat.add_zero] at this;exact this
   go_wp2_with fail;exact bR (v:=.string r) (by simp[results,Tryz.results101,go_sem]) rfl ⟨r,rfl,HR.o,rfl⟩
theorem l2Name_any (w:World) (B R:Nat) (a:Option Addr) (len cap p:Nat) (h:Rd B w R a len cap p) (hB:B<=w.heap.size) (hp:p<=90000) :
  Calls Tryz.prog 95 #[.pointer (some ⟨R,0,none⟩)] w fun e w'=>∃ s:ByteArray,e=.returned (.string s)/\s.size<=10/\Bd B R a len cap p 1 w w':=by
 go_enter Tryz.func95,Tryz.ntmps95
 go_wp2_with fail
 refine(Lw w B R a len cap p _ h (by omega) (by omega) (by omega)).mono ?_
 rintro e w1 ⟨x,rfl,hx,hR1,hg1⟩
 have HK:Hd (Bd B R a len cap p 1 w w1):=⟨hg1,p+1,Nat.le_refl _,hR1⟩
 have HG:Hd (w.grownBy w1 (some R)/\Rd B w1 R a len cap (p+1)/\B<=w1.heap.size):=⟨hg1,hR1,Nat.le_trans hB hg1.size⟩
 clear hg1 hR1 h
 by_cases h6:x<6
 ·have h6I:(x:Int)<6:=by omega
  rcases (show x=0\/x=1\/x=2\/x=3\/x=4\/x=5 from by omega) with rfl|rfl|rfl|rfl|rfl|rfl
  all_goals
   go_wp2;go_ret;exact⟨_,rfl,by decide,HK.o⟩
 ·have h6I:¬ (x:Int)<6:=by omega
  by_cases h14:x<14
  ·have h14I:(x:Int)<14:=by omega
   obtain⟨m,rfl⟩:∃ m,x=m+6:=⟨x-6,by omega⟩;have e6:((m+6:Nat):Int)-6=(m:Int):=by omega
   have HDC:Hd (Calls Tryz.prog 33 #[.int .i64 m] w1 _):=Gr m w1 (by omega);have hdl:(Lib.decDigits m).length<=1:=Ep 0 m (by omega);go_wp2_with fail;refine HDC.o.mono ?_;rintro e w2 ⟨rfl,hb2⟩;have HB2:Hd (Below w1.heap.size w1 w2):=hb2;obtain⟨q,eq⟩:∃ q,(⟨(Lib.decDigits m).toArray⟩:ByteArray)=q:=⟨_,rfl⟩;have hq:q.size<=1:=by rw[<- eq];show (Lib.decDigits m).toArray.size<=1;simpa using hdl
   rw[eq];clear hb2 eq HDC;go_wp2_with fail;exact bR (v:=.string (⟨#[116]⟩++q)) (by simp[results,Tryz.results95,go_sem]) rfl ⟨_,rfl,by rw[ByteArray.size_append];show 1+q.size<=10;omega,Dk HG.o.1 HB2.o,p+1,Nat.le_refl _,HG.o.2.1.bl HG.o.2.2 HB2.o⟩
  ·have h14I:¬ (x:Int)<14:=by omega
   go_wp2;go_ret;exact⟨_,rfl,by decide,HK.o⟩
theorem Ax (s:ByteArray) (w:World):Calls Tryz.prog 62 #[.string s] w fun e w'=>e=.returned (.agg #[.int .i64 1,.string s,.int .i64 0])/\Below w.heap.size w w':=by
 go_enter Tryz.func62,Tryz.ntmps62
 go_wp2
 exact bR (v:=.agg #[.int .i64 1,.string s,.int .i64 0]) (by simp[results,Tryz.results62,go_sem]) rfl ⟨rfl,aN _ _⟩
theorem Au (o:Int) (w:World):Calls Tryz.prog 63 #[.int .i64 o] w fun e w'=>e=.returned (.agg #[.int .i64 o,.string ⟨#[]⟩,.int .i64 0])/\Below w.heap.size w w':=by
 go_enter Tryz.func63,Tryz.ntmps63
 go_wp2
 exact bR (v:=.agg #[.int .i64 o,.string ⟨#[]⟩,.int .i64 0]) (by simp[results,Tryz.results63,go_sem]) rfl ⟨rfl,aN _ _⟩
theorem El (o n:Int) (w:World):Calls Tryz.prog 98 #[.int .i64 o,.int .i64 n] w fun e w'=>e=.returned (.agg #[.int .i64 o,.string ⟨#[]⟩,.int .i64 n])/\Below w.heap.size w w':=by
 go_enter Tryz.func98,Tryz.ntmps98
 go_wp2
 exact bR (v:=.agg #[.int .i64 o,.string ⟨#[]⟩,.int .i64 n]) (by simp[results,Tryz.results98,go_sem]) rfl ⟨rfl,aN _ _⟩
theorem Qw (n:Int) (w:World):Calls Tryz.prog 136 #[.int .i64 n] w fun e w'=>(∃ m:Int,e=.returned (.int .i64 m))/\w'=w:=by
 by_cases h:(200:Int)<n
 ·go_enter Tryz.func136,Tryz.ntmps136;go_wp2;go_ret;exact⟨⟨200,rfl⟩,rfl⟩
 ·go_enter Tryz.func136,Tryz.ntmps136;go_wp2;go_ret;exact⟨⟨n,rfl⟩,rfl⟩
structure Ow (w0 w:World) (g n c:Nat) (is:List I3):Prop where
 ln:n=is.length
 row:w.ownsRow w0.heap.size 106 3 (.slice (some ⟨g,0,none⟩) n c) n (Di is)
 tx:∀ x∈is,x.text.size<=50000
theorem Ow.bl {w0 w w':World} {g n c:Nat} {is:List I3} (h:Ow w0 w g n c is) (hb:Below w.heap.size w w'):Ow w0 w' g n c is:=⟨h.ln,Fs h.row (fun b _ hb'=>hb.block b hb'),h.tx⟩
theorem Tryz.info80D:(Tryz.prog.info? 106).map (fun i=>(i.zero,i.size,i.bytes))=some (some (.agg #[.int .i64 0,.string ⟨#[]⟩,.int .i64 0]),3,32):=by kernel_rfl
theorem Ow.gb {w0 w w':World} {g n c R:Nat} {is:List I3} (h:Ow w0 w g n c is) (hg:w.grownBy w' (some R)) (hR:R<w0.heap.size):Ow w0 w' g n c is:=⟨h.ln,Fs h.row (fun b hb hlt=>hg.block b hlt (fun e=>by injection e with e;omega)),h.tx⟩
theorem Bd.bl {B R:Nat} {a:Option Addr} {len cap p K:Nat} {w0 w w':World} (h:Bd B R a len cap p K w0 w) (hB:B<=w0.heap.size) (hb:Below w.heap.size w w'):Bd B R a len cap p K w0 w':=by
 obtain⟨h1,p',h2,h3⟩:=h
 exact⟨Dk h1 hb,p',h2,h3.bl (Nat.le_trans hB h1.size) hb⟩
theorem Bd.more {B R:Nat} {a:Option Addr} {len cap p K K':Nat} {w0 w:World} (h:Bd B R a len cap p K w0 w) (hK:K<=K'):Bd B R a len cap p K' w0 w:=by
 obtain⟨h1,p',h2,h3⟩:=h
 exact⟨h1,p',by omega,h3⟩
theorem Bd.then {B R:Nat} {a:Option Addr} {len cap p p' K K':Nat} {w0 w w':World} (h:w0.grownBy w (some R)) (hp:p'<=p+K) (k:Bd B R a len cap p' K' w w'):Bd B R a len cap p (K+K') w0 w':=by
 obtain⟨h1,q,h2,h3⟩:=k
 exact⟨Ic h h1,q,by omega,h3⟩
theorem Bd.pick {B R:Nat} {a:Option Addr} {len cap p K:Nat} {w0 w:World} (h:Bd B R a len cap p K w0 w) (hp:p+K<=90000) (n:Int) (hn:1<=n) (hn2:n<=1000) :
  Calls Tryz.prog 60 #[.pointer (some ⟨R,0,none⟩),.int .i64 n] w fun e w'=>∃ x:Nat,e=.returned (.int .i64 x)/\(x:Int)<n/\Bd B R a len cap p (K+1) w0 w'/\w.grownBy w' (some R):=by
 obtain⟨h1,p',h2,h3⟩:=h
 refine(Lw w B R a len cap p' n h3 (by omega) hn hn2).mono ?_
 rintro e w' ⟨x,rfl,hx,hr,hg⟩
 exact⟨x,rfl,hx,⟨Ic h1 hg,p'+1,by omega,hr⟩,hg⟩
theorem Bd.text {B R:Nat} {a:Option Addr} {len cap p K:Nat} {w0 w:World} (h:Bd B R a len cap p K w0 w) (hB:B<=w0.heap.size) (hp:p+K<=90000) :
  Calls Tryz.prog 94 #[.pointer (some ⟨R,0,none⟩)] w fun e w'=>∃ s:ByteArray,e=.returned (.string s)/\s.size<=10/\Bd B R a len cap p (K+10) w0 w'/\w.grownBy w' (some R):=by
 obtain⟨h1,p',h2,h3⟩:=h
 refine(l1Text_any w B R a len cap p' h3 (Nat.le_trans hB h1.size) (by omega)).mono ?_
 rintro e w' ⟨s,q,rfl,hs,hr,hq,hg⟩
 exact⟨s,rfl,hs,⟨Ic h1 hg,q,by omega,hr⟩,hg⟩
theorem Bd.name {B R:Nat} {a:Option Addr} {len cap p K:Nat} {w0 w:World} (h:Bd B R a len cap p K w0 w) (hB:B<=w0.heap.size) (hp:p+K<=90000) :
  Calls Tryz.prog 95 #[.pointer (some ⟨R,0,none⟩)] w fun e w'=>∃ s:ByteArray,e=.returned (.string s)/\s.size<=10/\Bd B R a len cap p (K+1) w0 w'/\w.grownBy w' (some R):=by
 obtain⟨h1,p',h2,h3⟩:=h
 refine(l2Name_any w B R a len cap p' h3 (Nat.le_trans hB h1.size) (by omega)).mono ?_
 rintro e w' ⟨s,rfl,hs,hg,q,hq,hr⟩
 exact⟨s,rfl,hs,⟨Ic h1 hg,q,by omega,hr⟩,hg⟩
theorem Ow.app {B R:Nat} {a:Option Addr} {len cap p K:Nat} {w0 w wa w8:World} {g n c k:Nat} {is js:List I3} {news:List Value} {v8:Value} (hA:Below w.heap.size w wa) (h:Ow w0 w g n c is) (hK:Bd B R a len cap p K w0 w) (hB:B<=w0.heap.size) (hR:R<w0.heap.size) (hn:news=Di js) (hk:k=js.length) (h0:0<k) (ht:∀ x∈js,x.text.size<=50000)
  (hown:w8.ownsRow w0.heap.size 106 3 v8 (n+k) (Di is++news)) (hg:wa.grownBy w8 (Value.slice (some ⟨g,0,none⟩) n c).ownBlock) :
  ∃ g8 c8,v8=.slice (some ⟨g8,0,none⟩) (n+k) c8/\Ow w0 w8 g8 (n+k) c8 (is++js)/\Bd B R a len cap p K w0 w8:=by
 obtain⟨h1,p',h2,h3⟩:=hK
 have hgB:w0.heap.size<=g:=by
  rcases h.row.2 with ⟨q,_⟩|⟨g1,cap1,cur,q,hg,_⟩
  ·cases q
  ·simp only[Value.slice.injEq,Option.some.injEq,Addr.mk.injEq] at q;omega
 have hs:=h1.size
 obtain⟨g8,c8,rfl⟩:∃ g8 c8,v8=.slice (some ⟨g8,0,none⟩) (n+k) c8:=by
  rcases hown.2 with ⟨_,q⟩|⟨g1,cap1,cur,q,_⟩
  ·omega
  ·exact⟨g1,cap1,q⟩
 subst hn
 rw[<- Sl] at hown
 refine⟨g8,c8,rfl,⟨by rw[List.length_append,h.ln,hk],hown,fun x hx=>?_⟩,Gh (Dk h1 hA) hg (by intro b hb;simp[Value.ownBlock] at hb;omega),p',h2,(h3.bl (by omega) hA).kept (by have:=hA.size;omega) hg (by intro b hb;simp[Value.ownBlock] at hb;omega)⟩
 rcases List.mem_append.mp hx with q|q
 ·exact h.tx x q
 ·exact ht x q
theorem Va:∀(is:List I3) (i:Nat) (m:Int),i<is.length->(Di is).set (i*3+2) (.int .i64 m)=Di (is.set i ⟨(ix is i).op,(ix is i).text,m⟩)
 | [],i,m,h=>by simp at h
 | e :: r,0,m,h=>by
  simp[Di,Ex,ix]
 | e :: r,i+1,m,h=>by
  have:=Va r i m (by simpa using h);unfold Di at this ⊢;rw[List.set_cons_succ,List.flatMap_cons,List.flatMap_cons,List.set_append_right _ _ (by simp[Ex];omega)];have e1:(i+1)*3+2-(Ex e).length=i*3+2:=by simp[Ex];omega
  rw[e1,this];rfl
theorem Ow.setN {B R:Nat} {a:Option Addr} {len cap p K:Nat} {w0 w:World} {g n c:Nat} {is:List I3} (h:Ow w0 w g n c is) (hK:Bd B R a len cap p K w0 w) (hB:B<=w0.heap.size) (hR:R<w0.heap.size) (i:Nat) (hi:i<n) (m:Int) :
  Ow w0 (w.setCell ⟨g,i*3+2,none⟩ (.int .i64 m)) g n c (is.set i ⟨(ix is i).op,(ix is i).text,m⟩)/\Bd B R a len cap p K w0 (w.setCell ⟨g,i*3+2,none⟩ (.int .i64 m))/\(∃ v,w.cell? ⟨g,i*3+2,none⟩=some v)/\∀ j,w.frozen? ⟨g,j,none⟩=false:=by
 obtain⟨h1,p',h2,h3⟩:=hK
 have hgB:w0.heap.size<=g:=by
  rcases h.row.2 with ⟨q,_⟩|⟨g1,cap1,cur,q,hg,_⟩
  ·cases q
  ·simp only[Value.slice.injEq,Option.some.injEq,Addr.mk.injEq] at q;omega
 have hl:=h.ln
 have hst:=h.row.stored (i*3+2) (.int .i64 m)
 rw[Va is i m (by omega)] at hst
 have hsz:=h1.size
 refine⟨⟨by rw[List.length_set];exact hl,hst.1,fun x hx=>?_⟩,⟨Gh h1 (Ci _ _ _ _) (by intro b hb;cases hb;omega),p',h2,h3.kept (by omega) (Ci _ _ _ _) (by intro b hb;cases hb;omega)⟩,?_,fun j=>h.row.frozenAt j⟩
 ·rcases List.mem_or_eq_of_mem_set hx with q|q
  ·exact h.tx x q
  ·subst q
   have:ix is i∈is:=by
    (have e:ix is i=is[i]'(by omega):=by simp[ix,gG,(by omega:i<is.length)]);rw[e];exact List.getElem_mem _
   exact h.tx (ix is i) this
 ·rw[h.row.cellAt (i*3+2) (by omega)];exact⟨_,gQ (by rw[Bu];omega)⟩
end Go.Proofs.YtjlnkepkkdefdaaGreatDoor
