import Derived.Test.YtjlnkepkkdefdaaGreatDoorDrD
import Derived.Lib.SmallJoins
namespace Go.Proofs.YtjlnkepkkdefdaaGreatDoor
set_option maxHeartbeats 8000000
set_option maxRecDepth 100000
open Go.RowKit
set_option linter.unusedVariables false
set_option linter.unusedSimpArgs false
theorem Ow.lit {w0 w:World} {cs:Array Value} {n:Nat} {is:List I3} (hb:w0.heap.size<=w.heap.size) (hc:cs.toList=Di is) (hn:n=is.length) (hl:n<=1000) (ht:∀ x∈is,x.text.size<=50000):Ow w0 (w.alloc (.cells cs 106)) w.heap.size n n is:=by
 subst hn
 refine⟨rfl,?_,ht⟩
 have:=World.ownsRow_lit (base:=w0.heap.size) (e:=106) (size:=3) w cs is.length hb (by unfold maxLen;omega) (by rw[<- Array.length_toList,hc,Bu])
 rw[hc] at this
 exact this
theorem Yx (n:Nat) (w:World) (hn:n<=5000) :
  Calls Tryz.prog 123 #[.int .i64 n] w fun e w'=>∃(g:Nat) (is:List I3),e=.returned (.slice (some ⟨g,0,none⟩) 7 7)/\Ow w w' g 7 7 is/\Below w.heap.size w w':=by
 have HB:Hd (Below w.heap.size w w):=Below.refl _ _
 go_enter Tryz.func123,Tryz.ntmps123
 go_wp2_with (first|(go_at_call 101;refine(Ky _ n _ (by decide) hn).mono ?_;rintro e wx ⟨s,rfl,hs,hw⟩;rw[hw];clear hw wx)|(go_at_call 62;refine(Ax _ _).mono ?_;rintro e wn ⟨rfl,hb⟩;have HB:Hd (Below w.heap.size w wn):=HB.o.trans (hb.mono HB.o.size);clear hb)|(go_at_call 63;refine(Au _ _).mono ?_;rintro e wn ⟨rfl,hb⟩;have HB:Hd (Below w.heap.size w wn):=HB.o.trans (hb.mono HB.o.size);clear hb)|(go_at_call 98;refine(El _ _ _).mono ?_;rintro e wn ⟨rfl,hb⟩;have HB:Hd (Below w.heap.size w wn):=HB.o.trans (hb.mono HB.o.size);clear hb))
 have hsz:s.size<=50000:=by rw[hs];exact Nat.le_trans (Nat.mul_le_mul (show (⟨#[97,32]⟩:ByteArray).size<=2 by decide) hn) (by omega)
 exact bR (v:=.slice (some ⟨wn.heap.size,0,none⟩) 7 7) (by simp[results,Tryz.results123,go_sem]) rfl ⟨wn.heap.size,[⟨1,s,0⟩,⟨7,⟨#[]⟩,0⟩,⟨5,⟨#[]⟩,0⟩,⟨13,⟨#[]⟩,0⟩,⟨9,⟨#[]⟩,0⟩,⟨4,⟨#[]⟩,2⟩,⟨10,⟨#[]⟩,1⟩],rfl,Ow.lit HB.o.size rfl rfl (by omega) (by intro x hx;simp at hx;rcases hx with rfl|rfl|rfl|rfl|rfl|rfl|rfl<;>first|(simp only;omega)|(show 0<=50000;omega)),HB.o.alloc HB.o.size _⟩
theorem Ow.base {w0 w1 w:World} {g n c:Nat} {is:List I3} (h:Ow w1 w g n c is) (hle:w0.heap.size<=w1.heap.size):Ow w0 w g n c is:=by
 refine⟨h.ln,⟨h.row.1,?_⟩,h.tx⟩
 rcases h.row.2 with k|⟨g1,cap,cur,e1,hg,r⟩
 ·exact Or.inl k
 ·exact Or.inr ⟨g1,cap,cur,e1,by omega,r⟩
theorem Ow.row3 {w0 w:World} {g n c:Nat} {is:List I3} (h:Ow w0 w g n c is):Dr w (some ⟨g,0,none⟩) is:=fun i hi=>by
 have hl:=h.ln
 have e:∀ j,j<3->w.cell? ⟨g,i*3+j,none⟩=(Ex (ix is i))[j]?:=fun j hj=>by rw[h.row.cellAt (i*3+j) (by omega),Ia is i j hi hj]
 refine⟨g,0,rfl,?_,?_,?_⟩
 ·have:=e 0 (by omega);rw[Nat.zero_add];exact this
 ·have:=e 1 (by omega);rw[Nat.zero_add];exact this
 ·have:=e 2 (by omega);rw[Nat.zero_add];exact this
theorem Ow.short {w0 w:World} {g n c:Nat} {is:List I3} (h:Ow w0 w g n c is) (i:Nat):(ix is i).text.size<=50000:=by
 rcases Nat.lt_or_ge i is.length with q|q
 ·have e:ix is i=is[i]:=by simp[ix,gG,q]
  rw[e];exact h.tx _ (List.getElem_mem q)
 ·have e:ix is i=Go.Proofs.YtjlnkepkkdefdaaGreatDoor.i0:=by simp[ix,gG,q]
  rw[e];exact Nat.zero_le _
def ProgP (B R:Nat) (a:Option Addr) (len cap p K:Nat) (w:World) (e:Ending) (w':World):Prop:=
 ∃(g n c:Nat) (is:List I3),e=.returned (.agg #[.slice (some ⟨g,0,none⟩) n c])/\Ow w w' g n c is/\0<n/\n<=400/\Bd B R a len cap p K w w'
theorem De {B R:Nat} {a:Option Addr} {len cap p K1 K:Nat} {u w V:World} {g n c:Nat} {is:List I3} {o:Obj} (ew:u.alloc o=w) (hB:B<=u.heap.size) (ho:Ow w V g n c is) (hk:Bd B R a len cap p K1 w V) (h0:0<n) (hL:n<=400) (hK:K1<=K) (x:Value) :
  ProgP B R a len cap p K u (.returned (.agg #[.slice (some ⟨g,0,none⟩) n c])) (V.setCell ⟨u.heap.size,0,none⟩ x):=by
 have hw:w.heap.size=u.heap.size+1:=by rw[<- ew];simp
 obtain⟨h1,p',h2,h3⟩:=hk
 have hs:=h1.size
 have ho2:Ow w (V.setCell ⟨u.heap.size,0,none⟩ x) g n c is:=⟨ho.ln,Fs ho.row (fun b hb _=>hC V ⟨u.heap.size,0,none⟩ x b (by simp;omega)),ho.tx⟩
 have hu:u.grownBy w (some R):=by rw[<- ew];exact World.grownBy_alloc _ _ _
 refine⟨g,n,c,is,rfl,ho2.base (by omega),h0,hL,Gh (Ic hu h1) (Ci _ _ _ _) (by intro k hk;cases hk;exact Or.inr (Nat.le_refl _)),p',by omega,h3.kept (by omega) (Ci _ _ _ _) (by intro k hk;cases hk;exact hB)⟩
theorem box_cell {R:Nat} {u w V:World} {x:Value} {T:TypeId} (ew:u.alloc (.cells #[x] T)=w) (hg:w.grownBy V (some R)) (hR:R<u.heap.size):V.cell? ⟨u.heap.size,0,none⟩=some x/\V.frozen? ⟨u.heap.size,0,none⟩=false/\∀ y,(V.setCell ⟨u.heap.size,0,none⟩ y).cell? ⟨u.heap.size,0,none⟩=some y:=by
 have e:V.heap[u.heap.size]?=some (.cells #[x] T (0,0)):=by
  rw[hg.block _ (by rw[<- ew];simp) (fun e=>by injection e with e;omega),<- ew];exact Bb _ _
 exact⟨by rw[cH e];rfl,fH e 0,fun y=>by rw[cH (jB e y (i:=0))];rfl⟩
theorem Pa (B R:Nat) (a:Option Addr) (len cap p:Nat) (u:World) (h:Rd B u R a len cap p) (hBu:B<=u.heap.size) (hp:p<=60000) :
  Calls Tryz.prog 96 #[.pointer (some ⟨R,0,none⟩)] u fun e w'=>ProgP B R a len cap p 1300 u e w':=by
 have hRB:=h.lt
 obtain⟨i0,hi,hz0,hz1,hz2⟩:=info_parts Tryz.info80D
 obtain⟨w,ew⟩:∃ w,u.alloc (.cells #[.slice none 0 0] 37)=w:=⟨_,rfl⟩
 have hw:w.heap.size=u.heap.size+1:=by rw[<- ew];simp
 have HWS:Hd (w.heap.size=u.heap.size+1):=hw
 have hB:B<=w.heap.size:=by omega
 have hwR:R<w.heap.size:=by omega
 have HK:Hd (Bd B R a len cap p 0 w w):=⟨Pf _ _,p,Nat.le_refl _,by rw[<- ew];exact h.bl hBu (aN _ _)⟩
 have EW:Hd (u.alloc (.cells #[.slice none 0 0] 37)=w):=ew
 have HBX:Hd (∀ V,w.grownBy V (some R)->V.cell? ⟨u.heap.size,0,none⟩=some (.slice none 0 0)/\V.frozen? ⟨u.heap.size,0,none⟩=false/\∀ y,(V.setCell ⟨u.heap.size,0,none⟩ y).cell? ⟨u.heap.size,0,none⟩=some y):=fun V hV=>box_cell ew hV (by omega)
 clear h hw
 go_enter Tryz.func96,Tryz.ntmps96
 go_wp2_with fail
 refine(HK.o.pick (by omega) _ (by omega) (by omega)).mono ?_
 rintro e w1 ⟨y,rfl,hy,hk,hg⟩
 have HV:Hd (∀(V:World) (p':Nat),Rd B V R a len cap p'->B<=V.heap.size->p'<=72000->Calls Tryz.prog 122 #[.pointer (some ⟨R,0,none⟩),.int .i64 0,.int .i64 (2+(y:Int))] V fun e w'=>ValP B R a len cap p' 1000 160 V e w'):=by
  intro V p' h1 h2 h3
  rcases (show y=0\/y=1 from by omega) with rfl|rfl
  ·refine(val2 B R a len cap p' 0 V h1 h2 (by omega) (by omega) (by omega)).mono ?_;rintro e w' ⟨g,c,is,rfl,ho,h0,hL,hk⟩;exact⟨g,c,is,rfl,ho,h0,by omega,hk.more (by omega)⟩
  ·exact val3 B R a len cap p' 0 V h1 h2 (by omega) (by omega) (by omega)
 have HK:Hd (Bd B R a len cap p 1 w w1):=hk
 clear hk hg
 go_wp2_with fail
 obtain⟨h1,p',h2,h3⟩:=HK.o
 refine(HV.o _ p' h3 (by have:=h1.size;omega) (by omega)).mono ?_
 rintro e w2 ⟨g,c,is,rfl,ow,hn0,hnL,rk⟩
 have HO:Hd (Ow w w2 g is.length c is):=ow.base h1.size
 have HK:Hd (Bd B R a len cap p 1001 w w2):=Bd.then h1 h2 rk
 obtain⟨n,en⟩:∃ n,is.length=n:=⟨_,rfl⟩
 rw[en] at HO hn0 hnL ⊢
 clear h1 h2 h3 ow rk HV en
 go_wp2_with fail
 refine(HK.o.pick (by omega) _ (by omega) (by omega)).mono ?_
 rintro e wn ⟨k,rfl,hk24,hk,hg⟩
 have HO:Hd (Ow w wn g n c is):=HO.o.gb hg (by omega)
 have HK:Hd (Bd B R a len cap p 1002 w wn):=hk
 clear hk hg
 by_cases h7:7<=k
 ·have k0:((k:Int) == 0)=false:=by simp;omega
  have k1:((k:Int) == 1)=false:=by simp;omega
  have k2:((k:Int) == 2)=false:=by simp;omega
  have k3:((k:Int) == 3)=false:=by simp;omega
  have k4:((k:Int) == 4)=false:=by simp;omega
  have k5:((k:Int) == 5)=false:=by simp;omega
  have k6:((k:Int) == 6)=false:=by simp;omega
  go_upto_region 18 with (first|(go_at_call 63;refine(Au _ _).mono ?_;rintro e wn ⟨rfl,hb⟩;have HO:Hd (Ow w wn _ _ _ _):=HO.o.bl hb;have HK:Hd (Bd B R a len cap p _ w wn):=HK.o.bl hB hb;clear hb)|(at_builtin;refine wpList_append_own _ rfl _ _ 35 rfl w.heap.size 106 i0 (.agg #[.int .i64 0,.string ⟨#[]⟩,.int .i64 0]) 3 32 Tryz.underlying35 hi hz0 hz1 hz2 rfl (by decide) _ _ _ ?_ (HO.o.row.alloc _) ⟨wn.heap.size,0,none⟩ 1 1 [.int .i64 15,.string ⟨#[]⟩,.int .i64 0] ?_ rfl (World.news_of_block (cs:=#[.int .i64 15,.string ⟨#[]⟩,.int .i64 0]) (t:=106) (fr:=(0,0)) (Bb _ _)) (fun u hu=>Bg ([⟨15,⟨#[]⟩,0⟩]:List I3) u hu) (by unfold maxLen;omega) (by omega) (by have:=HK.o.1.size;simp;omega) ?_;(focus (first|rfl|(simp[Act.eval];done)));(focus (first|rfl|(simp[Act.eval];done)));intro v8 w8 hown8 hgrow8 hnil8;obtain⟨g8,c8,rfl,ho8,hk8⟩:=Ow.app (aN _ _) HO.o HK.o hB (by omega) (js:=[⟨15,⟨#[]⟩,0⟩]) (k:=1) rfl rfl (by simp) (by intro x hx;simp at hx;subst hx;first|(simp only;omega)|(show 0<=50000;omega)) hown8 hgrow8;have HO:Hd (Ow w w8 _ _ _ _):=ho8;have HK:Hd (Bd B R a len cap p _ w w8):=hk8;clear ho8 hk8 hown8 hgrow8 hnil8))
  have hN4:n+1<=400:=by omega
  by_cases h200:(200:Int)<(n:Int)+1
  ·exfalso;omega
  ·have HVP:Hd (∀ V,Below w8.heap.size w8 V->True):=fun _ _=>trivial;obtain⟨js,ejs⟩:∃ js,(is++[⟨15,⟨#[]⟩,0⟩]:List I3)=js:=⟨_,rfl⟩;rw[ejs] at HO;have hln:=HO.o.ln
   have HVA:Hd (Calls Tryz.prog 44 #[.agg #[.slice (some ⟨g8,0,none⟩) (n+1) c8]] w8 fun e w'=>Below w8.heap.size w8 w'/\e=.returned (.bool (Ah js))):=by
    have q:=Cs (some ⟨g8,0,none⟩) c8 js w8 HO.o.row3 (by omega) (fun i=>by have:=HO.o.short i;omega);rw[<- hln] at q;exact q
   clear hln ejs;go_wp2_with fail;refine HVA.o.mono ?_;rintro e wn ⟨hb,rfl⟩;have HO:Hd (Ow w wn _ _ _ _):=HO.o.bl hb;have HK:Hd (Bd B R a len cap p _ w wn):=HK.o.bl hB hb;clear hb;obtain⟨bc,bf,bs⟩:=HBX.o wn HK.o.1
   cases Ah js with
   | true=>
    go_wp2_with fail;exact bR (v:=.agg #[.slice (some ⟨g8,0,none⟩) (n+1) c8]) (by simp[results,Tryz.results96,go_sem,bs]) rfl (De EW.o hBu HO.o HK.o (by omega) (by omega) (by omega) _)
   | false=>
    go_wp2_with (first|(go_at_call 62;refine(Ax _ _).mono ?_;rintro e wn ⟨rfl,hb⟩;have HO:Hd (Ow w wn _ _ _ _):=HO.o.bl hb;have HK:Hd (Bd B R a len cap p _ w wn):=HK.o.bl hB hb;clear hb)|(go_at_call 63;refine(Au _ _).mono ?_;rintro e wn ⟨rfl,hb⟩;have HO:Hd (Ow w wn _ _ _ _):=HO.o.bl hb;have HK:Hd (Bd B R a len cap p _ w wn):=HK.o.bl hB hb;clear hb;obtain⟨bc,bf,bs⟩:=HBX.o (wn.alloc (.cells #[.int .i64 1,.string ⟨#[120]⟩,.int .i64 0,.int .i64 15,.string ⟨#[]⟩,.int .i64 0] 106)) (Dk HK.o.1 (aN _ _))))
    exact bR (v:=.agg #[.slice (some ⟨wn.heap.size,0,none⟩) 2 2]) (by simp[results,Tryz.results96,go_sem,bs]) rfl (De EW.o hBu (Ow.lit (n:=2) (is:=[⟨1,⟨#[120]⟩,0⟩,⟨15,⟨#[]⟩,0⟩]) HK.o.1.size rfl rfl (by omega) (by intro x hx;simp at hx;rcases hx with rfl|rfl<;>first|(simp only;omega)|(show 0<=50000;omega)|(simp only;decide))) (HK.o.bl hB (aN _ _)) (by omega) (by omega) (by omega) _)
 ·rcases (show k=0\/k=1\/k=2\/k=3\/k=4\/k=5\/k=6 from by omega) with rfl|rfl|rfl|rfl|rfl|rfl|rfl
  ·have Q1:Hd True:=trivial;have Q2:Hd True:=trivial;go_upto_region 18 with (first|(go_at_call 63;refine(Au _ _).mono ?_;rintro e wn ⟨rfl,hb⟩;have HO:Hd (Ow w wn _ _ _ _):=HO.o.bl hb;have HK:Hd (Bd B R a len cap p _ w wn):=HK.o.bl hB hb;clear hb)|(clear Q1;at_builtin;refine wpList_append_own _ rfl _ _ 35 rfl w.heap.size 106 i0 (.agg #[.int .i64 0,.string ⟨#[]⟩,.int .i64 0]) 3 32 Tryz.underlying35 hi hz0 hz1 hz2 rfl (by decide) _ _ _ ?_ (HO.o.row.alloc _) ⟨wn.heap.size,0,none⟩ 1 1 [.int .i64 14,.string ⟨#[]⟩,.int .i64 0] ?_ rfl (World.news_of_block (cs:=#[.int .i64 14,.string ⟨#[]⟩,.int .i64 0]) (t:=106) (fr:=(0,0)) (Bb _ _)) (fun u hu=>Bg ([⟨14,⟨#[]⟩,0⟩]:List I3) u hu) (by unfold maxLen;omega) (by omega) (by have:=HK.o.1.size;simp;omega) ?_;(focus (first|rfl|(simp[Act.eval];done)));(focus (first|rfl|(simp[Act.eval];done)));intro v8 w8 hown8 hgrow8 hnil8;obtain⟨g8,c8,rfl,ho8,hk8⟩:=Ow.app (aN _ _) HO.o HK.o hB (by omega) (js:=[⟨14,⟨#[]⟩,0⟩]) (k:=1) rfl rfl (by simp) (by intro x hx;simp at hx;subst hx;first|(simp only;omega)|(show 0<=50000;omega)) hown8 hgrow8;have HO:Hd (Ow w w8 _ _ _ _):=ho8;have HK:Hd (Bd B R a len cap p _ w w8):=hk8;clear ho8 hk8 hown8 hgrow8 hnil8)|(clear Q2;at_builtin;refine wpList_append_own _ rfl _ _ 35 rfl w.heap.size 106 i0 (.agg #[.int .i64 0,.string ⟨#[]⟩,.int .i64 0]) 3 32 Tryz.underlying35 hi hz0 hz1 hz2 rfl (by decide) _ _ _ ?_ (HO.o.row.alloc _) ⟨wn.heap.size,0,none⟩ 1 1 [.int .i64 15,.string ⟨#[]⟩,.int .i64 0] ?_ rfl (World.news_of_block (cs:=#[.int .i64 15,.string ⟨#[]⟩,.int .i64 0]) (t:=106) (fr:=(0,0)) (Bb _ _)) (fun u hu=>Bg ([⟨15,⟨#[]⟩,0⟩]:List I3) u hu) (by unfold maxLen;omega) (by omega) (by have:=HK.o.1.size;simp;omega) ?_;(focus (first|rfl|(simp[Act.eval];done)));(focus (first|rfl|(simp[Act.eval];done)));intro v8 w8 hown8 hgrow8 hnil8;obtain⟨g8,c8,rfl,ho8,hk8⟩:=Ow.app (aN _ _) HO.o HK.o hB (by omega) (js:=[⟨15,⟨#[]⟩,0⟩]) (k:=1) rfl rfl (by simp) (by intro x hx;simp at hx;subst hx;first|(simp only;omega)|(show 0<=50000;omega)) hown8 hgrow8;have HO:Hd (Ow w w8 _ _ _ _):=ho8;have HK:Hd (Bd B R a len cap p _ w w8):=hk8;clear ho8 hk8 hown8 hgrow8 hnil8));have hN4:n+1+1<=400:=by omega
   by_cases h200:(200:Int)<(n:Int)+1+1
   ·exfalso;omega
   ·have HVP:Hd (∀ V,Below w8.heap.size w8 V->True):=fun _ _=>trivial;obtain⟨js,ejs⟩:∃ js,(is++[⟨14,⟨#[]⟩,0⟩]++[⟨15,⟨#[]⟩,0⟩]:List I3)=js:=⟨_,rfl⟩;rw[ejs] at HO;have hln:=HO.o.ln
    have HVA:Hd (Calls Tryz.prog 44 #[.agg #[.slice (some ⟨g8,0,none⟩) (n+1+1) c8]] w8 fun e w'=>Below w8.heap.size w8 w'/\e=.returned (.bool (Ah js))):=by
     have q:=Cs (some ⟨g8,0,none⟩) c8 js w8 HO.o.row3 (by omega) (fun i=>by have:=HO.o.short i;omega);rw[<- hln] at q;exact q
    clear hln ejs;go_wp2_with fail;refine HVA.o.mono ?_;rintro e wn ⟨hb,rfl⟩;have HO:Hd (Ow w wn _ _ _ _):=HO.o.bl hb;have HK:Hd (Bd B R a len cap p _ w wn):=HK.o.bl hB hb;clear hb;obtain⟨bc,bf,bs⟩:=HBX.o wn HK.o.1
    cases Ah js with
    | true=>
     go_wp2_with fail;exact bR (v:=.agg #[.slice (some ⟨g8,0,none⟩) (n+1+1) c8]) (by simp[results,Tryz.results96,go_sem,bs]) rfl (De EW.o hBu HO.o HK.o (by omega) (by omega) (by omega) _)
    | false=>
     go_wp2_with (first|(go_at_call 62;refine(Ax _ _).mono ?_;rintro e wn ⟨rfl,hb⟩;have HO:Hd (Ow w wn _ _ _ _):=HO.o.bl hb;have HK:Hd (Bd B R a len cap p _ w wn):=HK.o.bl hB hb;clear hb)|(go_at_call 63;refine(Au _ _).mono ?_;rintro e wn ⟨rfl,hb⟩;have HO:Hd (Ow w wn _ _ _ _):=HO.o.bl hb;have HK:Hd (Bd B R a len cap p _ w wn):=HK.o.bl hB hb;clear hb;obtain⟨bc,bf,bs⟩:=HBX.o (wn.alloc (.cells #[.int .i64 1,.string ⟨#[120]⟩,.int .i64 0,.int .i64 15,.string ⟨#[]⟩,.int .i64 0] 106)) (Dk HK.o.1 (aN _ _))))
     exact bR (v:=.agg #[.slice (some ⟨wn.heap.size,0,none⟩) 2 2]) (by simp[results,Tryz.results96,go_sem,bs]) rfl (De EW.o hBu (Ow.lit (n:=2) (is:=[⟨1,⟨#[120]⟩,0⟩,⟨15,⟨#[]⟩,0⟩]) HK.o.1.size rfl rfl (by omega) (by intro x hx;simp at hx;rcases hx with rfl|rfl<;>first|(simp only;omega)|(show 0<=50000;omega)|(simp only;decide))) (HK.o.bl hB (aN _ _)) (by omega) (by omega) (by omega) _)
  ·have Q1:Hd True:=trivial;have Q2:Hd True:=trivial;go_upto_region 18 with (first|(go_at_call 63;refine(Au _ _).mono ?_;rintro e wn ⟨rfl,hb⟩;have HO:Hd (Ow w wn _ _ _ _):=HO.o.bl hb;have HK:Hd (Bd B R a len cap p _ w wn):=HK.o.bl hB hb;clear hb)|(go_at_call 98;refine(El _ _ _).mono ?_;rintro e wn ⟨rfl,hb⟩;have HO:Hd (Ow w wn _ _ _ _):=HO.o.bl hb;have HK:Hd (Bd B R a len cap p _ w wn):=HK.o.bl hB hb;clear hb)|(clear Q1;at_builtin;refine wpList_append_own _ rfl _ _ 35 rfl w.heap.size 106 i0 (.agg #[.int .i64 0,.string ⟨#[]⟩,.int .i64 0]) 3 32 Tryz.underlying35 hi hz0 hz1 hz2 rfl (by decide) _ _ _ ?_ (HO.o.row.alloc _) ⟨wn.heap.size,0,none⟩ 1 1 [.int .i64 10,.string ⟨#[]⟩,.int .i64 0] ?_ rfl (World.news_of_block (cs:=#[.int .i64 10,.string ⟨#[]⟩,.int .i64 0]) (t:=106) (fr:=(0,0)) (Bb _ _)) (fun u hu=>Bg ([⟨10,⟨#[]⟩,0⟩]:List I3) u hu) (by unfold maxLen;omega) (by omega) (by have:=HK.o.1.size;simp;omega) ?_;(focus (first|rfl|(simp[Act.eval];done)));(focus (first|rfl|(simp[Act.eval];done)));intro v8 w8 hown8 hgrow8 hnil8;obtain⟨g8,c8,rfl,ho8,hk8⟩:=Ow.app (aN _ _) HO.o HK.o hB (by omega) (js:=[⟨10,⟨#[]⟩,0⟩]) (k:=1) rfl rfl (by simp) (by intro x hx;simp at hx;subst hx;first|(simp only;omega)|(show 0<=50000;omega)) hown8 hgrow8;have HO:Hd (Ow w w8 _ _ _ _):=ho8;have HK:Hd (Bd B R a len cap p _ w w8):=hk8;clear ho8 hk8 hown8 hgrow8 hnil8)|(clear Q2;at_builtin;refine wpList_append_own _ rfl _ _ 35 rfl w.heap.size 106 i0 (.agg #[.int .i64 0,.string ⟨#[]⟩,.int .i64 0]) 3 32 Tryz.underlying35 hi hz0 hz1 hz2 rfl (by decide) _ _ _ ?_ (HO.o.row.alloc _) ⟨wn.heap.size,0,none⟩ 1 1 [.int .i64 15,.string ⟨#[]⟩,.int .i64 0] ?_ rfl (World.news_of_block (cs:=#[.int .i64 15,.string ⟨#[]⟩,.int .i64 0]) (t:=106) (fr:=(0,0)) (Bb _ _)) (fun u hu=>Bg ([⟨15,⟨#[]⟩,0⟩]:List I3) u hu) (by unfold maxLen;omega) (by omega) (by have:=HK.o.1.size;simp;omega) ?_;(focus (first|rfl|(simp[Act.eval];done)));(focus (first|rfl|(simp[Act.eval];done)));intro v8 w8 hown8 hgrow8 hnil8;obtain⟨g8,c8,rfl,ho8,hk8⟩:=Ow.app (aN _ _) HO.o HK.o hB (by omega) (js:=[⟨15,⟨#[]⟩,0⟩]) (k:=1) rfl rfl (by simp) (by intro x hx;simp at hx;subst hx;first|(simp only;omega)|(show 0<=50000;omega)) hown8 hgrow8;have HO:Hd (Ow w w8 _ _ _ _):=ho8;have HK:Hd (Bd B R a len cap p _ w w8):=hk8;clear ho8 hk8 hown8 hgrow8 hnil8));have hN4:n+1+1<=400:=by omega
   by_cases h200:(200:Int)<(n:Int)+1+1
   ·exfalso;omega
   ·have HVP:Hd (∀ V,Below w8.heap.size w8 V->True):=fun _ _=>trivial;obtain⟨js,ejs⟩:∃ js,(is++[⟨10,⟨#[]⟩,0⟩]++[⟨15,⟨#[]⟩,0⟩]:List I3)=js:=⟨_,rfl⟩;rw[ejs] at HO;have hln:=HO.o.ln
    have HVA:Hd (Calls Tryz.prog 44 #[.agg #[.slice (some ⟨g8,0,none⟩) (n+1+1) c8]] w8 fun e w'=>Below w8.heap.size w8 w'/\e=.returned (.bool (Ah js))):=by
     have q:=Cs (some ⟨g8,0,none⟩) c8 js w8 HO.o.row3 (by omega) (fun i=>by have:=HO.o.short i;omega);rw[<- hln] at q;exact q
    clear hln ejs;go_wp2_with fail;refine HVA.o.mono ?_;rintro e wn ⟨hb,rfl⟩;have HO:Hd (Ow w wn _ _ _ _):=HO.o.bl hb;have HK:Hd (Bd B R a len cap p _ w wn):=HK.o.bl hB hb;clear hb;obtain⟨bc,bf,bs⟩:=HBX.o wn HK.o.1
    cases Ah js with
    | true=>
     go_wp2_with fail;exact bR (v:=.agg #[.slice (some ⟨g8,0,none⟩) (n+1+1) c8]) (by simp[results,Tryz.results96,go_sem,bs]) rfl (De EW.o hBu HO.o HK.o (by omega) (by omega) (by omega) _)
    | false=>
     go_wp2_with (first|(go_at_call 62;refine(Ax _ _).mono ?_;rintro e wn ⟨rfl,hb⟩;have HO:Hd (Ow w wn _ _ _ _):=HO.o.bl hb;have HK:Hd (Bd B R a len cap p _ w wn):=HK.o.bl hB hb;clear hb)|(go_at_call 63;refine(Au _ _).mono ?_;rintro e wn ⟨rfl,hb⟩;have HO:Hd (Ow w wn _ _ _ _):=HO.o.bl hb;have HK:Hd (Bd B R a len cap p _ w wn):=HK.o.bl hB hb;clear hb;obtain⟨bc,bf,bs⟩:=HBX.o (wn.alloc (.cells #[.int .i64 1,.string ⟨#[120]⟩,.int .i64 0,.int .i64 15,.string ⟨#[]⟩,.int .i64 0] 106)) (Dk HK.o.1 (aN _ _))))
     exact bR (v:=.agg #[.slice (some ⟨wn.heap.size,0,none⟩) 2 2]) (by simp[results,Tryz.results96,go_sem,bs]) rfl (De EW.o hBu (Ow.lit (n:=2) (is:=[⟨1,⟨#[120]⟩,0⟩,⟨15,⟨#[]⟩,0⟩]) HK.o.1.size rfl rfl (by omega) (by intro x hx;simp at hx;rcases hx with rfl|rfl<;>first|(simp only;omega)|(show 0<=50000;omega)|(simp only;decide))) (HK.o.bl hB (aN _ _)) (by omega) (by omega) (by omega) _)
  ·have Q1:Hd True:=trivial;have Q2:Hd True:=trivial;go_upto_region 18 with (first|(go_at_call 63;refine(Au _ _).mono ?_;rintro e wn ⟨rfl,hb⟩;have HO:Hd (Ow w wn _ _ _ _):=HO.o.bl hb;have HK:Hd (Bd B R a len cap p _ w wn):=HK.o.bl hB hb;clear hb)|(go_at_call 60;refine(HK.o.pick (by omega) _ (by omega) (by omega)).mono ?_;rintro e wn ⟨y15,rfl,hy15,hk,hg⟩;have HO:Hd (Ow w wn _ _ _ _):=HO.o.gb hg (by omega);have HK:Hd (Bd B R a len cap p _ w wn):=hk;clear hk hg)|(clear Q1;at_builtin;refine wpList_append_own _ rfl _ _ 35 rfl w.heap.size 106 i0 (.agg #[.int .i64 0,.string ⟨#[]⟩,.int .i64 0]) 3 32 Tryz.underlying35 hi hz0 hz1 hz2 rfl (by decide) _ _ _ ?_ (HO.o.row.alloc _) ⟨wn.heap.size,0,none⟩ 1 1 [.int .i64 (1+(y15:Int)),.string ⟨#[]⟩,.int .i64 0] ?_ rfl (World.news_of_block (cs:=#[.int .i64 (1+(y15:Int)),.string ⟨#[]⟩,.int .i64 0]) (t:=106) (fr:=(0,0)) (Bb _ _)) (fun u hu=>Bg ([⟨(1+(y15:Int)),⟨#[]⟩,0⟩]:List I3) u hu) (by unfold maxLen;omega) (by omega) (by have:=HK.o.1.size;simp;omega) ?_;(focus (first|rfl|(simp[Act.eval];done)));(focus (first|rfl|(simp[Act.eval];done)));intro v8 w8 hown8 hgrow8 hnil8;obtain⟨g8,c8,rfl,ho8,hk8⟩:=Ow.app (aN _ _) HO.o HK.o hB (by omega) (js:=[⟨(1+(y15:Int)),⟨#[]⟩,0⟩]) (k:=1) rfl rfl (by simp) (by intro x hx;simp at hx;subst hx;first|(simp only;omega)|(show 0<=50000;omega)) hown8 hgrow8;have HO:Hd (Ow w w8 _ _ _ _):=ho8;have HK:Hd (Bd B R a len cap p _ w w8):=hk8;clear ho8 hk8 hown8 hgrow8 hnil8)|(clear Q2;at_builtin;refine wpList_append_own _ rfl _ _ 35 rfl w.heap.size 106 i0 (.agg #[.int .i64 0,.string ⟨#[]⟩,.int .i64 0]) 3 32 Tryz.underlying35 hi hz0 hz1 hz2 rfl (by decide) _ _ _ ?_ (HO.o.row.alloc _) ⟨wn.heap.size,0,none⟩ 1 1 [.int .i64 15,.string ⟨#[]⟩,.int .i64 0] ?_ rfl (World.news_of_block (cs:=#[.int .i64 15,.string ⟨#[]⟩,.int .i64 0]) (t:=106) (fr:=(0,0)) (Bb _ _)) (fun u hu=>Bg ([⟨15,⟨#[]⟩,0⟩]:List I3) u hu) (by unfold maxLen;omega) (by omega) (by have:=HK.o.1.size;simp;omega) ?_;(focus (first|rfl|(simp[Act.eval];done)));(focus (first|rfl|(simp[Act.eval];done)));intro v8 w8 hown8 hgrow8 hnil8;obtain⟨g8,c8,rfl,ho8,hk8⟩:=Ow.app (aN _ _) HO.o HK.o hB (by omega) (js:=[⟨15,⟨#[]⟩,0⟩]) (k:=1) rfl rfl (by simp) (by intro x hx;simp at hx;subst hx;first|(simp only;omega)|(show 0<=50000;omega)) hown8 hgrow8;have HO:Hd (Ow w w8 _ _ _ _):=ho8;have HK:Hd (Bd B R a len cap p _ w w8):=hk8;clear ho8 hk8 hown8 hgrow8 hnil8));clear hy15;have hN4:n+1+1<=400:=by omega
   by_cases h200:(200:Int)<(n:Int)+1+1
   ·exfalso;omega
   ·have HVP:Hd (∀ V,Below w8.heap.size w8 V->True):=fun _ _=>trivial;obtain⟨js,ejs⟩:∃ js,(is++[⟨(1+(y15:Int)),⟨#[]⟩,0⟩]++[⟨15,⟨#[]⟩,0⟩]:List I3)=js:=⟨_,rfl⟩;rw[ejs] at HO;have hln:=HO.o.ln
    have HVA:Hd (Calls Tryz.prog 44 #[.agg #[.slice (some ⟨g8,0,none⟩) (n+1+1) c8]] w8 fun e w'=>Below w8.heap.size w8 w'/\e=.returned (.bool (Ah js))):=by
     have q:=Cs (some ⟨g8,0,none⟩) c8 js w8 HO.o.row3 (by omega) (fun i=>by have:=HO.o.short i;omega);rw[<- hln] at q;exact q
    clear hln ejs;go_wp2_with fail;refine HVA.o.mono ?_;rintro e wn ⟨hb,rfl⟩;have HO:Hd (Ow w wn _ _ _ _):=HO.o.bl hb;have HK:Hd (Bd B R a len cap p _ w wn):=HK.o.bl hB hb;clear hb;obtain⟨bc,bf,bs⟩:=HBX.o wn HK.o.1
    cases Ah js with
    | true=>
     go_wp2_with fail;exact bR (v:=.agg #[.slice (some ⟨g8,0,none⟩) (n+1+1) c8]) (by simp[results,Tryz.results96,go_sem,bs]) rfl (De EW.o hBu HO.o HK.o (by omega) (by omega) (by omega) _)
    | false=>
     go_wp2_with (first|(go_at_call 62;refine(Ax _ _).mono ?_;rintro e wn ⟨rfl,hb⟩;have HO:Hd (Ow w wn _ _ _ _):=HO.o.bl hb;have HK:Hd (Bd B R a len cap p _ w wn):=HK.o.bl hB hb;clear hb)|(go_at_call 63;refine(Au _ _).mono ?_;rintro e wn ⟨rfl,hb⟩;have HO:Hd (Ow w wn _ _ _ _):=HO.o.bl hb;have HK:Hd (Bd B R a len cap p _ w wn):=HK.o.bl hB hb;clear hb;obtain⟨bc,bf,bs⟩:=HBX.o (wn.alloc (.cells #[.int .i64 1,.string ⟨#[120]⟩,.int .i64 0,.int .i64 15,.string ⟨#[]⟩,.int .i64 0] 106)) (Dk HK.o.1 (aN _ _))))
     exact bR (v:=.agg #[.slice (some ⟨wn.heap.size,0,none⟩) 2 2]) (by simp[results,Tryz.results96,go_sem,bs]) rfl (De EW.o hBu (Ow.lit (n:=2) (is:=[⟨1,⟨#[120]⟩,0⟩,⟨15,⟨#[]⟩,0⟩]) HK.o.1.size rfl rfl (by omega) (by intro x hx;simp at hx;rcases hx with rfl|rfl<;>first|(simp only;omega)|(show 0<=50000;omega)|(simp only;decide))) (HK.o.bl hB (aN _ _)) (by omega) (by omega) (by omega) _)
  ·go_upto_region 18 with (first|(go_at_call 62;refine(Ax _ _).mono ?_;rintro e wn ⟨rfl,hb⟩;have HO:Hd (Ow w wn _ _ _ _):=HO.o.bl hb;have HK:Hd (Bd B R a len cap p _ w wn):=HK.o.bl hB hb;clear hb)|(go_at_call 63;refine(Au _ _).mono ?_;rintro e wn ⟨rfl,hb⟩;have HO:Hd (Ow w wn _ _ _ _):=HO.o.bl hb;have HK:Hd (Bd B R a len cap p _ w wn):=HK.o.bl hB hb;clear hb)|(go_at_call 98;refine(El _ _ _).mono ?_;rintro e wn ⟨rfl,hb⟩;have HO:Hd (Ow w wn _ _ _ _):=HO.o.bl hb;have HK:Hd (Bd B R a len cap p _ w wn):=HK.o.bl hB hb;clear hb)|(at_builtin;refine wpList_append_own _ rfl _ _ 35 rfl w.heap.size 106 i0 (.agg #[.int .i64 0,.string ⟨#[]⟩,.int .i64 0]) 3 32 Tryz.underlying35 hi hz0 hz1 hz2 rfl (by decide) _ _ _ ?_ (HO.o.row.alloc _) ⟨wn.heap.size,0,none⟩ 1 1 [.int .i64 15,.string ⟨#[]⟩,.int .i64 0] ?_ rfl (World.news_of_block (cs:=#[.int .i64 15,.string ⟨#[]⟩,.int .i64 0]) (t:=106) (fr:=(0,0)) (Bb _ _)) (fun u hu=>Bg ([⟨15,⟨#[]⟩,0⟩]:List I3) u hu) (by unfold maxLen;omega) (by omega) (by have:=HK.o.1.size;simp;omega) ?_;(focus (first|rfl|(simp[Act.eval];done)));(focus (first|rfl|(simp[Act.eval];done)));intro v8 w8 hown8 hgrow8 hnil8;obtain⟨g8,c8,rfl,ho8,hk8⟩:=Ow.app (aN _ _) HO.o HK.o hB (by omega) (js:=[⟨15,⟨#[]⟩,0⟩]) (k:=1) rfl rfl (by simp) (by intro x hx;simp at hx;subst hx;first|(simp only;omega)|(show 0<=50000;omega)) hown8 hgrow8;have HO:Hd (Ow w w8 _ _ _ _):=ho8;have HK:Hd (Bd B R a len cap p _ w w8):=hk8;clear ho8 hk8 hown8 hgrow8 hnil8))
   have HO:Hd (Ow w (wn.alloc (.cells #[.int .i64 1,.string ⟨#[97,98,99,100,101,102,103,104]⟩,.int .i64 0,.int .i64 7,.string ⟨#[]⟩,.int .i64 0,.int .i64 2,.string ⟨#[]⟩,.int .i64 0,.int .i64 10,.string ⟨#[]⟩,.int .i64 1] 106)) wn.heap.size 4 4 [⟨1,⟨#[97,98,99,100,101,102,103,104]⟩,0⟩,⟨7,⟨#[]⟩,0⟩,⟨2,⟨#[]⟩,0⟩,⟨10,⟨#[]⟩,1⟩]):=Ow.lit HK.o.1.size rfl rfl (by omega) (by intro x hx;simp at hx;rcases hx with rfl|rfl|rfl|rfl<;>first|(simp only;omega)|(show 0<=50000;omega)|(simp only;decide));have HK:Hd (Bd B R a len cap p _ w (wn.alloc (.cells #[.int .i64 1,.string ⟨#[97,98,99,100,101,102,103,104]⟩,.int .i64 0,.int .i64 7,.string ⟨#[]⟩,.int .i64 0,.int .i64 2,.string ⟨#[]⟩,.int .i64 0,.int .i64 10,.string ⟨#[]⟩,.int .i64 1] 106))):=HK.o.bl hB (aN _ _);obtain⟨w8,e8⟩:∃ w8,wn.alloc (.cells #[.int .i64 1,.string ⟨#[97,98,99,100,101,102,103,104]⟩,.int .i64 0,.int .i64 7,.string ⟨#[]⟩,.int .i64 0,.int .i64 2,.string ⟨#[]⟩,.int .i64 0,.int .i64 10,.string ⟨#[]⟩,.int .i64 1] 106)=w8:=⟨_,rfl⟩;rw[e8] at HO HK ⊢;obtain⟨g8,eg8⟩:∃ g8,wn.heap.size=g8:=⟨_,rfl⟩;rw[eg8] at HO ⊢;clear e8 eg8;have hN4:4<=400:=by omega
   by_cases h200:(200:Int)<(4:Int)
   ·exfalso;omega
   ·have HVP:Hd (∀ V,Below w8.heap.size w8 V->True):=fun _ _=>trivial;obtain⟨js,ejs⟩:∃ js,([⟨1,⟨#[97,98,99,100,101,102,103,104]⟩,0⟩,⟨7,⟨#[]⟩,0⟩,⟨2,⟨#[]⟩,0⟩,⟨10,⟨#[]⟩,1⟩]:List I3)=js:=⟨_,rfl⟩;rw[ejs] at HO;have hln:=HO.o.ln
    have HVA:Hd (Calls Tryz.prog 44 #[.agg #[.slice (some ⟨g8,0,none⟩) (4) 4]] w8 fun e w'=>Below w8.heap.size w8 w'/\e=.returned (.bool (Ah js))):=by
     have q:=Cs (some ⟨g8,0,none⟩) 4 js w8 HO.o.row3 (by omega) (fun i=>by have:=HO.o.short i;omega);rw[<- hln] at q;exact q
    clear hln ejs;go_wp2_with fail;refine HVA.o.mono ?_;rintro e wn ⟨hb,rfl⟩;have HO:Hd (Ow w wn _ _ _ _):=HO.o.bl hb;have HK:Hd (Bd B R a len cap p _ w wn):=HK.o.bl hB hb;clear hb;obtain⟨bc,bf,bs⟩:=HBX.o wn HK.o.1
    cases Ah js with
    | true=>
     go_wp2_with fail;exact bR (v:=.agg #[.slice (some ⟨g8,0,none⟩) (4) 4]) (by simp[results,Tryz.results96,go_sem,bs]) rfl (De EW.o hBu HO.o HK.o (by omega) (by omega) (by omega) _)
    | false=>
     go_wp2_with (first|(go_at_call 62;refine(Ax _ _).mono ?_;rintro e wn ⟨rfl,hb⟩;have HO:Hd (Ow w wn _ _ _ _):=HO.o.bl hb;have HK:Hd (Bd B R a len cap p _ w wn):=HK.o.bl hB hb;clear hb)|(go_at_call 63;refine(Au _ _).mono ?_;rintro e wn ⟨rfl,hb⟩;have HO:Hd (Ow w wn _ _ _ _):=HO.o.bl hb;have HK:Hd (Bd B R a len cap p _ w wn):=HK.o.bl hB hb;clear hb;obtain⟨bc,bf,bs⟩:=HBX.o (wn.alloc (.cells #[.int .i64 1,.string ⟨#[120]⟩,.int .i64 0,.int .i64 15,.string ⟨#[]⟩,.int .i64 0] 106)) (Dk HK.o.1 (aN _ _))))
     exact bR (v:=.agg #[.slice (some ⟨wn.heap.size,0,none⟩) 2 2]) (by simp[results,Tryz.results96,go_sem,bs]) rfl (De EW.o hBu (Ow.lit (n:=2) (is:=[⟨1,⟨#[120]⟩,0⟩,⟨15,⟨#[]⟩,0⟩]) HK.o.1.size rfl rfl (by omega) (by intro x hx;simp at hx;rcases hx with rfl|rfl<;>first|(simp only;omega)|(show 0<=50000;omega)|(simp only;decide))) (HK.o.bl hB (aN _ _)) (by omega) (by omega) (by omega) _)
  ·go_upto_region 18 with (first|(go_at_call 95;refine(HK.o.name hB (by omega)).mono ?_;rintro e wn ⟨s,rfl,hs,hk,hg⟩;have HO:Hd (Ow w wn _ _ _ _):=HO.o.gb hg (by omega);have HK:Hd (Bd B R a len cap p _ w wn):=hk;clear hk hg)|(go_at_call 62;refine(Ax _ _).mono ?_;rintro e wn ⟨rfl,hb⟩;have HO:Hd (Ow w wn _ _ _ _):=HO.o.bl hb;have HK:Hd (Bd B R a len cap p _ w wn):=HK.o.bl hB hb;clear hb)|(go_at_call 63;refine(Au _ _).mono ?_;rintro e wn ⟨rfl,hb⟩;have HO:Hd (Ow w wn _ _ _ _):=HO.o.bl hb;have HK:Hd (Bd B R a len cap p _ w wn):=HK.o.bl hB hb;clear hb)|(go_at_call 98;refine(El _ _ _).mono ?_;rintro e wn ⟨rfl,hb⟩;have HO:Hd (Ow w wn _ _ _ _):=HO.o.bl hb;have HK:Hd (Bd B R a len cap p _ w wn):=HK.o.bl hB hb;clear hb)|(at_builtin;refine wpList_append_own _ rfl _ _ 35 rfl w.heap.size 106 i0 (.agg #[.int .i64 0,.string ⟨#[]⟩,.int .i64 0]) 3 32 Tryz.underlying35 hi hz0 hz1 hz2 rfl (by decide) _ _ _ ?_ (HO.o.row.alloc _) ⟨wn.heap.size,0,none⟩ 1 1 [.int .i64 15,.string ⟨#[]⟩,.int .i64 0] ?_ rfl (World.news_of_block (cs:=#[.int .i64 15,.string ⟨#[]⟩,.int .i64 0]) (t:=106) (fr:=(0,0)) (Bb _ _)) (fun u hu=>Bg ([⟨15,⟨#[]⟩,0⟩]:List I3) u hu) (by unfold maxLen;omega) (by omega) (by have:=HK.o.1.size;simp;omega) ?_;(focus (first|rfl|(simp[Act.eval];done)));(focus (first|rfl|(simp[Act.eval];done)));intro v8 w8 hown8 hgrow8 hnil8;obtain⟨g8,c8,rfl,ho8,hk8⟩:=Ow.app (aN _ _) HO.o HK.o hB (by omega) (js:=[⟨15,⟨#[]⟩,0⟩]) (k:=1) rfl rfl (by simp) (by intro x hx;simp at hx;subst hx;first|(simp only;omega)|(show 0<=50000;omega)) hown8 hgrow8;have HO:Hd (Ow w w8 _ _ _ _):=ho8;have HK:Hd (Bd B R a len cap p _ w w8):=hk8;clear ho8 hk8 hown8 hgrow8 hnil8))
   have HO:Hd (Ow w (wn.alloc (.cells #[.int .i64 1,.string s,.int .i64 0,.int .i64 13,.string ⟨#[]⟩,.int .i64 0,.int .i64 9,.string ⟨#[]⟩,.int .i64 0,.int .i64 10,.string ⟨#[]⟩,.int .i64 0] 106)) wn.heap.size 4 4 [⟨1,s,0⟩,⟨13,⟨#[]⟩,0⟩,⟨9,⟨#[]⟩,0⟩,⟨10,⟨#[]⟩,0⟩]):=Ow.lit HK.o.1.size rfl rfl (by omega) (by intro x hx;simp at hx;rcases hx with rfl|rfl|rfl|rfl<;>first|(simp only;omega)|(show 0<=50000;omega)|(simp only;decide));have HK:Hd (Bd B R a len cap p _ w (wn.alloc (.cells #[.int .i64 1,.string s,.int .i64 0,.int .i64 13,.string ⟨#[]⟩,.int .i64 0,.int .i64 9,.string ⟨#[]⟩,.int .i64 0,.int .i64 10,.string ⟨#[]⟩,.int .i64 0] 106))):=HK.o.bl hB (aN _ _);obtain⟨w8,e8⟩:∃ w8,wn.alloc (.cells #[.int .i64 1,.string s,.int .i64 0,.int .i64 13,.string ⟨#[]⟩,.int .i64 0,.int .i64 9,.string ⟨#[]⟩,.int .i64 0,.int .i64 10,.string ⟨#[]⟩,.int .i64 0] 106)=w8:=⟨_,rfl⟩;rw[e8] at HO HK ⊢;obtain⟨g8,eg8⟩:∃ g8,wn.heap.size=g8:=⟨_,rfl⟩;rw[eg8] at HO ⊢;clear e8 eg8;have hN4:4<=400:=by omega
   by_cases h200:(200:Int)<(4:Int)
   ·exfalso;omega
   ·have HVP:Hd (∀ V,Below w8.heap.size w8 V->True):=fun _ _=>trivial;obtain⟨js,ejs⟩:∃ js,([⟨1,s,0⟩,⟨13,⟨#[]⟩,0⟩,⟨9,⟨#[]⟩,0⟩,⟨10,⟨#[]⟩,0⟩]:List I3)=js:=⟨_,rfl⟩;rw[ejs] at HO;have hln:=HO.o.ln
    have HVA:Hd (Calls Tryz.prog 44 #[.agg #[.slice (some ⟨g8,0,none⟩) (4) 4]] w8 fun e w'=>Below w8.heap.size w8 w'/\e=.returned (.bool (Ah js))):=by
     have q:=Cs (some ⟨g8,0,none⟩) 4 js w8 HO.o.row3 (by omega) (fun i=>by have:=HO.o.short i;omega);rw[<- hln] at q;exact q
    clear hln ejs;go_wp2_with fail;refine HVA.o.mono ?_;rintro e wn ⟨hb,rfl⟩;have HO:Hd (Ow w wn _ _ _ _):=HO.o.bl hb;have HK:Hd (Bd B R a len cap p _ w wn):=HK.o.bl hB hb;clear hb;obtain⟨bc,bf,bs⟩:=HBX.o wn HK.o.1
    cases Ah js with
    | true=>
     go_wp2_with fail;exact bR (v:=.agg #[.slice (some ⟨g8,0,none⟩) (4) 4]) (by simp[results,Tryz.results96,go_sem,bs]) rfl (De EW.o hBu HO.o HK.o (by omega) (by omega) (by omega) _)
    | false=>
     go_wp2_with (first|(go_at_call 62;refine(Ax _ _).mono ?_;rintro e wn ⟨rfl,hb⟩;have HO:Hd (Ow w wn _ _ _ _):=HO.o.bl hb;have HK:Hd (Bd B R a len cap p _ w wn):=HK.o.bl hB hb;clear hb)|(go_at_call 63;refine(Au _ _).mono ?_;rintro e wn ⟨rfl,hb⟩;have HO:Hd (Ow w wn _ _ _ _):=HO.o.bl hb;have HK:Hd (Bd B R a len cap p _ w wn):=HK.o.bl hB hb;clear hb;obtain⟨bc,bf,bs⟩:=HBX.o (wn.alloc (.cells #[.int .i64 1,.string ⟨#[120]⟩,.int .i64 0,.int .i64 15,.string ⟨#[]⟩,.int .i64 0] 106)) (Dk HK.o.1 (aN _ _))))
     exact bR (v:=.agg #[.slice (some ⟨wn.heap.size,0,none⟩) 2 2]) (by simp[results,Tryz.results96,go_sem,bs]) rfl (De EW.o hBu (Ow.lit (n:=2) (is:=[⟨1,⟨#[120]⟩,0⟩,⟨15,⟨#[]⟩,0⟩]) HK.o.1.size rfl rfl (by omega) (by intro x hx;simp at hx;rcases hx with rfl|rfl<;>first|(simp only;omega)|(show 0<=50000;omega)|(simp only;decide))) (HK.o.bl hB (aN _ _)) (by omega) (by omega) (by omega) _)
  ·go_upto_region 18 with (first|(go_at_call 62;refine(Ax _ _).mono ?_;rintro e wn ⟨rfl,hb⟩;have HO:Hd (Ow w wn _ _ _ _):=HO.o.bl hb;have HK:Hd (Bd B R a len cap p _ w wn):=HK.o.bl hB hb;clear hb)|(go_at_call 63;refine(Au _ _).mono ?_;rintro e wn ⟨rfl,hb⟩;have HO:Hd (Ow w wn _ _ _ _):=HO.o.bl hb;have HK:Hd (Bd B R a len cap p _ w wn):=HK.o.bl hB hb;clear hb)|(go_at_call 98;refine(El _ _ _).mono ?_;rintro e wn ⟨rfl,hb⟩;have HO:Hd (Ow w wn _ _ _ _):=HO.o.bl hb;have HK:Hd (Bd B R a len cap p _ w wn):=HK.o.bl hB hb;clear hb)|(at_builtin;refine wpList_append_own _ rfl _ _ 35 rfl w.heap.size 106 i0 (.agg #[.int .i64 0,.string ⟨#[]⟩,.int .i64 0]) 3 32 Tryz.underlying35 hi hz0 hz1 hz2 rfl (by decide) _ _ _ ?_ (HO.o.row.alloc _) ⟨wn.heap.size,0,none⟩ 1 1 [.int .i64 15,.string ⟨#[]⟩,.int .i64 0] ?_ rfl (World.news_of_block (cs:=#[.int .i64 15,.string ⟨#[]⟩,.int .i64 0]) (t:=106) (fr:=(0,0)) (Bb _ _)) (fun u hu=>Bg ([⟨15,⟨#[]⟩,0⟩]:List I3) u hu) (by unfold maxLen;omega) (by omega) (by have:=HK.o.1.size;simp;omega) ?_;(focus (first|rfl|(simp[Act.eval];done)));(focus (first|rfl|(simp[Act.eval];done)));intro v8 w8 hown8 hgrow8 hnil8;obtain⟨g8,c8,rfl,ho8,hk8⟩:=Ow.app (aN _ _) HO.o HK.o hB (by omega) (js:=[⟨15,⟨#[]⟩,0⟩]) (k:=1) rfl rfl (by simp) (by intro x hx;simp at hx;subst hx;first|(simp only;omega)|(show 0<=50000;omega)) hown8 hgrow8;have HO:Hd (Ow w w8 _ _ _ _):=ho8;have HK:Hd (Bd B R a len cap p _ w w8):=hk8;clear ho8 hk8 hown8 hgrow8 hnil8))
   have HO:Hd (Ow w (wn.alloc (.cells #[.int .i64 1,.string ⟨#[115]⟩,.int .i64 0,.int .i64 10,.string ⟨#[]⟩,.int .i64 0] 106)) wn.heap.size 2 2 [⟨1,⟨#[115]⟩,0⟩,⟨10,⟨#[]⟩,0⟩]):=Ow.lit HK.o.1.size rfl rfl (by omega) (by intro x hx;simp at hx;rcases hx with rfl|rfl<;>first|(simp only;omega)|(show 0<=50000;omega)|(simp only;decide));have HK:Hd (Bd B R a len cap p _ w (wn.alloc (.cells #[.int .i64 1,.string ⟨#[115]⟩,.int .i64 0,.int .i64 10,.string ⟨#[]⟩,.int .i64 0] 106))):=HK.o.bl hB (aN _ _);obtain⟨w8,e8⟩:∃ w8,wn.alloc (.cells #[.int .i64 1,.string ⟨#[115]⟩,.int .i64 0,.int .i64 10,.string ⟨#[]⟩,.int .i64 0] 106)=w8:=⟨_,rfl⟩;rw[e8] at HO HK ⊢;obtain⟨g8,eg8⟩:∃ g8,wn.heap.size=g8:=⟨_,rfl⟩;rw[eg8] at HO ⊢;clear e8 eg8;have hN4:2<=400:=by omega
   by_cases h200:(200:Int)<(2:Int)
   ·exfalso;omega
   ·have HVP:Hd (∀ V,Below w8.heap.size w8 V->True):=fun _ _=>trivial;obtain⟨js,ejs⟩:∃ js,([⟨1,⟨#[115]⟩,0⟩,⟨10,⟨#[]⟩,0⟩]:List I3)=js:=⟨_,rfl⟩;rw[ejs] at HO;have hln:=HO.o.ln
    have HVA:Hd (Calls Tryz.prog 44 #[.agg #[.slice (some ⟨g8,0,none⟩) (2) 2]] w8 fun e w'=>Below w8.heap.size w8 w'/\e=.returned (.bool (Ah js))):=by
     have q:=Cs (some ⟨g8,0,none⟩) 2 js w8 HO.o.row3 (by omega) (fun i=>by have:=HO.o.short i;omega);rw[<- hln] at q;exact q
    clear hln ejs;go_wp2_with fail;refine HVA.o.mono ?_;rintro e wn ⟨hb,rfl⟩;have HO:Hd (Ow w wn _ _ _ _):=HO.o.bl hb;have HK:Hd (Bd B R a len cap p _ w wn):=HK.o.bl hB hb;clear hb;obtain⟨bc,bf,bs⟩:=HBX.o wn HK.o.1
    cases Ah js with
    | true=>
     go_wp2_with fail;exact bR (v:=.agg #[.slice (some ⟨g8,0,none⟩) (2) 2]) (by simp[results,Tryz.results96,go_sem,bs]) rfl (De EW.o hBu HO.o HK.o (by omega) (by omega) (by omega) _)
    | false=>
     go_wp2_with (first|(go_at_call 62;refine(Ax _ _).mono ?_;rintro e wn ⟨rfl,hb⟩;have HO:Hd (Ow w wn _ _ _ _):=HO.o.bl hb;have HK:Hd (Bd B R a len cap p _ w wn):=HK.o.bl hB hb;clear hb)|(go_at_call 63;refine(Au _ _).mono ?_;rintro e wn ⟨rfl,hb⟩;have HO:Hd (Ow w wn _ _ _ _):=HO.o.bl hb;have HK:Hd (Bd B R a len cap p _ w wn):=HK.o.bl hB hb;clear hb;obtain⟨bc,bf,bs⟩:=HBX.o (wn.alloc (.cells #[.int .i64 1,.string ⟨#[120]⟩,.int .i64 0,.int .i64 15,.string ⟨#[]⟩,.int .i64 0] 106)) (Dk HK.o.1 (aN _ _))))
     exact bR (v:=.agg #[.slice (some ⟨wn.heap.size,0,none⟩) 2 2]) (by simp[results,Tryz.results96,go_sem,bs]) rfl (De EW.o hBu (Ow.lit (n:=2) (is:=[⟨1,⟨#[120]⟩,0⟩,⟨15,⟨#[]⟩,0⟩]) HK.o.1.size rfl rfl (by omega) (by intro x hx;simp at hx;rcases hx with rfl|rfl<;>first|(simp only;omega)|(show 0<=50000;omega)|(simp only;decide))) (HK.o.bl hB (aN _ _)) (by omega) (by omega) (by omega) _)
  ·go_upto_region 14 with (first|(go_at_call 63;refine(Au _ _).mono ?_;rintro e wn ⟨rfl,hb⟩;have HO:Hd (Ow w wn _ _ _ _):=HO.o.bl hb;have HK:Hd (Bd B R a len cap p _ w wn):=HK.o.bl hB hb;clear hb)|(at_builtin;refine wpList_append_own _ rfl _ _ 35 rfl w.heap.size 106 i0 (.agg #[.int .i64 0,.string ⟨#[]⟩,.int .i64 0]) 3 32 Tryz.underlying35 hi hz0 hz1 hz2 rfl (by decide) _ _ _ ?_ (HO.o.row.alloc _) ⟨wn.heap.size,0,none⟩ 1 1 [.int .i64 15,.string ⟨#[]⟩,.int .i64 0] ?_ rfl (World.news_of_block (cs:=#[.int .i64 15,.string ⟨#[]⟩,.int .i64 0]) (t:=106) (fr:=(0,0)) (Bb _ _)) (fun u hu=>Bg ([⟨15,⟨#[]⟩,0⟩]:List I3) u hu) (by unfold maxLen;omega) (by omega) (by have:=HK.o.1.size;simp;omega) ?_;(focus (first|rfl|(simp[Act.eval];done)));(focus (first|rfl|(simp[Act.eval];done)));intro v8 w8 hown8 hgrow8 hnil8;obtain⟨g8,c8,rfl,ho8,hk8⟩:=Ow.app (aN _ _) HO.o HK.o hB (by omega) (js:=[⟨15,⟨#[]⟩,0⟩]) (k:=1) rfl rfl (by simp) (by intro x hx;simp at hx;subst hx;first|(simp only;omega)|(show 0<=50000;omega)) hown8 hgrow8;have HO:Hd (Ow w w8 _ _ _ _):=ho8;have HK:Hd (Bd B R a len cap p _ w w8):=hk8;clear ho8 hk8 hown8 hgrow8 hnil8))
   go_wp2_with fail;refine(HK.o.pick (by omega) _ (by omega) (by omega)).mono ?_;rintro e wn ⟨y3,rfl,hy3,hk,hg⟩;have HO:Hd (Ow w wn _ _ _ _):=HO.o.gb hg (by omega);have HK:Hd (Bd B R a len cap p _ w wn):=hk;clear hk hg
   by_cases hy0:y3=0
   ·subst hy0;go_wp2_with fail;refine(HK.o.pick (by omega) _ (by omega) (by omega)).mono ?_;rintro e wn ⟨y4,rfl,hy4,hk,hg⟩;have HO:Hd (Ow w wn _ _ _ _):=HO.o.gb hg (by omega);have HK:Hd (Bd B R a len cap p _ w wn):=hk;clear hk hg;(have e199:(200:Int)+(y4:Int)-1=((199+y4:Nat):Int):=by omega);have qw:=Yx (199+y4) wn (by omega);rw[show ((199+y4:Nat):Int)=199+(y4:Int) from by omega] at qw;have HWD:Hd (Calls Tryz.prog 123 #[.int .i64 (199+(y4:Int))] wn _):=qw;clear qw;go_wp2_with fail;refine HWD.o.mono ?_;rintro e w8 ⟨g8,is8,rfl,ow8,hb8⟩;have HO:Hd (Ow w w8 g8 7 7 is8):=ow8.base HK.o.1.size;have HK:Hd (Bd B R a len cap p _ w w8):=HK.o.bl hB hb8;clear ow8 hb8 HWD
    go_upto_region 18 with fail
    clear hy3 hy4;have hN4:7<=400:=by omega
    by_cases h200:(200:Int)<(7:Int)
    ·exfalso;omega
    ·have HVP:Hd (∀ V,Below w8.heap.size w8 V->True):=fun _ _=>trivial;obtain⟨js,ejs⟩:∃ js,(is8:List I3)=js:=⟨_,rfl⟩;rw[ejs] at HO;have hln:=HO.o.ln
     have HVA:Hd (Calls Tryz.prog 44 #[.agg #[.slice (some ⟨g8,0,none⟩) (7) 7]] w8 fun e w'=>Below w8.heap.size w8 w'/\e=.returned (.bool (Ah js))):=by
      have q:=Cs (some ⟨g8,0,none⟩) 7 js w8 HO.o.row3 (by omega) (fun i=>by have:=HO.o.short i;omega);rw[<- hln] at q;exact q
     clear hln ejs;go_wp2_with fail;refine HVA.o.mono ?_;rintro e wn ⟨hb,rfl⟩;have HO:Hd (Ow w wn _ _ _ _):=HO.o.bl hb;have HK:Hd (Bd B R a len cap p _ w wn):=HK.o.bl hB hb;clear hb;obtain⟨bc,bf,bs⟩:=HBX.o wn HK.o.1
     cases Ah js with
     | true=>
      go_wp2_with fail;exact bR (v:=.agg #[.slice (some ⟨g8,0,none⟩) (7) 7]) (by simp[results,Tryz.results96,go_sem,bs]) rfl (De EW.o hBu HO.o HK.o (by omega) (by omega) (by omega) _)
     | false=>
      go_wp2_with (first|(go_at_call 62;refine(Ax _ _).mono ?_;rintro e wn ⟨rfl,hb⟩;have HO:Hd (Ow w wn _ _ _ _):=HO.o.bl hb;have HK:Hd (Bd B R a len cap p _ w wn):=HK.o.bl hB hb;clear hb)|(go_at_call 63;refine(Au _ _).mono ?_;rintro e wn ⟨rfl,hb⟩;have HO:Hd (Ow w wn _ _ _ _):=HO.o.bl hb;have HK:Hd (Bd B R a len cap p _ w wn):=HK.o.bl hB hb;clear hb;obtain⟨bc,bf,bs⟩:=HBX.o (wn.alloc (.cells #[.int .i64 1,.string ⟨#[120]⟩,.int .i64 0,.int .i64 15,.string ⟨#[]⟩,.int .i64 0] 106)) (Dk HK.o.1 (aN _ _))))
      exact bR (v:=.agg #[.slice (some ⟨wn.heap.size,0,none⟩) 2 2]) (by simp[results,Tryz.results96,go_sem,bs]) rfl (De EW.o hBu (Ow.lit (n:=2) (is:=[⟨1,⟨#[120]⟩,0⟩,⟨15,⟨#[]⟩,0⟩]) HK.o.1.size rfl rfl (by omega) (by intro x hx;simp at hx;rcases hx with rfl|rfl<;>first|(simp only;omega)|(show 0<=50000;omega)|(simp only;decide))) (HK.o.bl hB (aN _ _)) (by omega) (by omega) (by omega) _)
   ·have hy0I:((y3:Int) == 0)=false:=by simp;omega
    go_upto_region 18 with fail
    clear hy3 hy0 hy0I;have hN4:n+1<=400:=by omega
    by_cases h200:(200:Int)<(n:Int)+1
    ·exfalso;omega
    ·have HVP:Hd (∀ V,Below wn.heap.size wn V->True):=fun _ _=>trivial;obtain⟨js,ejs⟩:∃ js,(is++[⟨15,⟨#[]⟩,0⟩]:List I3)=js:=⟨_,rfl⟩;rw[ejs] at HO;have hln:=HO.o.ln
     have HVA:Hd (Calls Tryz.prog 44 #[.agg #[.slice (some ⟨g8,0,none⟩) (n+1) c8]] wn fun e w'=>Below wn.heap.size wn w'/\e=.returned (.bool (Ah js))):=by
      have q:=Cs (some ⟨g8,0,none⟩) c8 js wn HO.o.row3 (by omega) (fun i=>by have:=HO.o.short i;omega);rw[<- hln] at q;exact q
     clear hln ejs;go_wp2_with fail;refine HVA.o.mono ?_;rintro e wn ⟨hb,rfl⟩;have HO:Hd (Ow w wn _ _ _ _):=HO.o.bl hb;have HK:Hd (Bd B R a len cap p _ w wn):=HK.o.bl hB hb;clear hb;obtain⟨bc,bf,bs⟩:=HBX.o wn HK.o.1
     cases Ah js with
     | true=>
      go_wp2_with fail;exact bR (v:=.agg #[.slice (some ⟨g8,0,none⟩) (n+1) c8]) (by simp[results,Tryz.results96,go_sem,bs]) rfl (De EW.o hBu HO.o HK.o (by omega) (by omega) (by omega) _)
     | false=>
      go_wp2_with (first|(go_at_call 62;refine(Ax _ _).mono ?_;rintro e wn ⟨rfl,hb⟩;have HO:Hd (Ow w wn _ _ _ _):=HO.o.bl hb;have HK:Hd (Bd B R a len cap p _ w wn):=HK.o.bl hB hb;clear hb)|(go_at_call 63;refine(Au _ _).mono ?_;rintro e wn ⟨rfl,hb⟩;have HO:Hd (Ow w wn _ _ _ _):=HO.o.bl hb;have HK:Hd (Bd B R a len cap p _ w wn):=HK.o.bl hB hb;clear hb;obtain⟨bc,bf,bs⟩:=HBX.o (wn.alloc (.cells #[.int .i64 1,.string ⟨#[120]⟩,.int .i64 0,.int .i64 15,.string ⟨#[]⟩,.int .i64 0] 106)) (Dk HK.o.1 (aN _ _))))
      exact bR (v:=.agg #[.slice (some ⟨wn.heap.size,0,none⟩) 2 2]) (by simp[results,Tryz.results96,go_sem,bs]) rfl (De EW.o hBu (Ow.lit (n:=2) (is:=[⟨1,⟨#[120]⟩,0⟩,⟨15,⟨#[]⟩,0⟩]) HK.o.1.size rfl rfl (by omega) (by intro x hx;simp at hx;rcases hx with rfl|rfl<;>first|(simp only;omega)|(show 0<=50000;omega)|(simp only;decide))) (HK.o.bl hB (aN _ _)) (by omega) (by omega) (by omega) _)
end Go.Proofs.YtjlnkepkkdefdaaGreatDoor
