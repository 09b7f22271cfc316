import Derived.Test.YtoihflimijabjaaGreatDoorPuO
import Derived.Test.YtoihflimijabjaaGreatDoorPuR
import Derived.Test.YtoihflimijabjaaGreatDoorPuU
namespace Go.Proofs.YtoihflimijabjaaGreatDoor
open _root_.Go.Proofs.Tryz Go.RowKit Go.Deep
open Value renaming slice->J,string->S,agg->G,pointer->D,tuple->Y
open Option renaming some->M,none->N
open Obj renaming cells->O
open Go renaming Value->Z,World->E
open Ending renaming returned->H
open _root_ renaming List->L,Nat->X
set_option linter.unusedVariables false
set_option linter.unusedSimpArgs false
set_option maxHeartbeats 8000000
set_option maxRecDepth 100000
variable {b j R B p n g g6 g7:X} {T:L By} {v1 v2 tv qv x1 x2:Z} {a:Option Addr} {w0:E} {Rr:L T3}
theorem Ia.setG{w:E}{lo T:X}(h:Ia w lo v1 v2)(ht:Ai w b T)(h1:T≠110)(h2:T≠113)(h3:T≠103)(u:Z):Ia (w.setCell ⟨b,j,N⟩ u) lo v1 v2:=by
 obtain⟨l1,l2,k1,k2⟩:=h;exact⟨l1,l2,k1.setT ht h1 h2 h3 u,k2⟩
theorem Di.setG{w:E}{lo T0:X}{R:L T3}(h:Di w lo tv qv T R)(ht:Ai w b T0)(h1:T0≠9)(h2:T0≠56)(h3:T0≠103)(h4:T0≠79)(u:Z):Di (w.setCell ⟨b,j,N⟩ u) lo tv qv T R:=by
 obtain⟨k1,xs,cv,lv,r,k⟩:=h;exact⟨Ak k1 ht h1 u,xs,cv,lv,⟨Ak r.row ht h2 u,r.fil,λi hi=>by obtain⟨ys,a,b⟩:=r.code i hi;exact⟨ys,Ak a ht h3 u,b⟩,λi hi=>by obtain⟨ys,a,b⟩:=r.look i hi;exact⟨ys,Ak a ht h4 u,b⟩⟩,k⟩
theorem Ba.asked{len cap K lo:X}{w:E}(h:Ba B R a len cap p K w0 w)(hB:B≤w0.heap.size)(hp:p+K≤50000)(hd:Ia w lo v1 v2)(hR:R<lo):Calls prog 49 #[D (p_ R),G #[v1,v2]] w λe w'=>∃s:By,e=H (S s)∧s.size≤50000∧Ba B R a len cap p (K+10) w0 w'∧w.grownBy w' (M R):=by
 obtain⟨h1,p',h2,h3⟩:=h;obtain⟨l1,l2,k1,k2⟩:=hd;refine(Xc B R a len cap p' w h3 (Nat.le_trans hB h1.size) qg k1 k2 hR).mono ?_;exact qki
theorem Ba.change{len cap K lo:X}{w:E}(h:Ba B R a len cap p K w0 w)(hB:B≤w0.heap.size)(hp:p+K≤50000)(hd:Ia w lo v1 v2)(hR:R<lo):Calls prog 50 #[D (p_ R),G #[v1,v2]] w λe w'=>∃u1 u2,e=H (G #[u1,u2])∧Ia w' (R+1) u1 u2∧Ba B R a len cap p (K+5000) w0 w'∧w.grownBy w' (M R):=by
 obtain⟨h1,p',h2,h3⟩:=h;refine(Vi B R a len cap p' w h3 (Nat.le_trans hB h1.size) qg hd hR).mono ?_;rintro e w' ⟨u1,u2,rfl,hs,hg,q,hq,hr⟩;exact⟨u1,u2,rfl,hs,⟨Dr h1 hg,q,qg,hr⟩,hg⟩
theorem wd_nil(h1:1≤n)(h8:n≤8):Cz (n:Int) [] []:=⟨qg,qg,⟨qi,λi hi=>absurd hi (Nat.not_lt_zero _),λi _ hi=>absurd hi qi⟩,qi,λi hi=>absurd hi (Nat.not_lt_zero _)⟩
structure Ja (w0:E) (B R:X) (a:Option Addr) (len cap p:X) (n:X) (g6 g7 K:X) (w:E) (v1 v2 tv qv:Z):Prop where
 k4:w.heap[w0.heap.size]?=M (O #[I 0,nS,nS] 26 (0,0))
 k5:w.heap[w0.heap.size+1]?=M (O #[nS,nS] 44 (0,0))
 k6:w.heap[g6]?=M (O #[v1,v2] 44 (0,0))
 k7:w.heap[g7]?=M (O #[I (n:Int),tv,qv] 26 (0,0))
 sp:Ia w (R+1) v1 v2
 st:∃T Rr,Cz (n:Int) T Rr∧Di w (R+1) tv qv T Rr
 rd:Ba B R a len cap p K w0 w
section
variable {w0 w w':E} {B R:X} {a:Option Addr} {len cap p n g6 g7 K K':X} {v1 v2 tv qv:Z}
theorem Ja.bl(h:Ja w0 B R a len cap p n g6 g7 K w v1 v2 tv qv)(hB:B≤w0.heap.size)(hb:Bw w w'):Ja w0 B R a len cap p n g6 g7 K w' v1 v2 tv qv:=by
 obtain⟨T,Rr,h1,h2⟩:=h.st;exact⟨Ac h.k4 hb,Ac h.k5 hb,Ac h.k6 hb,Ac h.k7 hb,h.sp.bl hb,⟨T,Rr,h1,h2.bl hb⟩,h.rd.bl hB hb⟩
theorem Ja.gb(h:Ja w0 B R a len cap p n g6 g7 K w v1 v2 tv qv)(hR:R<w0.heap.size)(h6:w0.heap.size<g6)(h7:w0.heap.size<g7)(hr:Ba B R a len cap p K' w0 w')(hg:w.grownBy w' (M R)):Ja w0 B R a len cap p n g6 g7 K' w' v1 v2 tv qv:=by
 obtain⟨T,Rr,h1,h2⟩:=h.st;exact⟨Az h.k4 hg qg,Az h.k5 hg qg,Az h.k6 hg qg,Az h.k7 hg qg,h.sp.gb hg qg,⟨T,Rr,h1,h2.gb hg qg⟩,hr⟩
theorem Ja.more(h:Ja w0 B R a len cap p n g6 g7 K w v1 v2 tv qv)(hK:K≤K'):Ja w0 B R a len cap p n g6 g7 K' w v1 v2 tv qv:=⟨h.k4,h.k5,h.k6,h.k7,h.sp,h.st,h.rd.more hK⟩
theorem Ja.set{g j T0:X}(h:Ja w0 B R a len cap p n g6 g7 K w v1 v2 tv qv)(hB:B≤w0.heap.size)(hg:w0.heap.size+1<g)(h6:g≠g6)(h7:g≠g7)(ht:Ai w g T0)(hT:T0=92∨T0=44∨T0=26)(u:Z):Ja w0 B R a len cap p n g6 g7 K (w.setCell ⟨g,j,N⟩ u) v1 v2 tv qv:=by
 obtain⟨T,Rr,h1,h2⟩:=h.st;have e:T0≠110∧T0≠113∧T0≠103∧T0≠9∧T0≠56∧T0≠79:=by rcases hT with rfl|rfl|rfl<;>decide
 exact⟨Af h.k4 qg u,Af h.k5 qg u,Af h.k6 qg u,Af h.k7 qg u,h.sp.setG ht e.1 e.2.1 e.2.2.1 u,⟨T,Rr,h1,h2.setG ht e.2.2.2.1 e.2.2.2.2.1 e.2.2.1 e.2.2.2.2.2 u⟩,h.rd.set hB qg u⟩
theorem Ja.put6(h:Ja w0 B R a len cap p n g6 g7 K w v1 v2 tv qv)(hB:B≤w0.heap.size)(h6:w0.heap.size+1<g6)(aq:g6≠g7){u1 u2:Z}(hu:Ia w (R+1) u1 u2):Ja w0 B R a len cap p n g6 g7 K ((w.setCell ⟨g6,0,N⟩ u1).setCell ⟨g6,1,N⟩ u2) u1 u2 tv qv:=by
 obtain⟨T,Rr,h1,h2⟩:=h.st;have ht:Ai w g6 44:=⟨_,h.k6⟩;exact⟨Af (Af h.k4 qg u1) qg u2,Af (Af h.k5 qg u1) qg u2,Kn h.k6 u1 u2,Af (Af h.k7 qg u1) qg u2,(hu.setT ht u1).setT (ht.set u1) u2,⟨T,Rr,h1,(h2.setG ht qh qh qh qh u1).setG (ht.set u1) qh qh qh qh u2⟩,(h.rd.set hB qg u1).set hB qg u2⟩
theorem Ja.put7(h:Ja w0 B R a len cap p n g6 g7 K w v1 v2 tv qv)(hB:B≤w0.heap.size)(h7:w0.heap.size+1<g7)(aq:g6≠g7){x1 x2:Z}{T:L By}{Rr:L T3}(cm:Cz (n:Int) T Rr)(hu:Di w (R+1) x1 x2 T Rr):Ja w0 B R a len cap p n g6 g7 K (((w.setCell ⟨g7,0,N⟩ (I (n:Int))).setCell ⟨g7,1,N⟩ x1).setCell ⟨g7,2,N⟩ x2) v1 v2 x1 x2:=by
 have ht:Ai w g7 26:=⟨_,h.k7⟩;have d:∀ {W:E} (j:X) (u:Z),Ai W g7 26→Di W (R+1) x1 x2 T Rr→Di (W.setCell ⟨g7,j,N⟩ u) (R+1) x1 x2 T Rr:=λj u ht k=>k.setG ht qh qh qh qh u;have s:∀ {W:E} (j:X) (u:Z),Ai W g7 26→Ia W (R+1) v1 v2→Ia (W.setCell ⟨g7,j,N⟩ u) (R+1) v1 v2:=λj u ht k=>k.setG ht qh qh qh u;exact⟨Af (Af (Af h.k4 qg _) qg _) qg _,Af (Af (Af h.k5 qg _) qg _) qg _,Af (Af (Af h.k6 qg _) qg _) qg _,by rw[jB (jB (jB h.k7 _) _) _];rfl,s 2 _ ((ht.set _).set _) (s 1 _ (ht.set _) (s 0 _ ht h.sp)),⟨T,Rr,cm,d 2 _ ((ht.set _).set _) (d 1 _ (ht.set _) (d 0 _ ht hu))⟩,((h.rd.set hB qg _).set hB qg _).set hB qg _⟩
end
theorem blk_s10{w:E}{T:X}{x0 x3 x4 x5 x6 x7 x8 x9:Z}(h:w.heap[g]?=M (O #[x0,x1,x2,x3,x4,x5,x6,x7,x8,x9] T (0,0)))(u0 u1 u2 u3 u4 u5 u6 u7 u8 u9:Z):((((((((((w.setCell ⟨g,0,N⟩ u0).setCell ⟨g,1,N⟩ u1).setCell ⟨g,2,N⟩ u2).setCell ⟨g,3,N⟩ u3).setCell ⟨g,4,N⟩ u4).setCell ⟨g,5,N⟩ u5).setCell ⟨g,6,N⟩ u6).setCell ⟨g,7,N⟩ u7).setCell ⟨g,8,N⟩ u8).setCell ⟨g,9,N⟩ u9).heap[g]?=M (O #[u0,u1,u2,u3,u4,u5,u6,u7,u8,u9] T (0,0)):=by
 have h0:(w.setCell ⟨g,0,N⟩ u0).heap[g]?=M (O #[u0,x1,x2,x3,x4,x5,x6,x7,x8,x9] T (0,0)):=by rw[jB h];rfl
 have h1:((w.setCell ⟨g,0,N⟩ u0).setCell ⟨g,1,N⟩ u1).heap[g]?=M (O #[u0,u1,x2,x3,x4,x5,x6,x7,x8,x9] T (0,0)):=by rw[jB h0];rfl
 have h2:(((w.setCell ⟨g,0,N⟩ u0).setCell ⟨g,1,N⟩ u1).setCell ⟨g,2,N⟩ u2).heap[g]?=M (O #[u0,u1,u2,x3,x4,x5,x6,x7,x8,x9] T (0,0)):=qdl;have h3:((((w.setCell ⟨g,0,N⟩ u0).setCell ⟨g,1,N⟩ u1).setCell ⟨g,2,N⟩ u2).setCell ⟨g,3,N⟩ u3).heap[g]?=M (O #[u0,u1,u2,u3,x4,x5,x6,x7,x8,x9] T (0,0)):=by rw[jB h2];rfl
 have h4:(((((w.setCell ⟨g,0,N⟩ u0).setCell ⟨g,1,N⟩ u1).setCell ⟨g,2,N⟩ u2).setCell ⟨g,3,N⟩ u3).setCell ⟨g,4,N⟩ u4).heap[g]?=M (O #[u0,u1,u2,u3,u4,x5,x6,x7,x8,x9] T (0,0)):=by rw[jB h3];rfl
 have h5:((((((w.setCell ⟨g,0,N⟩ u0).setCell ⟨g,1,N⟩ u1).setCell ⟨g,2,N⟩ u2).setCell ⟨g,3,N⟩ u3).setCell ⟨g,4,N⟩ u4).setCell ⟨g,5,N⟩ u5).heap[g]?=M (O #[u0,u1,u2,u3,u4,u5,x6,x7,x8,x9] T (0,0)):=by rw[jB h4];rfl
 have h6:(((((((w.setCell ⟨g,0,N⟩ u0).setCell ⟨g,1,N⟩ u1).setCell ⟨g,2,N⟩ u2).setCell ⟨g,3,N⟩ u3).setCell ⟨g,4,N⟩ u4).setCell ⟨g,5,N⟩ u5).setCell ⟨g,6,N⟩ u6).heap[g]?=M (O #[u0,u1,u2,u3,u4,u5,u6,x7,x8,x9] T (0,0)):=by rw[jB h5];rfl
 have h7:((((((((w.setCell ⟨g,0,N⟩ u0).setCell ⟨g,1,N⟩ u1).setCell ⟨g,2,N⟩ u2).setCell ⟨g,3,N⟩ u3).setCell ⟨g,4,N⟩ u4).setCell ⟨g,5,N⟩ u5).setCell ⟨g,6,N⟩ u6).setCell ⟨g,7,N⟩ u7).heap[g]?=M (O #[u0,u1,u2,u3,u4,u5,u6,u7,x8,x9] T (0,0)):=by rw[jB h6];rfl
 have h8:(((((((((w.setCell ⟨g,0,N⟩ u0).setCell ⟨g,1,N⟩ u1).setCell ⟨g,2,N⟩ u2).setCell ⟨g,3,N⟩ u3).setCell ⟨g,4,N⟩ u4).setCell ⟨g,5,N⟩ u5).setCell ⟨g,6,N⟩ u6).setCell ⟨g,7,N⟩ u7).setCell ⟨g,8,N⟩ u8).heap[g]?=M (O #[u0,u1,u2,u3,u4,u5,u6,u7,u8,x9] T (0,0)):=qga;have h9:((((((((((w.setCell ⟨g,0,N⟩ u0).setCell ⟨g,1,N⟩ u1).setCell ⟨g,2,N⟩ u2).setCell ⟨g,3,N⟩ u3).setCell ⟨g,4,N⟩ u4).setCell ⟨g,5,N⟩ u5).setCell ⟨g,6,N⟩ u6).setCell ⟨g,7,N⟩ u7).setCell ⟨g,8,N⟩ u8).setCell ⟨g,9,N⟩ u9).heap[g]?=M (O #[u0,u1,u2,u3,u4,u5,u6,u7,u8,u9] T (0,0)):=by rw[jB h8];rfl
 exact h9
theorem Ja.s10{w:E}{len cap K:X}(h:Ja w0 B R a len cap p n g6 g7 K w v1 v2 tv qv)(hB:B≤w0.heap.size)(hg:w0.heap.size+1<g)(h6:g≠g6)(h7:g≠g7)(ht:Ai w g 92)(u0 u1 u2 u3 u4 u5 u6 u7 u8 u9:Z):Ja w0 B R a len cap p n g6 g7 K ((((((((((w.setCell ⟨g,0,N⟩ u0).setCell ⟨g,1,N⟩ u1).setCell ⟨g,2,N⟩ u2).setCell ⟨g,3,N⟩ u3).setCell ⟨g,4,N⟩ u4).setCell ⟨g,5,N⟩ u5).setCell ⟨g,6,N⟩ u6).setCell ⟨g,7,N⟩ u7).setCell ⟨g,8,N⟩ u8).setCell ⟨g,9,N⟩ u9) v1 v2 tv qv:=(Ja.set (Ja.set (Ja.set (Ja.set (Ja.set (Ja.set (Ja.set (Ja.set (Ja.set (Ja.set h hB hg h6 h7 ht (Or.inl rfl) u0) hB hg h6 h7 (Ai.set ht _) (Or.inl rfl) u1) hB hg h6 h7 (Ai.set (Ai.set ht _) _) (Or.inl rfl) u2) hB hg h6 h7 (Ai.set (Ai.set (Ai.set ht _) _) _) (Or.inl rfl) u3) hB hg h6 h7 (Ai.set (Ai.set (Ai.set (Ai.set ht _) _) _) _) (Or.inl rfl) u4) hB hg h6 h7 (Ai.set (Ai.set (Ai.set (Ai.set (Ai.set ht _) _) _) _) _) (Or.inl rfl) u5) hB hg h6 h7 (Ai.set (Ai.set (Ai.set (Ai.set (Ai.set (Ai.set ht _) _) _) _) _) _) (Or.inl rfl) u6) hB hg h6 h7 (Ai.set (Ai.set (Ai.set (Ai.set (Ai.set (Ai.set (Ai.set ht _) _) _) _) _) _) _) (Or.inl rfl) u7) hB hg h6 h7 (Ai.set (Ai.set (Ai.set (Ai.set (Ai.set (Ai.set (Ai.set (Ai.set ht _) _) _) _) _) _) _) _) (Or.inl rfl) u8) hB hg h6 h7 (Ai.set (Ai.set (Ai.set (Ai.set (Ai.set (Ai.set (Ai.set (Ai.set (Ai.set ht _) _) _) _) _) _) _) _) _) (Or.inl rfl) u9)
theorem Di.s10{w:E}{lo:X}(h:Di w lo tv qv T Rr)(ht:Ai w g 92)(u0 u1 u2 u3 u4 u5 u6 u7 u8 u9:Z):Di ((((((((((w.setCell ⟨g,0,N⟩ u0).setCell ⟨g,1,N⟩ u1).setCell ⟨g,2,N⟩ u2).setCell ⟨g,3,N⟩ u3).setCell ⟨g,4,N⟩ u4).setCell ⟨g,5,N⟩ u5).setCell ⟨g,6,N⟩ u6).setCell ⟨g,7,N⟩ u7).setCell ⟨g,8,N⟩ u8).setCell ⟨g,9,N⟩ u9) lo tv qv T Rr:=(Di.setG (Di.setG (Di.setG (Di.setG (Di.setG (Di.setG (Di.setG (Di.setG (Di.setG (Di.setG h ht qh qh qh qh u0) (Ai.set ht _) qh qh qh qh u1) (Ai.set (Ai.set ht _) _) qh qh qh qh u2) (Ai.set (Ai.set (Ai.set ht _) _) _) qh qh qh qh u3) (Ai.set (Ai.set (Ai.set (Ai.set ht _) _) _) _) qh qh qh qh u4) (Ai.set (Ai.set (Ai.set (Ai.set (Ai.set ht _) _) _) _) _) qh qh qh qh u5) (Ai.set (Ai.set (Ai.set (Ai.set (Ai.set (Ai.set ht _) _) _) _) _) _) qh qh qh qh u6) (Ai.set (Ai.set (Ai.set (Ai.set (Ai.set (Ai.set (Ai.set ht _) _) _) _) _) _) _) qh qh qh qh u7) (Ai.set (Ai.set (Ai.set (Ai.set (Ai.set (Ai.set (Ai.set (Ai.set ht _) _) _) _) _) _) _) _) qh qh qh qh u8) (Ai.set (Ai.set (Ai.set (Ai.set (Ai.set (Ai.set (Ai.set (Ai.set (Ai.set ht _) _) _) _) _) _) _) _) _) qh qh qh qh u9)
theorem Qr{w:E}{T:X}{v0 v3 v4 v5 v6 v7 v8 v9:Z}(h:w.heap[b]?=M (O #[v0,v1,v2,v3,v4,v5,v6,v7,v8,v9] T (0,0))):w.cell? ⟨b,0,N⟩=M v0∧w.cell? ⟨b,1,N⟩=M v1∧w.cell? ⟨b,2,N⟩=M v2∧w.cell? ⟨b,3,N⟩=M v3∧w.cell? ⟨b,4,N⟩=M v4∧w.cell? ⟨b,5,N⟩=M v5∧w.cell? ⟨b,6,N⟩=M v6∧w.cell? ⟨b,7,N⟩=M v7∧w.cell? ⟨b,8,N⟩=M v8∧w.cell? ⟨b,9,N⟩=M v9∧∀j,w.frozen? ⟨b,j,N⟩=false:=by
 refine⟨?_,?_,?_,?_,?_,?_,?_,?_,?_,?_,λj=>fH h j⟩<;>rw[cH h]<;>rfl
theorem Ja.sl{w:E}{len cap K:X}(h:Ja w0 B R a len cap p n g6 g7 K w v1 v2 tv qv):∃xa t1 t2 qa q1 q2,tv=J xa t1 t2∧qv=J qa q1 q2:=by
 obtain⟨T,Rr,h1,h2⟩:=h.st;obtain⟨xa,tc,qa,qc,e1,e2,_⟩:=h2.rd h1.rbd;exact⟨_,_,_,_,_,_,e1,e2⟩
theorem Ja.build{w:E}{len cap K:X}(h:Ja w0 B R a len cap p n g6 g7 K w v1 v2 tv qv)(nm:By)(hn:nm.size≤50000):Calls prog 48 #[G #[I (n:Int),tv,qv],G #[v1,v2],S nm] w (BuO n w):=by
 obtain⟨T,Rr,h1,h2⟩:=h.st;exact buildD nm h2 h1.rbd h.sp hn
theorem Ja.fin{w:E}{len cap K:X}(h:Ja w0 B R a len cap p n g6 g7 K w v1 v2 tv qv)(hB:B≤w0.heap.size)(h6:w0.heap.size+1<g6)(h7:w0.heap.size+1<g7):∀W2 W3:E,((w.setCell ⟨w0.heap.size,0,N⟩ (I (n:Int))).setCell ⟨w0.heap.size,1,N⟩ tv).setCell ⟨w0.heap.size,2,N⟩ qv=W2→(W2.setCell ⟨w0.heap.size+1,0,N⟩ v1).setCell ⟨w0.heap.size+1,1,N⟩ v2=W3→
 (W2.heap[g6]?=M (O #[v1,v2] 44 (0,0))∧W2.heap[g7]?=M (O #[I (n:Int),tv,qv] 26 (0,0))∧W2.heap[w0.heap.size+1]?=M (O #[nS,nS] 44 (0,0)))∧
 (W3.heap[g6]?=M (O #[v1,v2] 44 (0,0))∧W3.heap[g7]?=M (O #[I (n:Int),tv,qv] 26 (0,0))∧W3.heap[w0.heap.size]?=M (O #[I (n:Int),tv,qv] 26 (0,0))∧W3.heap[w0.heap.size+1]?=M (O #[v1,v2] 44 (0,0)))∧Ia W3 (R+1) v1 v2∧(∃T Rr,Cz (n:Int) T Rr∧Di W3 (R+1) tv qv T Rr)∧Ba B R a len cap p K w0 W3:=by
 rintro W2 W3 e2 e3;obtain⟨T,Rr,cm,dm⟩:=h.st;have ht:Ai w w0.heap.size 26:=⟨_,h.k4⟩;have d:∀ {W:E} (b j T0:X) (u:Z),T0=26∨T0=44→Ai W b T0→Di W (R+1) tv qv T Rr→Di (W.setCell ⟨b,j,N⟩ u) (R+1) tv qv T Rr:=λb j T0 u q ht k=>by rcases q with rfl|rfl<;>exact k.setG ht qh qh qh qh u
 have s:∀ {W:E} (b j T0:X) (u:Z),T0=26∨T0=44→Ai W b T0→Ia W (R+1) v1 v2→Ia (W.setCell ⟨b,j,N⟩ u) (R+1) v1 v2:=λb j T0 u q ht k=>by rcases q with rfl|rfl<;>exact k.setG ht qh qh qh u
 have b2:∀(b:X)(o:Obj),w.heap[b]?=M o→b≠w0.heap.size→W2.heap[b]?=M o:=λb o hb aq=>by rw[←e2];exact Af (Af (Af hb aq _) aq _) aq _
 have b3:∀(b:X)(o:Obj),W2.heap[b]?=M o→b≠w0.heap.size+1→W3.heap[b]?=M o:=λb o hb aq=>by rw[←e3];exact Af (Af hb aq _) aq _
 have k4:W2.heap[w0.heap.size]?=M (O #[I (n:Int),tv,qv] 26 (0,0)):=by rw[←e2,jB (jB (jB h.k4 _) _) _];rfl
 have k5:=b2 _ _ h.k5 qg;have Do:Ai W2 (w0.heap.size+1) 44:=⟨_,k5⟩;have sp2:Ia W2 (R+1) v1 v2:=by rw[←e2];exact s _ 2 26 _ (Or.inl rfl) ((ht.set _).set _) (s _ 1 26 _ (Or.inl rfl) (ht.set _) (s _ 0 26 _ (Or.inl rfl) ht h.sp))
 have st2:Di W2 (R+1) tv qv T Rr:=by rw[←e2];exact d _ 2 26 _ (Or.inl rfl) ((ht.set _).set _) (d _ 1 26 _ (Or.inl rfl) (ht.set _) (d _ 0 26 _ (Or.inl rfl) ht dm))
 have rd2:Ba B R a len cap p K w0 W2:=by rw[←e2];exact((h.rd.set hB (Nat.le_refl _) _).set hB (Nat.le_refl _) _).set hB (Nat.le_refl _) _
 refine⟨⟨b2 _ _ h.k6 qg,b2 _ _ h.k7 qg,k5⟩,⟨b3 _ _ (b2 _ _ h.k6 qg) qg,b3 _ _ (b2 _ _ h.k7 qg) qg,b3 _ _ k4 qg,by rw[←e3];exact Kn k5 _ _⟩,?_,⟨T,Rr,cm,?_⟩,?_⟩
 ·exact qld
 ·exact qle
 ·rw[←e3];exact(rd2.set hB (Nat.le_succ _) _).set hB (Nat.le_succ _) _
theorem Zw(B R:X)(a:Option Addr)(len cap p n:X)(w:E)(h:Rd B w R a len cap p)(aj:B≤w.heap.size)(hp:p≤10000)(pp:1≤n)(ul:n≤8):Calls prog 30 #[D (p_ R),I n] w λe w'=>∃tv qv v1 v2 T Rr,e=H (Y #[G #[I n,tv,qv],G #[v1,v2]])∧Cz (n:Int) T Rr∧Di w' (R+1) tv qv T Rr∧Ia w' (R+1) v1 v2∧Ba B R a len cap p 33000 w w':=by
 have P8:=h.lt
 have df:R<w.heap.size:=qg
 obtain⟨W,eW⟩:=Aj ((w.alloc (O #[I 0,nS,nS] 26)).alloc (O #[nS,nS] 44))
 have f7:Bw w W:=eW▸(aN _ _).alloc qi _
 have d9:Hd (W.heap[w.heap.size]?=M (O #[I 0,nS,nS] 26 (0,0))):=qbr
 have d8:Hd (W.heap[w.heap.size+1]?=M (O #[nS,nS] 44 (0,0))):=qbs
 have HRW:Hd (Ba B R a len cap p 0 w W):=Ba.bl ⟨Im _ _,p,Nat.le_refl _,h⟩ aj f7
 clear h
 go_enter func30,ntmps30
 go_wp2_with fail
 clear eW
 obtain⟨jv,p',mf,hq3⟩:=HRW.o
 refine(Zy B R a len cap p' W hq3 (Nat.le_trans aj f7.size) qg).mono ?_
 rintro e w1 ⟨v1,v2,l1,l2,rfl,hdw,i6,⟨am,p2,hp2,hr2⟩,_,_,_⟩
 have fg:Hd (Ba B R a len cap p 11000 w w1):=⟨Dr jv am,p2,qg,hr2⟩
 replace d9:=Ad (Az d9.o am qg)
 replace d8:=Ad (Az d8.o am qg)
 have H9:Hd (Ia w1 (R+1) v1 v2):=⟨l1,l2,hdw.base (zo f7.size),i6⟩
 clear jv mf hq3 hdw i6 am hr2 f7 HRW
 obtain⟨sa,n1,c1,ta,n2,c2,rfl,rfl⟩:=H9.o.sl
 obtain⟨g6,eg6⟩:=Aj w1.heap.size
 have hg6:w.heap.size+1<g6:=zo (An d8.o)
 obtain⟨V,eV⟩:=Aj (w1.alloc (O #[nS,nS] 44))
 have F7:Hd (V.heap[g6]?=M (O #[nS,nS] 44 (0,0))):=by show _=_;rw[←eV,←eg6];exact Am _ _
 have cr:Bw w1 V:=eV▸aN _ _
 obtain⟨V2,dg⟩:=Aj ((V.setCell ⟨g6,0,N⟩ (J sa n1 c1)).setCell ⟨g6,1,N⟩ (J ta n2 c2))
 obtain⟨q0,q1,qf⟩:=Ag F7.o
 have X0:Hd (Ai V g6 44):=⟨_,F7.o⟩
 have HK62:Hd (V2.heap[g6]?=M (O #[J sa n1 c1,J ta n2 c2] 44 (0,0))):=dg▸Kn F7.o _ _
 replace d9:Hd (V2.heap[w.heap.size]?=M (O #[I 0,nS,nS] 26 (0,0))):=dg▸Af (Af (Ac d9.o cr) qg _) qg _
 replace d8:Hd (V2.heap[w.heap.size+1]?=M (O #[nS,nS] 44 (0,0))):=dg▸Af (Af (Ac d8.o cr) qg _) qg _
 replace H9:Hd (Ia V2 (R+1) (J sa n1 c1) (J ta n2 c2)):=dg▸((H9.o.bl cr).setT X0.o _).setT (X0.o.set _) _
 replace fg:Hd (Ba B R a len cap p 11000 w V2):=dg▸((fg.o.bl aj cr).set aj qg _).set aj qg _
 obtain⟨g7,E6⟩:=Aj V2.heap.size
 have K0:g6<g7:=zo (An HK62.o)
 obtain⟨V3,sj⟩:=Aj (V2.alloc (O #[I 0,nS,nS] 26))
 have jo:Hd (V3.heap[g7]?=M (O #[I 0,nS,nS] 26 (0,0))):=by show _=_;rw[←sj,←E6];exact Am _ _
 have D5:Bw V2 V3:=sj▸aN _ _
 have ie:Hd (Ai V3 g7 26):=⟨_,jo.o⟩
 obtain⟨r0,r1,r2⟩:=Ab jo.o
 have rf:=(λj=>fH jo.o j)
 obtain⟨V4,eV4⟩:=Aj (((V3.setCell ⟨g7,0,N⟩ (I (n:Int))).setCell ⟨g7,1,N⟩ nS).setCell ⟨g7,2,N⟩ nS)
 have HU:Hd (Ja w B R a len cap p n g6 g7 11000 V4 (J sa n1 c1) (J ta n2 c2) nS nS):=by
  rw[←eV4];exact⟨Af (Af (Af (Ac d9.o D5) qg _) qg _) qg _,Af (Af (Af (Ac d8.o D5) qg _) qg _) qg _,Af (Af (Af (Ac HK62.o D5) qg _) qg _) qg _,by rw[jB (jB (jB jo.o _) _) _];rfl,(((H9.o.bl D5).setG ie.o qh qh qh _).setG (ie.o.set _) qh qh qh _).setG ((ie.o.set _).set _) qh qh qh _,⟨[],[],wd_nil pp ul,Di.nil _ _⟩,(((fg.o.bl aj D5).set aj qg _).set aj qg _).set aj qg _⟩
 clear d9 d8 F7 HK62 H9 fg jo X0 ie cr D5
 go_wp2_with fail
 clear eV dg sj eV4 eg6 E6 q0 q1 qf r0 r1 r2 rf
 refine(HU.o.rd.pick qg 5 qg qg).mono ?_
 rintro e w2 ⟨x,rfl,hx,az,am⟩
 replace HU:=Ad (HU.o.gb df qg qg az am)
 clear am az
 go_wp2_with fail
 go_loopw [8] (λi wr=>∃(k:X)(v1 v2 tv qv:Z),k≤4∧i=I k∧Hd (Ja w B R a len cap p n g6 g7 (11001+(4-k)*5040) wr v1 v2 tv qv)) (λi _=>(intOf i).toNat)
 case atStart=>exact⟨x,_,_,_,_,qg,rfl,Ad (HU.o.more qg)⟩
 case round=>
  clear HU;obtain⟨k,v1,v2,tv,qv,hk,rfl,HU⟩:=hrel
  by_cases au:0<k
  ·have gi:(0:Int)<(k:Int):=qg
   go_wp2_with fail;refine(HU.o.rd.pick qg 3 qg qg).mono ?_;rintro e w3 ⟨y,rfl,hy,az,am⟩;replace HU:=Ad (HU.o.gb df qg qg az am);clear am az;go_wp2_with fail
   go_loopw [9] (λi wr=>∃(j:X)(v1 v2 tv qv:Z),j≤3∧i=I j∧Hd (Ja w B R a len cap p n g6 g7 (11001+(4-k)*5040+1+(3-j)*10) wr v1 v2 tv qv)) (λi _=>(intOf i).toNat)
   case atStart=>exact⟨y+1,_,_,_,_,qg,qp,Ad (HU.o.more qg)⟩
   case round=>
    clear HU;obtain⟨j,v1,v2,tv,qv,hj,rfl,HU⟩:=hrel
    by_cases hjl:0<j
    ·have hjI:(0:Int)<(j:Int):=qg
     obtain⟨sa,n1,c1,ta,n2,c2,rfl,rfl⟩:=HU.o.sp.sl;obtain⟨xa,t1,t2,qa,q1,q2,rfl,rfl⟩:=HU.o.sl;go_wp2_with fail;refine Lt.begin 99 (λw'=>w'.cell? ⟨g7,0,N⟩=M (I (n:Int))∧w'.cell? ⟨g7,1,N⟩=M (J xa t1 t2)∧w'.cell? ⟨g7,2,N⟩=M (J qa q1 q2)∧w'.cell? ⟨g6,0,N⟩=M (J sa n1 c1)∧w'.cell? ⟨g6,1,N⟩=M (J ta n2 c2)) qk ?_;obtain⟨wD,eD⟩:=Aj wr.drew;rw[eD];have ao:Bw wr wD:=qq;clear eD;replace HU:=Ad (HU.o.bl aj ao);clear ao;have aw:wD.cell? ⟨g7,0,N⟩=M (I (n:Int))∧wD.cell? ⟨g7,1,N⟩=M (J xa t1 t2)∧wD.cell? ⟨g7,2,N⟩=M (J qa q1 q2)∧wD.cell? ⟨g6,0,N⟩=M (J sa n1 c1)∧wD.cell? ⟨g6,1,N⟩=M (J ta n2 c2):=⟨(Ab HU.o.k7).1,(Ab HU.o.k7).2.1,(Ab HU.o.k7).2.2,(Ag HU.o.k6).1,(Ag HU.o.k6).2.1⟩;change K 0 _
     iterate 4
      refine Lt.ti (v:=?_) aw ?_ ?_;rotate_left 1
      ·exact qay
      simp only[gX]
     refine Lt.two (i:=4) (j:=6) (oi:={ dst:=M 32,op:=Op.call { callee:=Callee.value (Operand.func 49),args:=#[Operand.tmp 30,Operand.tmp 31],argTypes:=#[39,44] },type:=9,pos := "l4_draw.go:32",after:=#[{ on:=2,ground:=Ground.data },{ on:=3,ground:=Ground.data }],guard:=N }) (oj:={ dst:=M 10,op:=Op.alloc 92,type:=0,pos := "l4_draw.go:32",after:=#[],guard:=N }) qk rfl rfl (λK hK=>?_) (λK hK=>?_)
     ·skip
      go_simp;refine(HU.o.rd.asked aj qg HU.o.sp qg).mono ?_;rintro e w5 ⟨s,rfl,hs,az,am⟩;replace HU:=Ad (HU.o.gb df qg qg az am);have bj:w5.cell? ⟨g7,0,N⟩=M (I (n:Int))∧w5.cell? ⟨g7,1,N⟩=M (J xa t1 t2)∧w5.cell? ⟨g7,2,N⟩=M (J qa q1 q2)∧w5.cell? ⟨g6,0,N⟩=M (J sa n1 c1)∧w5.cell? ⟨g6,1,N⟩=M (J ta n2 c2):=⟨(Ab HU.o.k7).1,(Ab HU.o.k7).2.1,(Ab HU.o.k7).2.2,(Ag HU.o.k6).1,(Ag HU.o.k6).2.1⟩;refine hK.out _ _ (λ_=>bj) (λ_=>?_);clear hK K am az
      try simp only[gX]
      refine Lt.two (i:=5) (j:=6) (oi:={ dst:=M 33,op:=Op.call { callee:=Callee.value (Operand.func 48),args:=#[Operand.tmp 28,Operand.tmp 29,Operand.tmp 32],argTypes:=#[26,44,9] },type:=92,pos := "l4_draw.go:32",after:=#[{ on:=0,ground:=Ground.data },{ on:=1,ground:=Ground.data },{ on:=4,ground:=Ground.data },{ on:=4,ground:=Ground.chain }],guard:=N }) (oj:={ dst:=M 10,op:=Op.alloc 92,type:=0,pos := "l4_draw.go:32",after:=#[],guard:=N }) qk rfl rfl (λK hK=>?_) (λK hK=>?_)
      ·skip
       go_simp;refine(HU.o.build s hs).mono ?_;rintro e w6 ⟨cj,cc,tt,AA,BB,wd,ca,Of,sd,na,ea,c3,c4,t3,t4,q3,q4,n3,n4,e3,e4,rfl,J2⟩;(have ri:Hd (cc≤5→wd=(n:Int)∧∃T Rr,Cz (n:Int) T Rr∧Di w6 (R+1) (J Of t3 t4) (J sd q3 q4) T Rr):=λhc=>by obtain⟨h1,T,Rr,h2,h3⟩:=J2 hc;exact⟨h1,T,Rr,h2,h3.base (zo HU.o.rd.size)⟩);replace HU:=Ad (HU.o.bl aj cj);have cz:w6.cell? ⟨g7,0,N⟩=M (I (n:Int))∧w6.cell? ⟨g7,1,N⟩=M (J xa t1 t2)∧w6.cell? ⟨g7,2,N⟩=M (J qa q1 q2)∧w6.cell? ⟨g6,0,N⟩=M (J sa n1 c1)∧w6.cell? ⟨g6,1,N⟩=M (J ta n2 c2):=⟨(Ab HU.o.k7).1,(Ab HU.o.k7).2.1,(Ab HU.o.k7).2.2,(Ag HU.o.k6).1,(Ag HU.o.k6).2.1⟩;refine hK.out _ _ (λ_=>cz) (λ_=>?_);clear hK K cj J2
       try simp only[gX]
       refine Lt.sp (i:=6) (λK hK=>?_);obtain⟨kh,ux⟩:=Aj w6.heap.size;have hg10:g7<kh:=zo (An HU.o.k7);obtain⟨nz,om⟩:=Aj (w6.alloc (O #[I 0,ze,nS,I 0,nS,nS,nS,nS,ze,ze] 92));have j9:Hd (nz.heap[kh]?=M (O #[I 0,ze,nS,I 0,nS,nS,nS,nS,ze,ze] 92 (0,0))):=qfd;have ut:Bw w6 nz:=om▸aN _ _;(replace ri:Hd (cc≤5→wd=(n:Int)∧∃T Rr,Cz (n:Int) T Rr∧Di nz (R+1) (J Of t3 t4) (J sd q3 q4) T Rr):=λhc=>by obtain⟨h1,T,Rr,h2,h3⟩:=ri.o hc;exact⟨h1,T,Rr,h2,h3.bl ut⟩);go_simp
       try rw[om]
       try rw[ux]
       replace HU:=Ad (HU.o.bl aj ut);have o9:nz.cell? ⟨g7,0,N⟩=M (I (n:Int))∧nz.cell? ⟨g7,1,N⟩=M (J xa t1 t2)∧nz.cell? ⟨g7,2,N⟩=M (J qa q1 q2)∧nz.cell? ⟨g6,0,N⟩=M (J sa n1 c1)∧nz.cell? ⟨g6,1,N⟩=M (J ta n2 c2):=⟨(Ab HU.o.k7).1,(Ab HU.o.k7).2.1,(Ab HU.o.k7).2.2,(Ag HU.o.k6).1,(Ag HU.o.k6).2.1⟩;refine hK.out _ _ (λ_=>o9) (λ_=>?_);clear hK K om ux ut
       try simp only[gX]
       obtain⟨y0,y1,y2,y3,y4,y5,y6,y7,y8,y9,yf⟩:=Qr j9.o;have zk:Hd (Ai nz kh 92):=⟨_,j9.o⟩;obtain⟨w9,e9⟩:=Aj (((((((((((nz.setCell ⟨kh,0,N⟩ (I cc)).setCell ⟨kh,1,N⟩ (S tt)).setCell ⟨kh,2,N⟩ (J ca c3 c4)).setCell ⟨kh,3,N⟩ (I wd)).setCell ⟨kh,4,N⟩ (J Of t3 t4)).setCell ⟨kh,5,N⟩ (J sd q3 q4)).setCell ⟨kh,6,N⟩ (J na n3 n4)).setCell ⟨kh,7,N⟩ (J ea e3 e4)).setCell ⟨kh,8,N⟩ (S AA)).setCell ⟨kh,9,N⟩ (S BB)));replace HU:Hd (Ja w B R a len cap p n g6 g7 (11001+(4-k)*5040+1+(3-(j-1))*10) w9 (J sa n1 c1) (J ta n2 c2) (J xa t1 t2) (J qa q1 q2)):=(e9▸HU.o.s10 aj qg qg qg zk.o _ _ _ _ _ _ _ _ _ _:Ja w B R a len cap p n g6 g7 _ w9 (J sa n1 c1) (J ta n2 c2) (J xa t1 t2) (J qa q1 q2)).more qg;(replace ri:Hd (cc≤5→wd=(n:Int)∧∃T Rr,Cz (n:Int) T Rr∧Di w9 (R+1) (J Of t3 t4) (J sd q3 q4) T Rr):=λhc=>by obtain⟨h1,T,Rr,h2,h3⟩:=ri.o hc;exact⟨h1,T,Rr,h2,e9▸h3.s10 zk.o _ _ _ _ _ _ _ _ _ _⟩);replace j9:Hd (w9.heap[kh]?=M (O #[I cc,S tt,J ca c3 c4,I wd,J Of t3 t4,J sd q3 q4,J na n3 n4,J ea e3 e4,S AA,S BB] 92 (0,0))):=e9▸blk_s10 j9.o _ _ _ _ _ _ _ _ _ _;refine Lt.sp (i:=7) (λK hK=>?_);go_simp
       try rw[e9]
       have gj:w9.cell? ⟨g7,0,N⟩=M (I (n:Int))∧w9.cell? ⟨g7,1,N⟩=M (J xa t1 t2)∧w9.cell? ⟨g7,2,N⟩=M (J qa q1 q2)∧w9.cell? ⟨g6,0,N⟩=M (J sa n1 c1)∧w9.cell? ⟨g6,1,N⟩=M (J ta n2 c2):=⟨(Ab HU.o.k7).1,(Ab HU.o.k7).2.1,(Ab HU.o.k7).2.2,(Ag HU.o.k6).1,(Ag HU.o.k6).2.1⟩;refine hK.out _ _ (λ_=>gj) (λ_=>?_);clear hK K e9 y0 y1 y2 y3 y4 y5 y6 y7 y8 y9 yf zk
       try simp only[gX]
       refine Lt.done qk ?_ _;obtain⟨y0,y1,y2,y3,y4,y5,y6,y7,y8,y9,yf⟩:=Qr j9.o;obtain⟨z0,z1,z2⟩:=Ab HU.o.k7;have zf:=(λj=>fH HU.o.k7 j)
       by_cases hc:cc≤5
       ·obtain⟨rfl,T,Rr,cm,dm⟩:=ri.o hc
        have im:=Ad cm;have fx:=Ad dm;clear cm dm ri;go_wp2;go_roundw
        case rel=>exact⟨j-1,_,_,_,_,qg,qp,Ad (HU.o.put7 aj qg qg im.o fx.o)⟩
        case measure=>simp[intOf];omega
       ·go_wp2
        go_roundw
        case rel=>exact⟨j-1,_,_,_,_,qg,qp,HU⟩
        case measure=>simp[intOf];omega
      ·skip
       obtain⟨kh,ux⟩:=Aj w5.heap.size;have hg10:g7<kh:=zo (An HU.o.k7);obtain⟨nz,om⟩:=Aj (w5.alloc (O #[I 0,ze,nS,I 0,nS,nS,nS,nS,ze,ze] 92));have j9:Hd (nz.heap[kh]?=M (O #[I 0,ze,nS,I 0,nS,nS,nS,nS,ze,ze] 92 (0,0))):=qfd;have ut:Bw w5 nz:=om▸aN _ _;go_simp
       try rw[om]
       try rw[ux]
       replace HU:=Ad (HU.o.bl aj ut);have cz:nz.cell? ⟨g7,0,N⟩=M (I (n:Int))∧nz.cell? ⟨g7,1,N⟩=M (J xa t1 t2)∧nz.cell? ⟨g7,2,N⟩=M (J qa q1 q2)∧nz.cell? ⟨g6,0,N⟩=M (J sa n1 c1)∧nz.cell? ⟨g6,1,N⟩=M (J ta n2 c2):=⟨(Ab HU.o.k7).1,(Ab HU.o.k7).2.1,(Ab HU.o.k7).2.2,(Ag HU.o.k6).1,(Ag HU.o.k6).2.1⟩;refine hK.out _ _ (λ_=>cz) (λ_=>?_);clear hK K om ux ut;exact qgk
     ·skip
      obtain⟨kh,ux⟩:=Aj wD.heap.size;have hg10:g7<kh:=zo (An HU.o.k7);obtain⟨nz,om⟩:=Aj (wD.alloc (O #[I 0,ze,nS,I 0,nS,nS,nS,nS,ze,ze] 92));have j9:Hd (nz.heap[kh]?=M (O #[I 0,ze,nS,I 0,nS,nS,nS,nS,ze,ze] 92 (0,0))):=qfd;have ut:Bw wD nz:=om▸aN _ _;go_simp
      try rw[om]
      try rw[ux]
      replace HU:=Ad (HU.o.bl aj ut);have bj:nz.cell? ⟨g7,0,N⟩=M (I (n:Int))∧nz.cell? ⟨g7,1,N⟩=M (J xa t1 t2)∧nz.cell? ⟨g7,2,N⟩=M (J qa q1 q2)∧nz.cell? ⟨g6,0,N⟩=M (J sa n1 c1)∧nz.cell? ⟨g6,1,N⟩=M (J ta n2 c2):=⟨(Ab HU.o.k7).1,(Ab HU.o.k7).2.1,(Ab HU.o.k7).2.2,(Ag HU.o.k6).1,(Ag HU.o.k6).2.1⟩;refine hK.out _ _ (λ_=>bj) (λ_=>?_);clear hK K om ux ut
      try simp only[gX]
      refine Lt.sp (i:=4) (λK hK=>?_);go_simp;refine(HU.o.rd.asked aj qg HU.o.sp qg).mono ?_;rintro e w5 ⟨s,rfl,hs,az,am⟩;replace HU:=Ad (HU.o.gb df qg qg az am);replace j9:=Ad (Az j9.o am qg);have cz:w5.cell? ⟨g7,0,N⟩=M (I (n:Int))∧w5.cell? ⟨g7,1,N⟩=M (J xa t1 t2)∧w5.cell? ⟨g7,2,N⟩=M (J qa q1 q2)∧w5.cell? ⟨g6,0,N⟩=M (J sa n1 c1)∧w5.cell? ⟨g6,1,N⟩=M (J ta n2 c2):=⟨(Ab HU.o.k7).1,(Ab HU.o.k7).2.1,(Ab HU.o.k7).2.2,(Ag HU.o.k6).1,(Ag HU.o.k6).2.1⟩;refine hK.out _ _ (λ_=>cz) (λ_=>?_);clear hK K am az;exact qgk
    ·have e0:j=0:=qg
     subst e0;go_wp2_with fail;refine(HU.o.rd.pick qg 4 qg qg).mono ?_;rintro e w4 ⟨z,rfl,hz,az,am⟩;replace HU:=Ad (HU.o.gb df qg qg az am);clear am az
     rcases Nat.eq_zero_or_pos z with rfl|bm
     ·go_wp2
      exact⟨⟨k-1,_,_,_,_,qg,qp,Ad (HU.o.more qg)⟩,Yj⟩
     ·have tm:(0:Int)<(z:Int):=qg
      obtain⟨sa,n1,c1,ta,n2,c2,rfl,rfl⟩:=HU.o.sp.sl;obtain⟨p0,p1,pf⟩:=Ag HU.o.k6;go_wp2_with fail;refine(HU.o.rd.change aj qg HU.o.sp qg).mono ?_;rintro e w5 ⟨u1,u2,rfl,hd5,az,am⟩;replace HU:=Ad (HU.o.gb df qg qg az am);have HD:=Ad hd5;clear am az p0 p1 pf hd5;obtain⟨sb,m1,d1,tb,m2,d2,rfl,rfl⟩:=HD.o.sl;obtain⟨p0,p1,pf⟩:=Ag HU.o.k6;go_wp2;exact⟨⟨k-1,_,_,_,_,qg,qp,Ad ((HU.o.put6 aj hg6 qg HD.o).more qg)⟩,Yj⟩
  ·have e0:k=0:=qg
   subst e0;obtain⟨sa,n1,c1,ta,n2,c2,rfl,rfl⟩:=HU.o.sp.sl;obtain⟨xa,t1,t2,qa,q1,q2,rfl,rfl⟩:=HU.o.sl;go_wp2_with fail;refine Lt.begin 99 (λw'=>w'.cell? ⟨g7,0,N⟩=M (I (n:Int))∧w'.cell? ⟨g7,1,N⟩=M (J xa t1 t2)∧w'.cell? ⟨g7,2,N⟩=M (J qa q1 q2)∧w'.cell? ⟨g6,0,N⟩=M (J sa n1 c1)∧w'.cell? ⟨g6,1,N⟩=M (J ta n2 c2)) qk ?_;obtain⟨wD,eD⟩:=Aj wr.drew;rw[eD];have ao:Bw wr wD:=qq;clear eD;replace HU:=Ad (HU.o.bl aj ao);clear ao;have aw:wD.cell? ⟨g7,0,N⟩=M (I (n:Int))∧wD.cell? ⟨g7,1,N⟩=M (J xa t1 t2)∧wD.cell? ⟨g7,2,N⟩=M (J qa q1 q2)∧wD.cell? ⟨g6,0,N⟩=M (J sa n1 c1)∧wD.cell? ⟨g6,1,N⟩=M (J ta n2 c2):=⟨(Ab HU.o.k7).1,(Ab HU.o.k7).2.1,(Ab HU.o.k7).2.2,(Ag HU.o.k6).1,(Ag HU.o.k6).2.1⟩;obtain⟨W2,e2⟩:=Aj (((wD.setCell ⟨w.heap.size,0,N⟩ (I (n:Int))).setCell ⟨w.heap.size,1,N⟩ (J xa t1 t2)).setCell ⟨w.heap.size,2,N⟩ (J qa q1 q2));obtain⟨W3,e3⟩:=Aj ((W2.setCell ⟨w.heap.size+1,0,N⟩ (J sa n1 c1)).setCell ⟨w.heap.size+1,1,N⟩ (J ta n2 c2));have HF:=Ad (HU.o.fin aj hg6 qg W2 W3 e2 e3);have cz:W2.cell? ⟨g7,0,N⟩=M (I (n:Int))∧W2.cell? ⟨g7,1,N⟩=M (J xa t1 t2)∧W2.cell? ⟨g7,2,N⟩=M (J qa q1 q2)∧W2.cell? ⟨g6,0,N⟩=M (J sa n1 c1)∧W2.cell? ⟨g6,1,N⟩=M (J ta n2 c2):=⟨(Ab HF.o.1.2.1).1,(Ab HF.o.1.2.1).2.1,(Ab HF.o.1.2.1).2.2,(Ag HF.o.1.1).1,(Ag HF.o.1.1).2.1⟩;have o9:W3.cell? ⟨g7,0,N⟩=M (I (n:Int))∧W3.cell? ⟨g7,1,N⟩=M (J xa t1 t2)∧W3.cell? ⟨g7,2,N⟩=M (J qa q1 q2)∧W3.cell? ⟨g6,0,N⟩=M (J sa n1 c1)∧W3.cell? ⟨g6,1,N⟩=M (J ta n2 c2):=⟨(Ab HF.o.2.1.2.1).1,(Ab HF.o.2.1.2.1).2.1,(Ab HF.o.2.1.2.1).2.2,(Ag HF.o.2.1.1).1,(Ag HF.o.2.1.1).2.1⟩;obtain⟨x0,x1,x2⟩:=Ab HU.o.k4;have xf:=(λj=>fH HU.o.k4 j);obtain⟨y0,y1,yf⟩:=Ag HF.o.1.2.2;obtain⟨z0,z1,z2,z3,z4⟩:=aw;obtain⟨p0,p1,p2,p3,p4⟩:=cz;refine Lt.ti (i:=0) (v:=?_) ⟨z0,z1,z2,z3,z4⟩ ?_ ?_;rotate_left 1
   ·exact qay
   simp only[gX];refine Lt.two (i:=1) (j:=2) (oi:={ dst:=M 46,op:=Op.load 44 (Operand.tmp 6),type:=44,pos := "l4_draw.go:41",after:=#[{ on:=2,ground:=Ground.gcOnly Departure.lateStores }],guard:=N }) (oj:={ dst:=N,op:=Op.store 26 (Operand.tmp 4) (Operand.tmp 45),type:=0,pos := "l4_draw.go:41",after:=#[{ on:=0,ground:=Ground.data },{ on:=0,ground:=Ground.phase },{ on:=1,ground:=Ground.textOnly Departure.lateStores }],guard:=N }) qk rfl rfl (λK hK=>?_) (λK hK=>?_)
   ·skip
    go_simp;refine hK.out _ _ (λ_=>⟨z0,z1,z2,z3,z4⟩) (λ_=>?_);clear hK K
    try simp only[gX]
    refine Lt.sp (i:=2) (λK hK=>?_);go_simp
    try rw[e2]
    exact qhq
   ·skip
    go_simp
    try rw[e2]
    refine hK.out _ _ (λ_=>⟨p0,p1,p2,p3,p4⟩) (λ_=>?_);clear hK K
    try simp only[gX]
    refine Lt.sp (i:=1) (λK hK=>?_);go_simp;exact qhq
theorem Pj{k:X}(h:k≤1000000):IntKind.wrap .i64 (k:Int)=(k:Int):=by
 have hb:IntKind.bits .i64=64:=rfl;simp[IntKind.wrap,hb];omega
def DrC(f:X):Prop:=∀(B R:X)(a:Option Addr)(len cap p:X)(w:E)(n:X)(tv qv:Z)(T:L By)(Rr:L T3),Rd B w R a len cap p→B≤w.heap.size→p≤45000→1≤n→n≤8→Cz (n:Int) T Rr→Di w (R+1) tv qv T Rr→
 Calls prog f #[D (p_ R),G #[I (n:Int),tv,qv]] w λe w'=>∃(m:Int)(xa:Option Addr)(t1 t2:X)(qa:Option Addr)(q1 q2:X)(T':L By)(R':L T3),e=H (G #[I m,J xa t1 t2,J qa q1 q2])∧Di w' (R+1) (J xa t1 t2) (J qa q1 q2) T' R'∧Qs T' R'∧Ba B R a len cap p 3000 w w'
def FilC:Prop:=∀(w:E)(lo n k:X)(tv qv:Z)(T:L By)(Rr:L T3),1≤n→n≤8→Cz (n:Int) T Rr→Di w lo tv qv T Rr→k≤5000→
 Calls prog 32 #[G #[I (n:Int),tv,qv],I (k:Int)] w λe w'=>Bw w w'∧∃(m:Int)(xa:Option Addr)(t1 t2:X)(qa:Option Addr)(q1 q2:X)(T':L By)(R':L T3),e=H (G #[I m,J xa t1 t2,J qa q1 q2])∧Di w' w.heap.size (J xa t1 t2) (J qa q1 q2) T' R'∧Qs T' R'
theorem Ba.drc{f:X}{len cap K:X}{w:E}(hf:DrC f)(h:Ba B R a len cap p K w0 w)(hB:B≤w0.heap.size)(hp:p+K≤45000)(h1:1≤n)(h8:n≤8)(cm:Cz (n:Int) T Rr)(hd:Di w (R+1) tv qv T Rr):Calls prog f #[D (p_ R),G #[I (n:Int),tv,qv]] w λe w'=>∃(m:Int)(xa:Option Addr)(t1 t2:X)(qa:Option Addr)(q1 q2:X)(T':L By)(R':L T3),e=H (G #[I m,J xa t1 t2,J qa q1 q2])∧Di w' (R+1) (J xa t1 t2) (J qa q1 q2) T' R'∧Qs T' R'∧Ba B R a len cap p (K+3000) w0 w'∧w.grownBy w' (M R):=by
 obtain⟨k1,p',k2,k3⟩:=h;refine(hf B R a len cap p' w n tv qv T Rr k3 (Nat.le_trans hB k1.size) qg h1 h8 cm hd).mono ?_;rintro e w' ⟨m,xa,t1,t2,qa,q1,q2,T',R',rfl,hs,hb,hg,q,hq,hr⟩;exact⟨m,xa,t1,t2,qa,q1,q2,T',R',rfl,hs,hb,⟨Dr k1 hg,q,qg,hr⟩,hg⟩
theorem Ba.width{len cap K:X}{w:E}(h:Ba B R a len cap p K w0 w)(hB:B≤w0.heap.size)(hp:p+K≤90000):Calls prog 31 #[D (p_ R)] w λe w'=>∃n:X,e=H (I n)∧1≤n∧n≤8∧Ba B R a len cap p (K+1) w0 w'∧w.grownBy w' (M R):=by
 obtain⟨k1,p',k2,k3⟩:=h;refine(Qg w B R a len cap p' k3 (Nat.le_trans hB k1.size) qg).mono ?_;rintro e w' ⟨n,rfl,h1,h8,hg,q,hq,hr⟩;exact⟨n,rfl,h1,h8,⟨Dr k1 hg,q,qg,hr⟩,hg⟩
theorem Ba.used{len cap K:X}{w:E}(h:Ba B R a len cap p K w0 w)(hB:B≤w0.heap.size)(hp:p+K≤10000)(h1:1≤n)(h8:n≤8):Calls prog 30 #[D (p_ R),I n] w λe w'=>∃tv qv v1 v2 T Rr,e=H (Y #[G #[I n,tv,qv],G #[v1,v2]])∧Cz (n:Int) T Rr∧Di w' (R+1) tv qv T Rr∧Ia w' (R+1) v1 v2∧Ba B R a len cap p (K+33000) w0 w'∧w.grownBy w' (M R):=by
 obtain⟨k1,p',k2,k3⟩:=h;refine(Zw B R a len cap p' n w k3 (Nat.le_trans hB k1.size) qg h1 h8).mono ?_;rintro e w' ⟨tv,qv,v1,v2,T,Rr,rfl,cm,hs,hd,hg,q,hq,hr⟩;exact⟨tv,qv,v1,v2,T,Rr,rfl,cm,hs,hd,⟨Dr k1 hg,q,qg,hr⟩,hg⟩
theorem Ja.fin2{w:E}{len cap K:X}(h:Ja w0 B R a len cap p n g6 g7 K w v1 v2 tv qv)(hB:B≤w0.heap.size)(h6:w0.heap.size+1<g6)(h7:w0.heap.size+1<g7)(m:Int)(dm:Di w (R+1) x1 x2 T Rr):∀W2 W3:E,((w.setCell ⟨w0.heap.size,0,N⟩ (I m)).setCell ⟨w0.heap.size,1,N⟩ x1).setCell ⟨w0.heap.size,2,N⟩ x2=W2→(W2.setCell ⟨w0.heap.size+1,0,N⟩ v1).setCell ⟨w0.heap.size+1,1,N⟩ v2=W3→
 (W2.heap[g6]?=M (O #[v1,v2] 44 (0,0))∧W2.heap[g7]?=M (O #[I (n:Int),tv,qv] 26 (0,0))∧W2.heap[w0.heap.size+1]?=M (O #[nS,nS] 44 (0,0)))∧
 (W3.heap[g6]?=M (O #[v1,v2] 44 (0,0))∧W3.heap[g7]?=M (O #[I (n:Int),tv,qv] 26 (0,0))∧W3.heap[w0.heap.size]?=M (O #[I m,x1,x2] 26 (0,0))∧W3.heap[w0.heap.size+1]?=M (O #[v1,v2] 44 (0,0)))∧Ia W3 (R+1) v1 v2∧Di W3 (R+1) x1 x2 T Rr∧Ba B R a len cap p K w0 W3:=by
 rintro W2 W3 e2 e3;have ht:Ai w w0.heap.size 26:=⟨_,h.k4⟩;have d:∀ {W:E} (b j T0:X) (u:Z),T0=26∨T0=44→Ai W b T0→Di W (R+1) x1 x2 T Rr→Di (W.setCell ⟨b,j,N⟩ u) (R+1) x1 x2 T Rr:=λb j T0 u q ht k=>by rcases q with rfl|rfl<;>exact k.setG ht qh qh qh qh u
 have s:∀ {W:E} (b j T0:X) (u:Z),T0=26∨T0=44→Ai W b T0→Ia W (R+1) v1 v2→Ia (W.setCell ⟨b,j,N⟩ u) (R+1) v1 v2:=λb j T0 u q ht k=>by rcases q with rfl|rfl<;>exact k.setG ht qh qh qh u
 have b2:∀(b:X)(o:Obj),w.heap[b]?=M o→b≠w0.heap.size→W2.heap[b]?=M o:=λb o hb aq=>by rw[←e2];exact Af (Af (Af hb aq _) aq _) aq _
 have b3:∀(b:X)(o:Obj),W2.heap[b]?=M o→b≠w0.heap.size+1→W3.heap[b]?=M o:=λb o hb aq=>by rw[←e3];exact Af (Af hb aq _) aq _
 have k4:W2.heap[w0.heap.size]?=M (O #[I m,x1,x2] 26 (0,0)):=by rw[←e2,jB (jB (jB h.k4 _) _) _];rfl
 have k5:=b2 _ _ h.k5 qg;have Do:Ai W2 (w0.heap.size+1) 44:=⟨_,k5⟩;have sp2:Ia W2 (R+1) v1 v2:=by rw[←e2];exact s _ 2 26 _ (Or.inl rfl) ((ht.set _).set _) (s _ 1 26 _ (Or.inl rfl) (ht.set _) (s _ 0 26 _ (Or.inl rfl) ht h.sp))
 have st2:Di W2 (R+1) x1 x2 T Rr:=by rw[←e2];exact d _ 2 26 _ (Or.inl rfl) ((ht.set _).set _) (d _ 1 26 _ (Or.inl rfl) (ht.set _) (d _ 0 26 _ (Or.inl rfl) ht dm))
 have rd2:Ba B R a len cap p K w0 W2:=by rw[←e2];exact((h.rd.set hB (Nat.le_refl _) _).set hB (Nat.le_refl _) _).set hB (Nat.le_refl _) _
 refine⟨⟨b2 _ _ h.k6 qg,b2 _ _ h.k7 qg,k5⟩,⟨b3 _ _ (b2 _ _ h.k6 qg) qg,b3 _ _ (b2 _ _ h.k7 qg) qg,b3 _ _ k4 qg,by rw[←e3];exact Kn k5 _ _⟩,?_,?_,?_⟩
 ·exact qld
 ·exact qle
 ·rw[←e3];exact(rd2.set hB (Nat.le_succ _) _).set hB (Nat.le_succ _) _
theorem l4Any_any(hF:FilC)(hS:DrC 33)(hL:DrC 34)(B R:X)(a:Option Addr)(len cap p:X)(w:E)(h:Rd B w R a len cap p)(aj:B≤w.heap.size)(hp:p≤5000):Calls prog 13 #[D (p_ R)] w λe w'=>∃(m:Int)(xa:Option Addr)(t1 t2:X)(qa:Option Addr)(q1 q2:X)(v1 v2:Z)(T:L By)(Rr:L T3),e=H (Y #[G #[I m,J xa t1 t2,J qa q1 q2],G #[v1,v2]])∧Di w' (R+1) (J xa t1 t2) (J qa q1 q2) T Rr∧Qs T Rr∧Ia w' (R+1) v1 v2∧Ba B R a len cap p 37000 w w':=by
 have P8:=h.lt
 have df:R<w.heap.size:=qg
 obtain⟨W,eW⟩:=Aj ((w.alloc (O #[I 0,nS,nS] 26)).alloc (O #[nS,nS] 44))
 have f7:Bw w W:=eW▸(aN _ _).alloc qi _
 have d9:Hd (W.heap[w.heap.size]?=M (O #[I 0,nS,nS] 26 (0,0))):=qbr
 have d8:Hd (W.heap[w.heap.size+1]?=M (O #[nS,nS] 44 (0,0))):=qbs
 have fg:Hd (Ba B R a len cap p 0 w W):=Ba.bl ⟨Im _ _,p,Nat.le_refl _,h⟩ aj f7
 clear h f7
 go_enter func13,ntmps13
 go_wp2_with fail
 clear eW
 refine(fg.o.width aj qg).mono ?_
 rintro e w1 ⟨n,rfl,pp,ul,az,am⟩
 replace d9:=Ad (Az d9.o am qg)
 replace d8:=Ad (Az d8.o am qg)
 replace fg:=Ad az
 clear az am
 go_wp2_with fail
 refine(fg.o.used aj qg pp ul).mono ?_
 rintro e w2 ⟨tv,qv,v1,v2,T,Rr,rfl,cm,dm,yq,az,am⟩
 replace d9:=Ad (Az d9.o am qg)
 replace d8:=Ad (Az d8.o am qg)
 replace fg:=Ad az
 have im:=Ad cm
 have fx:=Ad dm
 have H9:=Ad yq
 obtain⟨sa,n1,c1,ta,n2,c2,rfl,rfl⟩:=yq.sl
 obtain⟨xa,t2,qa,q2,rfl,rfl,_⟩:=dm.rd cm.rbd
 obtain⟨t1,et1⟩:=Aj T.length
 obtain⟨q1,eq1⟩:=Aj Rr.length
 rw[et1,eq1]at fx ⊢
 clear az am cm dm yq et1 eq1
 obtain⟨g7,E6⟩:=Aj w2.heap.size
 have K0:w.heap.size+1<g7:=zo (An d8.o)
 obtain⟨V,eV⟩:=Aj ((w2.alloc (O #[I 0,nS,nS] 26)).alloc (O #[nS,nS] 44))
 have jo:Hd (V.heap[g7]?=M (O #[I 0,nS,nS] 26 (0,0))):=by show _=_;rw[←eV,←E6];exact Kj _ _ _
 have F7:Hd (V.heap[g7+1]?=M (O #[nS,nS] 44 (0,0))):=by show _=_;rw[←eV,←E6];exact Kk _ _ _
 have cr:Bw w2 V:=eV▸(aN _ _).alloc qi _
 obtain⟨r0,r1,r2⟩:=Ab jo.o
 have rf:=(λj=>fH jo.o j)
 have ie:Hd (Ai V g7 26):=⟨_,jo.o⟩
 obtain⟨VA,eVA⟩:=Aj (((V.setCell ⟨g7,0,N⟩ (I (n:Int))).setCell ⟨g7,1,N⟩ (J xa t1 t2)).setCell ⟨g7,2,N⟩ (J qa q1 q2))
 have xe:Hd (VA.heap[g7+1]?=M (O #[nS,nS] 44 (0,0))):=eVA▸Af (Af (Af F7.o qg _) qg _) qg _
 obtain⟨y0,y1,yf⟩:=Ag xe.o
 have X0:Hd (Ai VA (g7+1) 44):=⟨_,xe.o⟩
 obtain⟨VB,eVB⟩:=Aj ((VA.setCell ⟨g7+1,0,N⟩ (J sa n1 c1)).setCell ⟨g7+1,1,N⟩ (J ta n2 c2))
 have bA:∀(b:X)(o:Obj),w2.heap[b]?=M o→b≠g7→VA.heap[b]?=M o:=λb o hb aq=>by rw[←eVA];exact Af (Af (Af (Ac hb cr) aq _) aq _) aq _
 have bB:∀(b:X)(o:Obj),VA.heap[b]?=M o→b≠g7+1→VB.heap[b]?=M o:=λb o hb aq=>by rw[←eVB];exact Af (Af hb aq _) aq _
 have HU:Hd (Ja w B R a len cap p n (g7+1) g7 33001 VB (J sa n1 c1) (J ta n2 c2) (J xa t1 t2) (J qa q1 q2)):=by
  have k7:VA.heap[g7]?=M (O #[I (n:Int),J xa t1 t2,J qa q1 q2] 26 (0,0)):=by rw[←eVA,jB (jB (jB jo.o _) _) _];rfl
  have spA:Ia VA (R+1) (J sa n1 c1) (J ta n2 c2):=by rw[←eVA];exact(((H9.o.bl cr).setG ie.o qh qh qh _).setG (ie.o.set _) qh qh qh _).setG ((ie.o.set _).set _) qh qh qh _
  have stA:Di VA (R+1) (J xa t1 t2) (J qa q1 q2) T Rr:=by rw[←eVA];exact(((fx.o.bl cr).setG ie.o qh qh qh qh _).setG (ie.o.set _) qh qh qh qh _).setG ((ie.o.set _).set _) qh qh qh qh _
  have rdA:Ba B R a len cap p 33001 w VA:=by rw[←eVA];exact((((fg.o.bl aj cr).set aj qg _).set aj qg _).set aj qg _).more qg
  exact⟨bB _ _ (bA _ _ d9.o qg) qg,bB _ _ (bA _ _ d8.o qg) qg,by rw[←eVB];exact Kn xe.o _ _,bB _ _ k7 qg,by rw[←eVB];exact(spA.setT X0.o _).setT (X0.o.set _) _,⟨T,Rr,im.o,by rw[←eVB];exact(stA.setG X0.o qh qh qh qh _).setG (X0.o.set _) qh qh qh qh _⟩,by rw[←eVB];exact(rdA.set aj qg _).set aj qg _⟩
 clear d9 d8 F7 xe jo fg im fx H9 X0 ie bA bB cr
 go_wp2_with fail
 clear eV eVA eVB r0 r1 r2 rf y0 y1 yf E6
 obtain⟨g6,eg6⟩:=Aj (g7+1)
 rw[eg6]at HU ⊢
 have hg6:g7<g6:=qg
 clear eg6
 refine(HU.o.rd.pick qg 16 qg qg).mono ?_
 rintro e w3 ⟨x,rfl,hx,az,am⟩
 replace HU:=Ad (HU.o.gb df qg qg az am)
 clear az am
 by_cases h15:x=15
 ·subst h15
  go_wp2_with fail;refine(HU.o.rd.pick qg 6 qg qg).mono ?_;rintro e w3 ⟨y,rfl,hy,az,am⟩;replace HU:=Ad (HU.o.gb df qg qg az am);clear az am;obtain⟨z0,z1,z2⟩:=Ab HU.o.k7
  rcases Nat.eq_zero_or_pos y with rfl|nd
  ·by_cases hn:1<n
   ·have hnI:(1:Int)<(n:Int):=qg
    go_wp2_with fail;clear z0 z1 z2;refine Lt.begin 99 (λw'=>w'.cell? ⟨g7,0,N⟩=M (I (n:Int))∧w'.cell? ⟨g7,1,N⟩=M (J xa t1 t2)∧w'.cell? ⟨g7,2,N⟩=M (J qa q1 q2)∧w'.cell? ⟨g6,0,N⟩=M (J sa n1 c1)∧w'.cell? ⟨g6,1,N⟩=M (J ta n2 c2)) qk ?_;obtain⟨wD,eD⟩:=Aj w3.drew;rw[eD];have ao:Bw w3 wD:=qq;clear eD;replace HU:=Ad (HU.o.bl aj ao);clear ao;have aw:wD.cell? ⟨g7,0,N⟩=M (I (n:Int))∧wD.cell? ⟨g7,1,N⟩=M (J xa t1 t2)∧wD.cell? ⟨g7,2,N⟩=M (J qa q1 q2)∧wD.cell? ⟨g6,0,N⟩=M (J sa n1 c1)∧wD.cell? ⟨g6,1,N⟩=M (J ta n2 c2):=⟨(Ab HU.o.k7).1,(Ab HU.o.k7).2.1,(Ab HU.o.k7).2.2,(Ag HU.o.k6).1,(Ag HU.o.k6).2.1⟩;change K 0 _
    iterate 2
     refine Lt.ti (v:=?_) aw ?_ ?_;rotate_left 1
     ·exact qay
     simp only[gX]
    refine Lt.two (i:=2) (j:=5) (oi:={ dst:=M 30,op:=Op.call { callee:=Callee.value (Operand.func 14),args:=#[Operand.tmp 29,Operand.const (I 4)],argTypes:=#[39,3] },type:=3,pos := "l4_draw.go:202",after:=#[{ on:=1,ground:=Ground.data }],guard:=N }) (oj:={ dst:=M 33,op:=Op.load 44 (Operand.tmp 5),type:=44,pos := "l4_draw.go:202",after:=#[{ on:=6,ground:=Ground.gcOnly Departure.lateStores }],guard:=N }) qk rfl rfl (λK hK=>?_) (λK hK=>?_)
    ·skip
     go_simp;refine(HU.o.rd.pick qg 4 qg qg).mono ?_;rintro e w4 ⟨z,rfl,hz,az,am⟩;replace HU:=Ad (HU.o.gb df qg qg az am);clear az am;have bj:w4.cell? ⟨g7,0,N⟩=M (I (n:Int))∧w4.cell? ⟨g7,1,N⟩=M (J xa t1 t2)∧w4.cell? ⟨g7,2,N⟩=M (J qa q1 q2)∧w4.cell? ⟨g6,0,N⟩=M (J sa n1 c1)∧w4.cell? ⟨g6,1,N⟩=M (J ta n2 c2):=⟨(Ab HU.o.k7).1,(Ab HU.o.k7).2.1,(Ab HU.o.k7).2.2,(Ag HU.o.k6).1,(Ag HU.o.k6).2.1⟩;refine hK.out _ _ (λ_=>bj) (λ_=>?_);clear hK K
     try simp only[gX]
     obtain⟨k5,ek5⟩:∃k:X,k=5000-z:=⟨_,rfl⟩;have jt:k5≤5000:=qg;have hsub:(5000:Int)-(z:Int)=(k5:Int):=qg;have we:IntKind.wrap .i64 (k5:Int)=(k5:Int):=Pj qg;clear ek5;refine Lt.ti (i:=3) (v:=?_) bj ?_ ?_;rotate_left 1
     ·exact qay
     simp only[gX];refine Lt.two (i:=4) (j:=5) (oi:={ dst:=M 32,op:=Op.call { callee:=Callee.value (Operand.func 32),args:=#[Operand.tmp 28,Operand.tmp 31],argTypes:=#[26,3] },type:=26,pos := "l4_draw.go:202",after:=#[{ on:=0,ground:=Ground.data },{ on:=3,ground:=Ground.data },{ on:=2,ground:=Ground.chain }],guard:=N }) (oj:={ dst:=M 33,op:=Op.load 44 (Operand.tmp 5),type:=44,pos := "l4_draw.go:202",after:=#[{ on:=6,ground:=Ground.gcOnly Departure.lateStores }],guard:=N }) qk rfl rfl (λK hK=>?_) (λK hK=>?_)
     ·skip
      have R4:Hd (Calls prog 32 #[G #[I (n:Int),J xa t1 t2,J qa q1 q2],I (k5:Int)] w4 (λe w'=>Bw w4 w'∧∃(m:Int)(xa:Option Addr)(t1 t2:X)(qa:Option Addr)(q1 q2:X)(T':L By)(R':L T3),e=H (G #[I m,J xa t1 t2,J qa q1 q2])∧Di w' w4.heap.size (J xa t1 t2) (J qa q1 q2) T' R'∧Qs T' R')):=by
       exact qel
      go_simp;refine R4.o.mono ?_;clear R4;rintro e w5 ⟨cw,m,xb,s1,s2,qb,s3,s4,T',R',rfl,dm,i5⟩;have fx:Hd (Di w5 (R+1) (J xb s1 s2) (J qb s3 s4) T' R'):=dm.base (zo HU.o.rd.size);replace HU:=Ad (HU.o.bl aj cw);have ft:=Ad i5;clear cw dm i5;have cz:w5.cell? ⟨g7,0,N⟩=M (I (n:Int))∧w5.cell? ⟨g7,1,N⟩=M (J xa t1 t2)∧w5.cell? ⟨g7,2,N⟩=M (J qa q1 q2)∧w5.cell? ⟨g6,0,N⟩=M (J sa n1 c1)∧w5.cell? ⟨g6,1,N⟩=M (J ta n2 c2):=⟨(Ab HU.o.k7).1,(Ab HU.o.k7).2.1,(Ab HU.o.k7).2.2,(Ag HU.o.k6).1,(Ag HU.o.k6).2.1⟩;refine hK.out _ _ (λ_=>cz) (λ_=>?_);clear hK K
      try simp only[gX]
      obtain⟨W2,e2⟩:=Aj (((w5.setCell ⟨w.heap.size,0,N⟩ (I m)).setCell ⟨w.heap.size,1,N⟩ (J xb s1 s2)).setCell ⟨w.heap.size,2,N⟩ (J qb s3 s4));obtain⟨W3,e3⟩:=Aj ((W2.setCell ⟨w.heap.size+1,0,N⟩ (J sa n1 c1)).setCell ⟨w.heap.size+1,1,N⟩ (J ta n2 c2));have HF:=Ad (HU.o.fin2 aj qg qg m fx.o W2 W3 e2 e3);have A8:W2.cell? ⟨g7,0,N⟩=M (I (n:Int))∧W2.cell? ⟨g7,1,N⟩=M (J xa t1 t2)∧W2.cell? ⟨g7,2,N⟩=M (J qa q1 q2)∧W2.cell? ⟨g6,0,N⟩=M (J sa n1 c1)∧W2.cell? ⟨g6,1,N⟩=M (J ta n2 c2):=⟨(Ab HF.o.1.2.1).1,(Ab HF.o.1.2.1).2.1,(Ab HF.o.1.2.1).2.2,(Ag HF.o.1.1).1,(Ag HF.o.1.1).2.1⟩;have A7:W3.cell? ⟨g7,0,N⟩=M (I (n:Int))∧W3.cell? ⟨g7,1,N⟩=M (J xa t1 t2)∧W3.cell? ⟨g7,2,N⟩=M (J qa q1 q2)∧W3.cell? ⟨g6,0,N⟩=M (J sa n1 c1)∧W3.cell? ⟨g6,1,N⟩=M (J ta n2 c2):=⟨(Ab HF.o.2.1.2.1).1,(Ab HF.o.2.1.2.1).2.1,(Ab HF.o.2.1.2.1).2.2,(Ag HF.o.2.1.1).1,(Ag HF.o.2.1.1).2.1⟩;obtain⟨x0,x1,x2⟩:=Ab HU.o.k4;have xf:=(λj=>fH HU.o.k4 j);obtain⟨y0,y1,yf⟩:=Ag HF.o.1.2.2;obtain⟨p0,p1,p2,p3,p4⟩:=A8;obtain⟨l0,l1,l2,l3,l4⟩:=(⟨(Ab HU.o.k7).1,(Ab HU.o.k7).2.1,(Ab HU.o.k7).2.2,(Ag HU.o.k6).1,(Ag HU.o.k6).2.1⟩:w5.cell? ⟨g7,0,N⟩=M (I (n:Int))∧w5.cell? ⟨g7,1,N⟩=M (J xa t1 t2)∧w5.cell? ⟨g7,2,N⟩=M (J qa q1 q2)∧w5.cell? ⟨g6,0,N⟩=M (J sa n1 c1)∧w5.cell? ⟨g6,1,N⟩=M (J ta n2 c2));refine Lt.two (i:=5) (j:=6) (oi:={ dst:=M 33,op:=Op.load 44 (Operand.tmp 5),type:=44,pos := "l4_draw.go:202",after:=#[{ on:=6,ground:=Ground.gcOnly Departure.lateStores }],guard:=N }) (oj:={ dst:=N,op:=Op.store 26 (Operand.tmp 2) (Operand.tmp 32),type:=0,pos := "l4_draw.go:202",after:=#[{ on:=4,ground:=Ground.data },{ on:=4,ground:=Ground.chain },{ on:=0,ground:=Ground.phase },{ on:=1,ground:=Ground.phase },{ on:=2,ground:=Ground.phase },{ on:=3,ground:=Ground.phase },{ on:=4,ground:=Ground.phase },{ on:=5,ground:=Ground.textOnly Departure.lateStores }],guard:=N }) qk rfl rfl (λK hK=>?_) (λK hK=>?_)
      ·skip
       go_simp;refine hK.out _ _ (λ_=>⟨l0,l1,l2,l3,l4⟩) (λ_=>?_);clear hK K
       try simp only[gX]
       refine Lt.sp (i:=6) (λK hK=>?_);go_simp
       try rw[e2]
       exact qhs
      ·skip
       go_simp
       try rw[e2]
       refine hK.out _ _ (λ_=>⟨p0,p1,p2,p3,p4⟩) (λ_=>?_);clear hK K
       try simp only[gX]
       refine Lt.sp (i:=5) (λK hK=>?_);go_simp;exact qhs
     ·skip
      go_simp;refine hK.out _ _ (λ_=>bj) (λ_=>?_);clear hK K
      try simp only[gX]
      refine Lt.sp (i:=4) (λK hK=>?_)
      have R4:Hd (Calls prog 32 #[G #[I (n:Int),J xa t1 t2,J qa q1 q2],I (k5:Int)] w4 (λe w'=>Bw w4 w'∧∃(m:Int)(xa:Option Addr)(t1 t2:X)(qa:Option Addr)(q1 q2:X)(T':L By)(R':L T3),e=H (G #[I m,J xa t1 t2,J qa q1 q2])∧Di w' w4.heap.size (J xa t1 t2) (J qa q1 q2) T' R'∧Qs T' R')):=by
       exact qel
      go_simp;refine R4.o.mono ?_;clear R4;rintro e w5 ⟨cw,m,xb,s1,s2,qb,s3,s4,T',R',rfl,dm,i5⟩;have fx:Hd (Di w5 (R+1) (J xb s1 s2) (J qb s3 s4) T' R'):=dm.base (zo HU.o.rd.size);replace HU:=Ad (HU.o.bl aj cw);have ft:=Ad i5;clear cw dm i5;have o9:w5.cell? ⟨g7,0,N⟩=M (I (n:Int))∧w5.cell? ⟨g7,1,N⟩=M (J xa t1 t2)∧w5.cell? ⟨g7,2,N⟩=M (J qa q1 q2)∧w5.cell? ⟨g6,0,N⟩=M (J sa n1 c1)∧w5.cell? ⟨g6,1,N⟩=M (J ta n2 c2):=⟨(Ab HU.o.k7).1,(Ab HU.o.k7).2.1,(Ab HU.o.k7).2.2,(Ag HU.o.k6).1,(Ag HU.o.k6).2.1⟩;refine hK.out _ _ (λ_=>o9) (λ_=>?_);exact qgp
    ·skip
     go_simp;refine hK.out _ _ (λ_=>aw) (λ_=>?_);clear hK K
     try simp only[gX]
     refine Lt.sp (i:=2) (λK hK=>?_);go_simp;refine(HU.o.rd.pick qg 4 qg qg).mono ?_;rintro e w4 ⟨z,rfl,hz,az,am⟩;replace HU:=Ad (HU.o.gb df qg qg az am);clear az am;have gj:w4.cell? ⟨g7,0,N⟩=M (I (n:Int))∧w4.cell? ⟨g7,1,N⟩=M (J xa t1 t2)∧w4.cell? ⟨g7,2,N⟩=M (J qa q1 q2)∧w4.cell? ⟨g6,0,N⟩=M (J sa n1 c1)∧w4.cell? ⟨g6,1,N⟩=M (J ta n2 c2):=⟨(Ab HU.o.k7).1,(Ab HU.o.k7).2.1,(Ab HU.o.k7).2.2,(Ag HU.o.k6).1,(Ag HU.o.k6).2.1⟩;refine hK.out _ _ (λ_=>gj) (λ_=>?_);clear hK K
     try simp only[gX]
     obtain⟨k5,ek5⟩:∃k:X,k=5000-z:=⟨_,rfl⟩;have jt:k5≤5000:=qg;have hsub:(5000:Int)-(z:Int)=(k5:Int):=qg;have we:IntKind.wrap .i64 (k5:Int)=(k5:Int):=Pj qg;clear ek5;refine Lt.ti (i:=3) (v:=?_) gj ?_ ?_;rotate_left 1
     ·exact qay
     simp only[gX];refine Lt.sp (i:=4) (λK hK=>?_)
     have R4:Hd (Calls prog 32 #[G #[I (n:Int),J xa t1 t2,J qa q1 q2],I (k5:Int)] w4 (λe w'=>Bw w4 w'∧∃(m:Int)(xa:Option Addr)(t1 t2:X)(qa:Option Addr)(q1 q2:X)(T':L By)(R':L T3),e=H (G #[I m,J xa t1 t2,J qa q1 q2])∧Di w' w4.heap.size (J xa t1 t2) (J qa q1 q2) T' R'∧Qs T' R')):=by
      exact qel
     go_simp;refine R4.o.mono ?_;clear R4;rintro e w5 ⟨cw,m,xb,s1,s2,qb,s3,s4,T',R',rfl,dm,i5⟩;have fx:Hd (Di w5 (R+1) (J xb s1 s2) (J qb s3 s4) T' R'):=dm.base (zo HU.o.rd.size);replace HU:=Ad (HU.o.bl aj cw);have ft:=Ad i5;clear cw dm i5;have hS5:w5.cell? ⟨g7,0,N⟩=M (I (n:Int))∧w5.cell? ⟨g7,1,N⟩=M (J xa t1 t2)∧w5.cell? ⟨g7,2,N⟩=M (J qa q1 q2)∧w5.cell? ⟨g6,0,N⟩=M (J sa n1 c1)∧w5.cell? ⟨g6,1,N⟩=M (J ta n2 c2):=⟨(Ab HU.o.k7).1,(Ab HU.o.k7).2.1,(Ab HU.o.k7).2.2,(Ag HU.o.k6).1,(Ag HU.o.k6).2.1⟩;refine hK.out _ _ (λ_=>hS5) (λ_=>?_);exact qgp
   ·have hnI:¬ (1:Int)<(n:Int):=qg
    exact qgi
  ·have hyI:((y:Int) == 0)=false:=qj
   exact qgi
 ·have h15I:((x:Int) == 15)=false:=qj
  rcases Nat.eq_zero_or_pos x with rfl|I8
  ·go_wp2_with fail
   refine Lt.begin 99 (λw'=>w'.cell? ⟨g7,0,N⟩=M (I (n:Int))∧w'.cell? ⟨g7,1,N⟩=M (J xa t1 t2)∧w'.cell? ⟨g7,2,N⟩=M (J qa q1 q2)∧w'.cell? ⟨g6,0,N⟩=M (J sa n1 c1)∧w'.cell? ⟨g6,1,N⟩=M (J ta n2 c2)) qk ?_;obtain⟨wD,eD⟩:=Aj w3.drew;rw[eD];have ao:Bw w3 wD:=qq;clear eD;replace HU:=Ad (HU.o.bl aj ao);clear ao;have aw:wD.cell? ⟨g7,0,N⟩=M (I (n:Int))∧wD.cell? ⟨g7,1,N⟩=M (J xa t1 t2)∧wD.cell? ⟨g7,2,N⟩=M (J qa q1 q2)∧wD.cell? ⟨g6,0,N⟩=M (J sa n1 c1)∧wD.cell? ⟨g6,1,N⟩=M (J ta n2 c2):=⟨(Ab HU.o.k7).1,(Ab HU.o.k7).2.1,(Ab HU.o.k7).2.2,(Ag HU.o.k6).1,(Ag HU.o.k6).2.1⟩;change K 0 _
   iterate 2
    refine Lt.ti (v:=?_) aw ?_ ?_;rotate_left 1
    ·exact qay
    simp only[gX]
   refine Lt.two (i:=2) (j:=3) (oi:={ dst:=M 38,op:=Op.call { callee:=Callee.value (Operand.func 33),args:=#[Operand.tmp 36,Operand.tmp 37],argTypes:=#[39,26] },type:=26,pos := "l4_draw.go:205",after:=#[{ on:=0,ground:=Ground.data },{ on:=1,ground:=Ground.data }],guard:=N }) (oj:={ dst:=M 39,op:=Op.load 44 (Operand.tmp 5),type:=44,pos := "l4_draw.go:205",after:=#[{ on:=4,ground:=Ground.gcOnly Departure.lateStores }],guard:=N }) qk rfl rfl (λK hK=>?_) (λK hK=>?_)
   ·skip
    go_simp;obtain⟨T0,R0,ii,ja⟩:=HU.o.st;refine(Ba.drc hS HU.o.rd aj qg pp ul ii ja).mono ?_;clear ii ja;rintro e w5 ⟨m,xb,s1,s2,qb,s3,s4,T',R',rfl,dm,i5,az,am⟩;replace HU:=Ad (HU.o.gb df qg qg az am);have fx:=Ad dm;have ft:=Ad i5;clear az am dm i5;have bj:w5.cell? ⟨g7,0,N⟩=M (I (n:Int))∧w5.cell? ⟨g7,1,N⟩=M (J xa t1 t2)∧w5.cell? ⟨g7,2,N⟩=M (J qa q1 q2)∧w5.cell? ⟨g6,0,N⟩=M (J sa n1 c1)∧w5.cell? ⟨g6,1,N⟩=M (J ta n2 c2):=⟨(Ab HU.o.k7).1,(Ab HU.o.k7).2.1,(Ab HU.o.k7).2.2,(Ag HU.o.k6).1,(Ag HU.o.k6).2.1⟩;refine hK.out _ _ (λ_=>bj) (λ_=>?_);clear hK K
    try simp only[gX]
    obtain⟨W2,e2⟩:=Aj (((w5.setCell ⟨w.heap.size,0,N⟩ (I m)).setCell ⟨w.heap.size,1,N⟩ (J xb s1 s2)).setCell ⟨w.heap.size,2,N⟩ (J qb s3 s4));obtain⟨W3,e3⟩:=Aj ((W2.setCell ⟨w.heap.size+1,0,N⟩ (J sa n1 c1)).setCell ⟨w.heap.size+1,1,N⟩ (J ta n2 c2));have HF:=Ad (HU.o.fin2 aj qg qg m fx.o W2 W3 e2 e3);have A8:W2.cell? ⟨g7,0,N⟩=M (I (n:Int))∧W2.cell? ⟨g7,1,N⟩=M (J xa t1 t2)∧W2.cell? ⟨g7,2,N⟩=M (J qa q1 q2)∧W2.cell? ⟨g6,0,N⟩=M (J sa n1 c1)∧W2.cell? ⟨g6,1,N⟩=M (J ta n2 c2):=⟨(Ab HF.o.1.2.1).1,(Ab HF.o.1.2.1).2.1,(Ab HF.o.1.2.1).2.2,(Ag HF.o.1.1).1,(Ag HF.o.1.1).2.1⟩;have A7:W3.cell? ⟨g7,0,N⟩=M (I (n:Int))∧W3.cell? ⟨g7,1,N⟩=M (J xa t1 t2)∧W3.cell? ⟨g7,2,N⟩=M (J qa q1 q2)∧W3.cell? ⟨g6,0,N⟩=M (J sa n1 c1)∧W3.cell? ⟨g6,1,N⟩=M (J ta n2 c2):=⟨(Ab HF.o.2.1.2.1).1,(Ab HF.o.2.1.2.1).2.1,(Ab HF.o.2.1.2.1).2.2,(Ag HF.o.2.1.1).1,(Ag HF.o.2.1.1).2.1⟩;obtain⟨x0,x1,x2⟩:=Ab HU.o.k4;have xf:=(λj=>fH HU.o.k4 j);obtain⟨y0,y1,yf⟩:=Ag HF.o.1.2.2;obtain⟨p0,p1,p2,p3,p4⟩:=A8;obtain⟨l0,l1,l2,l3,l4⟩:=(⟨(Ab HU.o.k7).1,(Ab HU.o.k7).2.1,(Ab HU.o.k7).2.2,(Ag HU.o.k6).1,(Ag HU.o.k6).2.1⟩:w5.cell? ⟨g7,0,N⟩=M (I (n:Int))∧w5.cell? ⟨g7,1,N⟩=M (J xa t1 t2)∧w5.cell? ⟨g7,2,N⟩=M (J qa q1 q2)∧w5.cell? ⟨g6,0,N⟩=M (J sa n1 c1)∧w5.cell? ⟨g6,1,N⟩=M (J ta n2 c2));refine Lt.two (i:=3) (j:=4) (oi:={ dst:=M 39,op:=Op.load 44 (Operand.tmp 5),type:=44,pos := "l4_draw.go:205",after:=#[{ on:=4,ground:=Ground.gcOnly Departure.lateStores }],guard:=N }) (oj:={ dst:=N,op:=Op.store 26 (Operand.tmp 2) (Operand.tmp 38),type:=0,pos := "l4_draw.go:205",after:=#[{ on:=2,ground:=Ground.data },{ on:=2,ground:=Ground.chain },{ on:=0,ground:=Ground.phase },{ on:=1,ground:=Ground.phase },{ on:=2,ground:=Ground.phase },{ on:=3,ground:=Ground.textOnly Departure.lateStores }],guard:=N }) qk rfl rfl (λK hK=>?_) (λK hK=>?_)
    ·skip
     exact qho
    ·skip
     exact qhn
   ·skip
    go_simp;refine hK.out _ _ (λ_=>aw) (λ_=>?_);clear hK K
    try simp only[gX]
    refine Lt.sp (i:=2) (λK hK=>?_);go_simp;obtain⟨T0,R0,ii,ja⟩:=HU.o.st;refine(Ba.drc hS HU.o.rd aj qg pp ul ii ja).mono ?_;exact qgl
  ·have hx0I:((x:Int) == 0)=false:=qj
   by_cases h4:x<4
   ·have h4I:(x:Int)<4:=qg
    go_wp2_with fail;refine Lt.begin 99 (λw'=>w'.cell? ⟨g7,0,N⟩=M (I (n:Int))∧w'.cell? ⟨g7,1,N⟩=M (J xa t1 t2)∧w'.cell? ⟨g7,2,N⟩=M (J qa q1 q2)∧w'.cell? ⟨g6,0,N⟩=M (J sa n1 c1)∧w'.cell? ⟨g6,1,N⟩=M (J ta n2 c2)) qk ?_;obtain⟨wD,eD⟩:=Aj w3.drew;rw[eD];have ao:Bw w3 wD:=qq;clear eD;replace HU:=Ad (HU.o.bl aj ao);clear ao;have aw:wD.cell? ⟨g7,0,N⟩=M (I (n:Int))∧wD.cell? ⟨g7,1,N⟩=M (J xa t1 t2)∧wD.cell? ⟨g7,2,N⟩=M (J qa q1 q2)∧wD.cell? ⟨g6,0,N⟩=M (J sa n1 c1)∧wD.cell? ⟨g6,1,N⟩=M (J ta n2 c2):=⟨(Ab HU.o.k7).1,(Ab HU.o.k7).2.1,(Ab HU.o.k7).2.2,(Ag HU.o.k6).1,(Ag HU.o.k6).2.1⟩;change K 0 _
    iterate 2
     refine Lt.ti (v:=?_) aw ?_ ?_;rotate_left 1
     ·exact qay
     simp only[gX]
    refine Lt.two (i:=2) (j:=3) (oi:={ dst:=M 44,op:=Op.call { callee:=Callee.value (Operand.func 34),args:=#[Operand.tmp 42,Operand.tmp 43],argTypes:=#[39,26] },type:=26,pos := "l4_draw.go:208",after:=#[{ on:=0,ground:=Ground.data },{ on:=1,ground:=Ground.data }],guard:=N }) (oj:={ dst:=M 45,op:=Op.load 44 (Operand.tmp 5),type:=44,pos := "l4_draw.go:208",after:=#[{ on:=4,ground:=Ground.gcOnly Departure.lateStores }],guard:=N }) qk rfl rfl (λK hK=>?_) (λK hK=>?_)
    ·skip
     go_simp;obtain⟨T0,R0,ii,ja⟩:=HU.o.st;refine(Ba.drc hL HU.o.rd aj qg pp ul ii ja).mono ?_;clear ii ja;rintro e w5 ⟨m,xb,s1,s2,qb,s3,s4,T',R',rfl,dm,i5,az,am⟩;replace HU:=Ad (HU.o.gb df qg qg az am);have fx:=Ad dm;have ft:=Ad i5;clear az am dm i5;have bj:w5.cell? ⟨g7,0,N⟩=M (I (n:Int))∧w5.cell? ⟨g7,1,N⟩=M (J xa t1 t2)∧w5.cell? ⟨g7,2,N⟩=M (J qa q1 q2)∧w5.cell? ⟨g6,0,N⟩=M (J sa n1 c1)∧w5.cell? ⟨g6,1,N⟩=M (J ta n2 c2):=⟨(Ab HU.o.k7).1,(Ab HU.o.k7).2.1,(Ab HU.o.k7).2.2,(Ag HU.o.k6).1,(Ag HU.o.k6).2.1⟩;refine hK.out _ _ (λ_=>bj) (λ_=>?_);clear hK K
     try simp only[gX]
     obtain⟨W2,e2⟩:=Aj (((w5.setCell ⟨w.heap.size,0,N⟩ (I m)).setCell ⟨w.heap.size,1,N⟩ (J xb s1 s2)).setCell ⟨w.heap.size,2,N⟩ (J qb s3 s4));obtain⟨W3,e3⟩:=Aj ((W2.setCell ⟨w.heap.size+1,0,N⟩ (J sa n1 c1)).setCell ⟨w.heap.size+1,1,N⟩ (J ta n2 c2));have HF:=Ad (HU.o.fin2 aj qg qg m fx.o W2 W3 e2 e3);have A8:W2.cell? ⟨g7,0,N⟩=M (I (n:Int))∧W2.cell? ⟨g7,1,N⟩=M (J xa t1 t2)∧W2.cell? ⟨g7,2,N⟩=M (J qa q1 q2)∧W2.cell? ⟨g6,0,N⟩=M (J sa n1 c1)∧W2.cell? ⟨g6,1,N⟩=M (J ta n2 c2):=⟨(Ab HF.o.1.2.1).1,(Ab HF.o.1.2.1).2.1,(Ab HF.o.1.2.1).2.2,(Ag HF.o.1.1).1,(Ag HF.o.1.1).2.1⟩;have A7:W3.cell? ⟨g7,0,N⟩=M (I (n:Int))∧W3.cell? ⟨g7,1,N⟩=M (J xa t1 t2)∧W3.cell? ⟨g7,2,N⟩=M (J qa q1 q2)∧W3.cell? ⟨g6,0,N⟩=M (J sa n1 c1)∧W3.cell? ⟨g6,1,N⟩=M (J ta n2 c2):=⟨(Ab HF.o.2.1.2.1).1,(Ab HF.o.2.1.2.1).2.1,(Ab HF.o.2.1.2.1).2.2,(Ag HF.o.2.1.1).1,(Ag HF.o.2.1.1).2.1⟩;obtain⟨x0,x1,x2⟩:=Ab HU.o.k4;have xf:=(λj=>fH HU.o.k4 j);obtain⟨y0,y1,yf⟩:=Ag HF.o.1.2.2;obtain⟨p0,p1,p2,p3,p4⟩:=A8;obtain⟨l0,l1,l2,l3,l4⟩:=(⟨(Ab HU.o.k7).1,(Ab HU.o.k7).2.1,(Ab HU.o.k7).2.2,(Ag HU.o.k6).1,(Ag HU.o.k6).2.1⟩:w5.cell? ⟨g7,0,N⟩=M (I (n:Int))∧w5.cell? ⟨g7,1,N⟩=M (J xa t1 t2)∧w5.cell? ⟨g7,2,N⟩=M (J qa q1 q2)∧w5.cell? ⟨g6,0,N⟩=M (J sa n1 c1)∧w5.cell? ⟨g6,1,N⟩=M (J ta n2 c2));refine Lt.two (i:=3) (j:=4) (oi:={ dst:=M 45,op:=Op.load 44 (Operand.tmp 5),type:=44,pos := "l4_draw.go:208",after:=#[{ on:=4,ground:=Ground.gcOnly Departure.lateStores }],guard:=N }) (oj:={ dst:=N,op:=Op.store 26 (Operand.tmp 2) (Operand.tmp 44),type:=0,pos := "l4_draw.go:208",after:=#[{ on:=2,ground:=Ground.data },{ on:=2,ground:=Ground.chain },{ on:=0,ground:=Ground.phase },{ on:=1,ground:=Ground.phase },{ on:=2,ground:=Ground.phase },{ on:=3,ground:=Ground.textOnly Departure.lateStores }],guard:=N }) qk rfl rfl (λK hK=>?_) (λK hK=>?_)
     ·skip
      exact qho
     ·skip
      exact qhn
    ·skip
     go_simp;refine hK.out _ _ (λ_=>aw) (λ_=>?_);clear hK K
     try simp only[gX]
     refine Lt.sp (i:=2) (λK hK=>?_);go_simp;obtain⟨T0,R0,ii,ja⟩:=HU.o.st;refine(Ba.drc hL HU.o.rd aj qg pp ul ii ja).mono ?_;exact qgl
   ·have h4I:¬ (x:Int)<4:=qg
    go_wp2_with fail;refine Lt.begin 99 (λw'=>w'.cell? ⟨g7,0,N⟩=M (I (n:Int))∧w'.cell? ⟨g7,1,N⟩=M (J xa t1 t2)∧w'.cell? ⟨g7,2,N⟩=M (J qa q1 q2)∧w'.cell? ⟨g6,0,N⟩=M (J sa n1 c1)∧w'.cell? ⟨g6,1,N⟩=M (J ta n2 c2)) qk ?_;obtain⟨wD,eD⟩:=Aj w3.drew;rw[eD];have ao:Bw w3 wD:=qq;clear eD;replace HU:=Ad (HU.o.bl aj ao);clear ao;have aw:wD.cell? ⟨g7,0,N⟩=M (I (n:Int))∧wD.cell? ⟨g7,1,N⟩=M (J xa t1 t2)∧wD.cell? ⟨g7,2,N⟩=M (J qa q1 q2)∧wD.cell? ⟨g6,0,N⟩=M (J sa n1 c1)∧wD.cell? ⟨g6,1,N⟩=M (J ta n2 c2):=⟨(Ab HU.o.k7).1,(Ab HU.o.k7).2.1,(Ab HU.o.k7).2.2,(Ag HU.o.k6).1,(Ag HU.o.k6).2.1⟩;obtain⟨T',R',ii,ja⟩:=HU.o.st;have fx:=Ad ja;have ft:=Ad ii.rbd;clear ii ja;obtain⟨W2,e2⟩:=Aj (((wD.setCell ⟨w.heap.size,0,N⟩ (I (n:Int))).setCell ⟨w.heap.size,1,N⟩ (J xa t1 t2)).setCell ⟨w.heap.size,2,N⟩ (J qa q1 q2));obtain⟨W3,e3⟩:=Aj ((W2.setCell ⟨w.heap.size+1,0,N⟩ (J sa n1 c1)).setCell ⟨w.heap.size+1,1,N⟩ (J ta n2 c2));have HF:=Ad (HU.o.fin2 aj qg qg (n:Int) fx.o W2 W3 e2 e3);have A8:W2.cell? ⟨g7,0,N⟩=M (I (n:Int))∧W2.cell? ⟨g7,1,N⟩=M (J xa t1 t2)∧W2.cell? ⟨g7,2,N⟩=M (J qa q1 q2)∧W2.cell? ⟨g6,0,N⟩=M (J sa n1 c1)∧W2.cell? ⟨g6,1,N⟩=M (J ta n2 c2):=⟨(Ab HF.o.1.2.1).1,(Ab HF.o.1.2.1).2.1,(Ab HF.o.1.2.1).2.2,(Ag HF.o.1.1).1,(Ag HF.o.1.1).2.1⟩;have A7:W3.cell? ⟨g7,0,N⟩=M (I (n:Int))∧W3.cell? ⟨g7,1,N⟩=M (J xa t1 t2)∧W3.cell? ⟨g7,2,N⟩=M (J qa q1 q2)∧W3.cell? ⟨g6,0,N⟩=M (J sa n1 c1)∧W3.cell? ⟨g6,1,N⟩=M (J ta n2 c2):=⟨(Ab HF.o.2.1.2.1).1,(Ab HF.o.2.1.2.1).2.1,(Ab HF.o.2.1.2.1).2.2,(Ag HF.o.2.1.1).1,(Ag HF.o.2.1.1).2.1⟩;obtain⟨x0,x1,x2⟩:=Ab HU.o.k4;have xf:=(λj=>fH HU.o.k4 j);obtain⟨y0,y1,yf⟩:=Ag HF.o.1.2.2;obtain⟨p0,p1,p2,p3,p4⟩:=A8;obtain⟨l0,l1,l2,l3,l4⟩:=(⟨(Ab HU.o.k7).1,(Ab HU.o.k7).2.1,(Ab HU.o.k7).2.2,(Ag HU.o.k6).1,(Ag HU.o.k6).2.1⟩:wD.cell? ⟨g7,0,N⟩=M (I (n:Int))∧wD.cell? ⟨g7,1,N⟩=M (J xa t1 t2)∧wD.cell? ⟨g7,2,N⟩=M (J qa q1 q2)∧wD.cell? ⟨g6,0,N⟩=M (J sa n1 c1)∧wD.cell? ⟨g6,1,N⟩=M (J ta n2 c2));refine Lt.ti (i:=0) (v:=?_) aw ?_ ?_;rotate_left 1
    ·exact qay
    simp only[gX];refine Lt.two (i:=1) (j:=2) (oi:={ dst:=M 47,op:=Op.load 44 (Operand.tmp 5),type:=44,pos := "l4_draw.go:210",after:=#[{ on:=2,ground:=Ground.gcOnly Departure.lateStores }],guard:=N }) (oj:={ dst:=N,op:=Op.store 26 (Operand.tmp 2) (Operand.tmp 46),type:=0,pos := "l4_draw.go:210",after:=#[{ on:=0,ground:=Ground.data },{ on:=0,ground:=Ground.phase },{ on:=1,ground:=Ground.textOnly Departure.lateStores }],guard:=N }) qk rfl rfl (λK hK=>?_) (λK hK=>?_)
    ·skip
     go_simp;refine hK.out _ _ (λ_=>aw) (λ_=>?_);clear hK K
     try simp only[gX]
     refine Lt.sp (i:=2) (λK hK=>?_);go_simp
     try rw[e2]
     exact qhr
    ·skip
     go_simp
     try rw[e2]
     refine hK.out _ _ (λ_=>⟨p0,p1,p2,p3,p4⟩) (λ_=>?_);clear hK K
     try simp only[gX]
     refine Lt.sp (i:=1) (λK hK=>?_);go_simp;exact qhr
end Go.Proofs.YtoihflimijabjaaGreatDoor
