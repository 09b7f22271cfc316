import Derived.Test.YtoihflimijabjaaGreatDoorBvF
namespace Go.Proofs.YtoihflimijabjaaGreatDoor
open Value renaming slice->J,string->S,bool->F
open Option renaming some->M,none->N
open Obj renaming cells->O
open Go renaming Value->Z,World->E
open _root_ renaming List->L,Nat->X
set_option maxHeartbeats 4000000
set_option maxRecDepth 100000
open _root_.Go.Proofs.Tryz Go.RowKit Go.Deep
set_option linter.unusedVariables false
set_option linter.unusedSimpArgs false
def Ef(w:E)(l:L (X×X×Z)):E:=l.foldl (λw x=>w.setCell ⟨x.1,x.2.1,N⟩ x.2.2) w
theorem Kg{b:X}:∀(l:L (X×X×Z)) (w:E),(∀x∈l,b≠x.1)->(Ef w l).heap[b]?=w.heap[b]?
 | [],w,_=>rfl
 | x::l,w,h=>by
   show(Ef (w.setCell ⟨x.1,x.2.1,N⟩ x.2.2) l).heap[b]?=_;rw[Kg l _ (λy hy=>h y (List.mem_cons_of_mem _ hy)),hC w ⟨x.1,x.2.1,N⟩ _ b (h x (List.mem_cons_self ..))]
theorem Ek{B:X}{w:E}:∀(l:L (X×X×Z)) (w':E),Below B w w'->(∀x∈l,B<=x.1)->Below B w (Ef w' l)
 | [],w',h,_=>h
 | x::l,w',h,k=>Ek l _ (h.setCell (p:=⟨x.1,x.2.1,N⟩) (k x (List.mem_cons_self ..)) _) (λy hy=>k y (List.mem_cons_of_mem _ hy))
theorem Jg{b T:X}:∀(l:L (X×X×Z)) (w:E) (cs:Array Z),(∀x∈l,x.1=b)->w.heap[b]?=M (O cs T (0,0))->(Ef w l).heap[b]?=M (O (l.foldl (λa x=>a.setIfInBounds x.2.1 x.2.2) cs) T (0,0))
 | [],w,cs,_,h=>h
 | x::l,w,cs,hx,h=>by
   show(Ef (w.setCell ⟨x.1,x.2.1,N⟩ x.2.2) l).heap[b]?=_;obtain rfl:x.1=b:=hx x (List.mem_cons_self ..);exact Jg l _ _ (λy hy=>hx y (List.mem_cons_of_mem _ hy)) (jB h x.2.2)
theorem Ma(w:E)(o:Obj):(w.alloc o).heap[w.heap.size]?=M o:=Hn w o
theorem Rm{w:E}{b:X}{o o':Obj}(h:w.heap[b]?=M o):(w.alloc o').heap[b]?=M o:=by
 rw[Lib.alloc_old _ _ _ (by rcases Nat.lt_or_ge b w.heap.size with k|k;exact k;rw[Array.getElem?_eq_none k]at h;cases h)];exact h
theorem Kx(h:X)(a0 a1 a2 a3 a4 a5 a6 a7 a8 z0 z1 z2 z3 z4 z5 z6 z7 z8 z9:Z)(c:Int)(t AN AL:By)(ca:Option Addr)(cn cc:X)(w:E)(hk:w.heap[h]?=M (O #[a0,a1,a2,a3,a4,a5,a6,a7,a8,F false,z0,z1,z2,z3,z4,z5,z6,z7,z8,z9] 120 (0,0))):Calls prog 95 #[.pointer (p_ h),.agg #[I c,S t,J ca cn cc,I 0,nS,nS,nS,nS,S AN,S AL]] w λe w'=>e=.returned (.agg #[I c,ze,nS])/\Below h w w'/\(∀b,b<w.heap.size->b≠h->w'.heap[b]?=w.heap[b]?)/\w'.heap[h]?=M (O #[a0,a1,a2,a3,a4,a5,a6,a7,a8,F true,I c,S t,J ca cn cc,I 0,nS,nS,nS,nS,S AN,S AL] 120 (0,0)):=by
 have au:h<w.heap.size:=by rcases Nat.lt_or_ge h w.heap.size with k|k;exact k;rw[Array.getElem?_eq_none k]at hk;cases hk
 obtain⟨W,eW⟩:=Aj ((w.alloc (O #[I c,S t,J ca cn cc,I 0,nS,nS,nS,nS,S AN,S AL] 92)).alloc (O #[I 0,ze,nS] 134));have hW:Hd (Bw w W):=by show Below _ _ _;rw[←eW];exact(aN _ _).alloc qi _
 have HB:Hd (W.heap[w.heap.size]?=M (O #[I c,S t,J ca cn cc,I 0,nS,nS,nS,nS,S AN,S AL] 92 (0,0))):=by show _=_;rw[←eW];exact Rm (Ma _ _)
 have HR:Hd (W.heap[w.heap.size+1]?=M (O #[I 0,ze,nS] 134 (0,0))):=by
  show _=_;rw[←eW];have:=Ma (w.alloc (O #[I c,S t,J ca cn cc,I 0,nS,nS,nS,nS,S AN,S AL] 92)) (O #[I 0,ze,nS] 134)
  rwa [show(w.alloc (O #[I c,S t,J ca cn cc,I 0,nS,nS,nS,nS,S AN,S AL] 92)).heap.size=w.heap.size+1 from qi]at this
 have HK:Hd (W.heap[h]?=M (O #[a0,a1,a2,a3,a4,a5,a6,a7,a8,F false,z0,z1,z2,z3,z4,z5,z6,z7,z8,z9] 120 (0,0))):=by show _=_;rw[hW.out.block h au];exact hk
 have k9:=cK HK.o 9;have I6:=cK HK.o 10;have O0:=cK HK.o 11;have S4:=cK HK.o 12;have k13:=cK HK.o 13;have k14:=cK HK.o 14;have k15:=cK HK.o 15;have k16:=cK HK.o 16;have k17:=cK HK.o 17;have k18:=cK HK.o 18;have k19:=cK HK.o 19;have kf:=fZ HK.o;obtain⟨b0,b1,b2,b3,b4,b5,b6,b7,b8,b9⟩:=Km HB.o;obtain⟨r0,r1,r2⟩:=ck3 HR.o;have rf:=fZ HR.o;have aq:h≠w.heap.size:=qg;have hne2:h≠w.heap.size+1:=qg;clear hk;go_enter func95,ntmps95;go_wp2;have hL1:∀x∈([(h,9,F true),(h,10,I c),(h,11,S t),(h,12,J ca cn cc),(h,13,I 0),(h,14,nS),(h,15,nS),(h,16,nS),(h,17,nS),(h,18,S AN),(h,19,S AL)]:L (X×X×Z)),x.1=h:=qi;have hL2:∀x∈([(w.heap.size+1,0,I c),(w.heap.size+1,1,ze),(w.heap.size+1,2,nS)]:L (X×X×Z)),x.1=w.heap.size+1:=qi;have e1:=Jg _ W _ hL1 HK.o;have e2:=Kg (b:=h) [(w.heap.size+1,0,I c),(w.heap.size+1,1,ze),(w.heap.size+1,2,nS)] (Ef W [(h,9,F true),(h,10,I c),(h,11,S t),(h,12,J ca cn cc),(h,13,I 0),(h,14,nS),(h,15,nS),(h,16,nS),(h,17,nS),(h,18,S AN),(h,19,S AL)]) (λx hx=>by rw[hL2 x hx];exact hne2);have h1:Below h w (Ef (Ef W [(h,9,F true),(h,10,I c),(h,11,S t),(h,12,J ca cn cc),(h,13,I 0),(h,14,nS),(h,15,nS),(h,16,nS),(h,17,nS),(h,18,S AN),(h,19,S AL)]) [(w.heap.size+1,0,I c),(w.heap.size+1,1,ze),(w.heap.size+1,2,nS)]):=Ek [(w.heap.size+1,0,I c),(w.heap.size+1,1,ze),(w.heap.size+1,2,nS)] (Ef W [(h,9,F true),(h,10,I c),(h,11,S t),(h,12,J ca cn cc),(h,13,I 0),(h,14,nS),(h,15,nS),(h,16,nS),(h,17,nS),(h,18,S AN),(h,19,S AL)]) (Ek [(h,9,F true),(h,10,I c),(h,11,S t),(h,12,J ca cn cc),(h,13,I 0),(h,14,nS),(h,15,nS),(h,16,nS),(h,17,nS),(h,18,S AN),(h,19,S AL)] W (hW.out.mono qg) (λx hx=>by rw[hL1 x hx];exact Nat.le_refl _)) (λx hx=>by rw[hL2 x hx];omega);have h2:∀b,b<w.heap.size->b≠h->(Ef (Ef W [(h,9,F true),(h,10,I c),(h,11,S t),(h,12,J ca cn cc),(h,13,I 0),(h,14,nS),(h,15,nS),(h,16,nS),(h,17,nS),(h,18,S AN),(h,19,S AL)]) [(w.heap.size+1,0,I c),(w.heap.size+1,1,ze),(w.heap.size+1,2,nS)]).heap[b]?=w.heap[b]?:=λb hb hbh=>((Kg (b:=b) [(w.heap.size+1,0,I c),(w.heap.size+1,1,ze),(w.heap.size+1,2,nS)] (Ef W [(h,9,F true),(h,10,I c),(h,11,S t),(h,12,J ca cn cc),(h,13,I 0),(h,14,nS),(h,15,nS),(h,16,nS),(h,17,nS),(h,18,S AN),(h,19,S AL)]) (λx hx=>by rw[hL2 x hx];omega)).trans (Kg (b:=b) [(h,9,F true),(h,10,I c),(h,11,S t),(h,12,J ca cn cc),(h,13,I 0),(h,14,nS),(h,15,nS),(h,16,nS),(h,17,nS),(h,18,S AN),(h,19,S AL)] W (λx hx=>by rw[hL1 x hx];exact hbh))).trans (hW.out.block b hb);rw[e1]at e2;simp only[List.foldl_cons,List.foldl_nil,List.setIfInBounds_toArray,List.set_cons_zero,List.set_cons_succ]at e2;obtain⟨V,eV⟩:=Aj (Ef (Ef W [(h,9,F true),(h,10,I c),(h,11,S t),(h,12,J ca cn cc),(h,13,I 0),(h,14,nS),(h,15,nS),(h,16,nS),(h,17,nS),(h,18,S AN),(h,19,S AL)]) [(w.heap.size+1,0,I c),(w.heap.size+1,1,ze),(w.heap.size+1,2,nS)]);rw[eV]at e2 h1 h2;simp only[Ef,List.foldl_cons,List.foldl_nil]at eV;rw[eV]
 have hV:V.cell? ⟨w.heap.size+1,0,N⟩=M (I c)/\V.cell? ⟨w.heap.size+1,1,N⟩=M ze/\V.cell? ⟨w.heap.size+1,2,N⟩=M nS:=by
  rw[←eV];simp[go_sem,r0,r1,r2]
 obtain⟨v0,v1,v2⟩:=hV;exact bR (v:=.agg #[I c,ze,nS]) (by simp[results,results95,go_sem,v0,v1,v2]) rfl ⟨rfl,h1,h2,e2⟩
end Go.Proofs.YtoihflimijabjaaGreatDoor
