import Derived.Test.YtdbjfdhknkfjaaaGreatDoorEdK
namespace Go.Proofs.YtdbjfdhknkfjaaaGreatDoor
set_option maxHeartbeats 16000000
set_option maxRecDepth 100000
open Go.RowKit Go.Deep
set_option linter.unusedVariables false
set_option linter.unusedSimpArgs false
def KeepO (ob:Option Nat) (w w':World):Prop:=∀ b,b<w.heap.size->some b≠ob->w'.heap[b]?=w.heap[b]?
theorem KeepO.bl {ob:Option Nat} {w w' w2:World} (h:KeepO ob w w') (hs:w.heap.size<=w'.heap.size) (hb:Below w'.heap.size w' w2):KeepO ob w w2:=fun b hl hne=>by
 rw[hb.block b (by omega)];exact h b hl hne
theorem Na {w:World} {B e sz n:Nat} {v:Value} {xs:List Value} (h:w.ownsRow B e sz v n xs):(v=.slice none 0 0/\n=0)\/∃ g cap,v=.slice (some ⟨g,0,none⟩) n cap:=by
 rcases h.2 with h|⟨g,cap,cur,hv,hg,r⟩
 ·exact Or.inl h
 ·exact Or.inr ⟨g,cap,hv⟩
theorem Ij {w:World} {B e sz n:Nat} {v:Value} {xs:List Value} (h:w.ownsRow B e sz v n xs) (h1:1<=n):∃ g cp,v=.slice (some ⟨g,0,none⟩) n cp:=by
 rcases Na h with ⟨_,h0⟩|h
 ·omega
 ·exact h
theorem Mm (a:Option Addr) (cap:Nat) (is:List I3) (w:World) (hc:Fc w a is) (h1:1<=is.length) (hl:is.length<=1048576) :
  Calls Tryz.prog 35 #[.agg #[.slice a is.length cap]] w fun e w'=>Below w.heap.size w w'/\∃ g cp,e=.returned (.agg #[.slice (some ⟨g,0,none⟩) is.length cp])/\w'.ownsRow w.heap.size 88 3 (.slice (some ⟨g,0,none⟩) is.length cp) is.length (Jt is):=by
 obtain⟨i0,hi,hz0,hz1,hz2⟩:=info_parts Tryz.info165b
 obtain⟨b,off,rfl,_⟩:=hc 0 (by omega)
 have hb0:Below w.heap.size w ((w.alloc (.cells #[.slice (some ⟨b,off,none⟩) is.length cap] 31)).alloc (.cells #[.slice none 0 0] 31)):=(aN _ _).alloc (by simp) _
 have hb1:Below w.heap.size w (((w.alloc (.cells #[.slice (some ⟨b,off,none⟩) is.length cap] 31)).alloc (.cells #[.slice none 0 0] 31)).alloc (.cells #[] 88)):=hb0.alloc (by simp;omega) _
 have hown0:(((w.alloc (.cells #[.slice (some ⟨b,off,none⟩) is.length cap] 31)).alloc (.cells #[.slice none 0 0] 31)).alloc (.cells #[] 88)).ownsRow (w.heap.size+1+1) 88 3 (.slice (some ⟨w.heap.size+1+1,0,none⟩) 0 0) 0 []:=by
  have h:=World.ownsRow_lit (base:=w.heap.size+1+1) (e:=88) (size:=3) ((w.alloc (.cells #[.slice (some ⟨b,off,none⟩) is.length cap] 31)).alloc (.cells #[.slice none 0 0] 31)) #[] 0 (by simp) (by unfold maxLen;omega) (by simp);rw[show ((w.alloc (.cells #[.slice (some ⟨b,off,none⟩) is.length cap] 31)).alloc (.cells #[.slice none 0 0] 31)).heap.size=w.heap.size+1+1 from by simp] at h;exact h
 have hn:=Tw (hc.bl hb1)
 have HL:Hd ((Jt is).length=is.length*3):=Jo is
 have HO:Hd (∀ u∈Jt is,u.oneCell'=true):=Xm is
 generalize Jt is=xs at *
 clear hc hb0
 go_enter Tryz.func35,Tryz.ntmps35
 go_wp2_with (at_builtin;refine wpList_append_own _ rfl (.tmp 3) (.tmp 5) 29 rfl (w.heap.size+1+1) 88 i0 (.agg #[.int .i64 0,.string ⟨#[]⟩,.int .i64 0]) 3 32 Tryz.underlying29 hi hz0 hz1 hz2 rfl (by decide) _ 0 [] rfl hown0 ⟨b,off,none⟩ is.length cap xs rfl HL.o hn HO.o (by unfold maxLen;omega) (by omega) (by simp) ?_;intro v' w2 hown' hgrow hnil;clear hnil;have hbB:Below (w.heap.size+1+1) (((w.alloc (.cells #[.slice (some ⟨b,off,none⟩) is.length cap] 31)).alloc (.cells #[.slice none 0 0] 31)).alloc (.cells #[] 88)) w2:=(Below.refl _ _).grown hgrow (by simp) (fun k hk=>(hown0.lt k hk).1);have c1:w2.cell? ⟨w.heap.size+1,0,none⟩=some (.slice none 0 0):=(by rw[hbB.cell (p:=⟨w.heap.size+1,0,none⟩) (by simp)];simp[go_sem]);have f1:w2.frozen? ⟨w.heap.size+1,0,none⟩=false:=(by rw[hbB.frozen (p:=⟨w.heap.size+1,0,none⟩) (by simp)];simp[go_sem]);have hB:Below w.heap.size w w2:=hb1.trans (hbB.mono (by omega));rw[Nat.zero_add,List.nil_append] at hown';obtain⟨g,cp,rfl⟩:=Ij hown' h1;have hg:=(hown'.lt g rfl).1;have HOW:Hd (w2.ownsRow w.heap.size 88 3 (.slice (some ⟨g,0,none⟩) is.length cp) is.length xs):=Bx hown' (by omega);clear hgrow hown0 hn hbB hown' hb1)
 exact bR (v:=.agg #[.slice (some ⟨g,0,none⟩) is.length cp]) (by simp[results,Tryz.results35,go_sem,c1]) rfl ⟨hB.setCell (p:=⟨w.heap.size+1,0,none⟩) (by simp) _,g,cp,rfl,Wr HOW.o (by omega) _⟩
theorem Gb.bl {w w':World} {lo hi e sz n:Nat} {v:Value} {xs:List Value} (h:Gb w lo hi e sz v n xs) (hb:Below w.heap.size w w'):Gb w' lo hi e sz v n xs:=h.same fun b e=>hb.block b (h.own.lt b e).2
theorem Gb.nil (w:World) (lo hi e sz:Nat):Gb w lo hi e sz (.slice none 0 0) 0 []:=⟨World.ownsRow_nil _ _ _ _,fun b e=>by simp[Value.ownBlock] at e⟩
theorem Dk.bl {w w':World} {lo hi:Nat} {v:Value} {ss:List S2} (h:Dk w lo hi v ss) (hb:Below w.heap.size w w'):Dk w' lo hi v ss:=by
 obtain⟨xs,h1,h2⟩:=h;exact⟨xs,h1.bl hb,h2⟩
theorem Dk.nil (w:World) (lo hi:Nat):Dk w lo hi (.slice none 0 0) []:=⟨[],Gb.nil _ _ _ _ _,fun i hi=>by simp at hi⟩
theorem Mp.bl {w w':World} {lo hi:Nat} {v:Value} {ts:List T2} {xs:List Value} {cv:Nat->Value} (h:Mp w lo hi v ts xs cv) (hb:Below w.heap.size w w'):Mp w' lo hi v ts xs cv:=
 ⟨h.row.bl hb,h.fil,fun i hi=>by obtain⟨ys,h1,h2⟩:=h.code i hi;exact⟨ys,h1.bl hb,h2⟩,h.apart⟩
theorem Eh.bl {w w':World} {lo hi:Nat} {v:Value} {ts:List T2} (h:Eh w lo hi v ts) (hb:Below w.heap.size w w'):Eh w' lo hi v ts:=by
 obtain⟨xs,cv,h⟩:=h;exact⟨xs,cv,h.bl hb⟩
theorem Eh.nil (w:World) (lo hi:Nat):Eh w lo hi (.slice none 0 0) []:=⟨[],fun _=>.slice none 0 0,Gb.nil _ _ _ _ _,fun i hi=>by simp at hi,fun i hi=>by simp at hi,fun i j _ hj=>by simp at hj⟩
theorem Qai {w:World} {lo hi:Nat} {v:Value} {n:Nat} {ys:List Value} (h:Gb w lo hi 88 3 v n ys):∃ va vc,v=.slice va n vc:=by
 rcases Na h.own with ⟨hv,rfl⟩|⟨g',c',hv⟩
 ·exact⟨_,_,hv⟩
 ·exact⟨_,_,hv⟩
theorem Xq {t:ByteArray} {ss:List T2} {P:T2->Prop} (h:∀ i,i<ss.length->P (tx ss i)):∀ i,i<(Bo t ss).length->P (tx (Bo t ss) i):=by
 intro i hi
 have hm:tx (Bo t ss) i∈ss:=by
  rw[Gm hi];exact(List.mem_filter.mp (List.getElem_mem hi)).1
 obtain⟨j,hj,e⟩:=List.getElem_of_mem hm
 have:=h j hj
 rw[Gm hj,e] at this
 exact this
theorem Gv.rowC {w:World} {a:Option Addr} {ts:List T2} (h:Gv w a ts) (hk:∀ i,i<ts.length->1<=(tx ts i).code.length/\(tx ts i).code.length<=1048576):RowC w a ts:=fun i hi=>by
 obtain⟨b,off,ha,h1,a',cap',h2,h3⟩:=h i hi
 exact⟨b,off,ha,h1,a',cap',h2,fun W hW=>Mm a' cap' _ W (h3.bl hW) (hk i hi).1 (hk i hi).2⟩
theorem Ml (sa ta:Option Addr) (c1 c2:Nat) (ss:List S2) (ts:List T2) (t:ByteArray) (w:World) (rs:Gx w sa ss) (rt:Gv w ta ts) (h1:ss.length<=200) (h2:ts.length<=200) (hkt:∀ i,i<ts.length->1<=(tx ts i).code.length/\(tx ts i).code.length<=1048576) :
  Calls Tryz.prog 33 #[.agg #[.slice sa ss.length c1,.slice ta ts.length c2],.string t] w fun e w'=>Below w.heap.size w w'/\∃ v1 v2,e=.returned (.agg #[v1,v2])/\Dk w' w.heap.size w'.heap.size v1 (Br t ss)/\Eh w' w.heap.size w'.heap.size v2 (Bo t ts):=
 Mk sa ta c1 c2 ss ts t w rs (rt.rowC hkt) (by omega) (by omega)
structure Ue (ss:List S2) (ts:List T2):Prop where
 len:ss.length+ts.length<=200
 a1:Eu (Ag ss)
 a2:Eu (Ae ts)
 act:Lw ts
theorem Qal {ss:List S2} {ts:List T2} (h:Fb ss ts=0):Ue ss ts:=by
 by_cases g1:200<ss.length+ts.length
 ·rw[chk1 g1] at h;exact absurd h (by decide)
 by_cases g2:Fg (Ag ss)/\Fg (Ae ts)
 ·by_cases g3:Eu (Ag ss)
  ·by_cases g4:Eu (Ae ts)
   ·by_cases g5:Kf (Ag ss) (Ae ts)
    ·rw[chk5 g1 g2 g3 g4 g5] at h;exact absurd h (by decide)
    ·by_cases g6:Gu ss
     ·by_cases g7:Lw ts
      ·exact⟨by omega,g3,g4,g7⟩
      ·rw[chk7 g1 g2 g3 g4 g5 g6 g7] at h;exact absurd h (by decide)
     ·rw[chk6 g1 g2 g3 g4 g5 g6] at h;exact absurd h (by decide)
   ·rw[chk4 g1 g2 g3 g4] at h;exact absurd h (by decide)
  ·rw[chk3 g1 g2 g3] at h;exact absurd h (by decide)
 ·rw[chk2 g1 g2] at h;exact absurd h (by decide)
theorem Ue.codes {ss:List S2} {ts:List T2} (h:Ue ss ts):∀ i,i<ts.length->1<=(tx ts i).code.length/\(tx ts i).code.length<=1048576:=by
 intro i hi
 have h1:=h.act i hi
 unfold Al at h1
 simp only[Bool.and_eq_true,decide_eq_true_eq] at h1
 exact⟨h1.1.1,by omega⟩
theorem Rr:∀(a b:List UInt8),Op.bytesLess a b=false->a≠b->Op.bytesLess b a=true
 | [],[]=>by simp
 | [],_ :: _=>by simp[Op.bytesLess]
 | _ :: _,[]=>by simp[Op.bytesLess]
 | a :: ar,b :: bs=>by
  have ih:=Rr ar bs
  by_cases h1:a<b
  ·simp[Op.bytesLess,h1]
  ·by_cases h2:b<a
   ·intro _ _;simp[Op.bytesLess,h2]
   ·have he:a=b:=UInt8.le_antisymm (UInt8.not_lt.mp h2) (UInt8.not_lt.mp h1);subst he;intro k1 k2;simp only[Op.bytesLess,h1] at k1 ⊢;simp at k1 k2 ⊢
    first
     | exact ih k1 k2
     | exact Or.inr (ih k1 k2)
theorem Xd {a b:ByteArray} (h:Bf a b=false) (hne:a≠b):Bf b a=true:=by
 unfold Bf at *
 refine Rr _ _ h (fun e=>hne ?_)
 rw[ByteArray.toList_eq,ByteArray.toList_eq] at e
 exact WideShapes.bytes_inj e
structure AtR (l:List ByteArray) (t:ByteArray) (r:Nat):Prop where
 le:r<=l.length
 lo:∀ j,j<r->Bf (nx l j) t=true
 hi:∀ j,r<=j->j<l.length->Bf (nx l j) t=false
theorem AtR.uniq {l:List ByteArray} {t:ByteArray} {r s:Nat} (h:AtR l t r) (k:AtR l t s):r=s:=by
 rcases Nat.lt_trichotomy r s with e|e|e
 ·have h1:=h.hi r (Nat.le_refl _) (by have:=k.le;omega);rw[k.lo r e] at h1;cases h1
 ·exact e
 ·have h1:=k.hi s (Nat.le_refl _) (by have:=h.le;omega);rw[h.lo s e] at h1;cases h1
theorem Hh {l:List ByteArray} (ha:Eu l) (t:ByteArray):∃ r,AtR l t r:=by
 have:∀ k,k<=l.length->∃ r,r<=k/\(∀ j,j<r->Bf (nx l j) t=true)/\(∀ j,r<=j->j<k->Bf (nx l j) t=false):=by
  intro k
  induction k with
  | zero=>intro _;exact⟨0,Nat.le_refl _,fun j hj=>by omega,fun j _ hj=>by omega⟩
  | succ k ih=>
   intro hk;obtain⟨r,h1,h2,h3⟩:=ih (by omega)
   by_cases hr:r=k
   ·subst hr
    rcases hv:Bf (nx l r) t with _|_
    ·exact⟨r,by omega,h2,fun j g1 g2=>by obtain rfl:j=r:=(by omega);exact hv⟩
    ·refine⟨r+1,by omega,fun j hj=>?_,fun j g1 g2=>by omega⟩
     rcases Nat.lt_or_ge j r with h|h
     ·exact h2 j h
     ·(obtain rfl:j=r:=by omega);exact hv
   ·refine⟨r,by omega,h2,fun j g1 g2=>?_⟩;exact Qr ha (h3 r (Nat.le_refl _) (by omega)) j g1 (by omega)
 obtain⟨r,h1,h2,h3⟩:=this l.length (Nat.le_refl _)
 exact⟨r,h1,h2,h3⟩
open Classical in
noncomputable def Hy (l:List ByteArray) (t:ByteArray):Nat:=if h:∃ r,AtR l t r then Classical.choose h else 0
theorem Wp {l:List ByteArray} {t:ByteArray} {r:Nat} (h:AtR l t r):Hy l t=r:=by
 unfold Hy
 rw[dif_pos ⟨r,h⟩]
 exact(Classical.choose_spec (⟨r,h⟩:∃ r,AtR l t r)).uniq h
theorem Kr {l:List ByteArray} (h:Eu l):l.Pairwise (fun a b=>Bf a b=true):=by
 rw[List.pairwise_iff_getElem]
 intro i j hi hj hij
 have:=h.pair hij hj
 simpa [nx,gG,gQ hi,gQ hj] using this
theorem Kj {l:List ByteArray} (h:l.Pairwise (fun a b=>Bf a b=true)):Eu l:=by
 rw[List.pairwise_iff_getElem] at h
 intro i h1 h2
 have:=h (i-1) i (by omega) h2 (by omega)
 simpa [nx,gG,gQ h2,gQ (show i-1<l.length by omega)] using this
theorem ascS {ss:List S2} (t:ByteArray) (h:Eu (Ag ss)):Eu (Ag (Br t ss)):=by
 refine Kj ((Kr h).sublist ?_)
 exact(List.filter_sublist).map _
theorem ascT {ts:List T2} (t:ByteArray) (h:Eu (Ae ts)):Eu (Ae (Bo t ts)):=by
 refine Kj ((Kr h).sublist ?_)
 exact(List.filter_sublist).map _
theorem fltS_ne (t:ByteArray) (ss:List S2) {i:Nat} (hi:i<(Br t ss).length):(sx (Br t ss) i).name≠t:=by
 rw[Jr hi]
 have:=(List.mem_filter.mp (List.getElem_mem hi)).2
 simpa using this
theorem fltT_ne (t:ByteArray) (ss:List T2) {i:Nat} (hi:i<(Bo t ss).length):(tx (Bo t ss) i).name≠t:=by
 rw[Gm hi]
 have:=(List.mem_filter.mp (List.getElem_mem hi)).2
 simpa using this
theorem Dk.ofV {w:World} {lo hi:Nat} {v:Value} {ss:List S2} (h:Gb w lo hi 79 2 v ss.length (Dz ss)):Dk w lo hi v ss:=⟨_,h,Pw ss⟩
def Hv (l:List S2) (s:S2) (r:Nat):List S2:=l.take r++[s]++l.drop r
theorem Jp (l:List S2) (s:S2) (r:Nat) (h:r<=l.length):(Hv l s r).length=l.length+1:=by simp[Hv];omega
open Classical in
noncomputable def Ci (ss:List S2) (ts:List T2) (t:ByteArray) (ok:Bool):Int:=if Fb ss ts≠0 then 1 else if ¬ (Ar t/\ok=true) then 2 else if 200<=(Br t ss).length+(Bo t ts).length then 3 else 0
theorem Re {ss:List S2} {ts:List T2} {t:ByteArray} {ok:Bool} (h:Fb ss ts≠0):Ci ss ts t ok=1:=by unfold Ci;rw[if_pos h]
theorem Mw {ss:List S2} {ts:List T2} {t:ByteArray} {ok:Bool} (h:Fb ss ts=0) (h2:¬ (Ar t/\ok=true)):Ci ss ts t ok=2:=by unfold Ci;rw[if_neg (fun k=>k h),if_pos h2]
theorem Za {ss:List S2} {ts:List T2} {t:ByteArray} {ok:Bool} (h:Fb ss ts=0) (h2:Ar t/\ok=true) (h3:200<=(Br t ss).length+(Bo t ts).length):Ci ss ts t ok=3:=by unfold Ci;rw[if_neg (fun k=>k h),if_neg (fun k=>k h2),if_pos h3]
theorem roomC0 {ss:List S2} {ts:List T2} {t:ByteArray} {ok:Bool} (h:Fb ss ts=0) (h2:Ar t/\ok=true) (h3:¬ 200<=(Br t ss).length+(Bo t ts).length):Ci ss ts t ok=0:=by unfold Ci;rw[if_neg (fun k=>k h),if_neg (fun k=>k h2),if_neg h3]
theorem Iq {ss:List S2} {ts:List T2} {t:ByteArray} {ok:Bool} (h:Ci ss ts t ok=0):Ue ss ts/\ok=true/\(Br t ss).length+(Bo t ts).length<200:=by
 by_cases g:Fb ss ts=0
 ·by_cases g2:Ar t/\ok=true
  ·by_cases g3:200<=(Br t ss).length+(Bo t ts).length
   ·rw[Za g g2 g3] at h;exact absurd h (by decide)
   ·exact⟨Qal g,g2.2,by omega⟩
  ·rw[Mw g g2] at h;exact absurd h (by decide)
 ·rw[Re g] at h;exact absurd h (by decide)
open Classical in
noncomputable def Zf (ss:List S2) (ts:List T2) (t x:ByteArray) (ok:Bool):List S2:=if Ci ss ts t ok=0 then Hv (Br t ss) ⟨t,x⟩ (Hy (Ag (Br t ss)) t) else []
open Classical in
noncomputable def Ze (ss:List S2) (ts:List T2) (t:ByteArray) (ok:Bool):List T2:=if Ci ss ts t ok=0 then Bo t ts else []
theorem Ts {ss:List S2} {ts:List T2} {t x:ByteArray} {ok:Bool} (h:Ci ss ts t ok≠0):Zf ss ts t x ok=[]/\Ze ss ts t ok=[]:=by unfold Zf Ze;rw[if_neg h,if_neg h];exact⟨rfl,rfl⟩
theorem Ur {ss:List S2} {ts:List T2} {t x:ByteArray} {ok:Bool} (h:Ci ss ts t ok=0) {r:Nat} (hr:AtR (Ag (Br t ss)) t r):Zf ss ts t x ok=Hv (Br t ss) ⟨t,x⟩ r/\Ze ss ts t ok=Bo t ts:=by unfold Zf Ze;rw[if_pos h,if_pos h,Wp hr];exact⟨rfl,rfl⟩
theorem ps_small (ss:List S2) (ts:List T2) (t x:ByteArray) (ok:Bool):Eg (Zf ss ts t x ok) (Ze ss ts t ok):=by
 by_cases g:Ci ss ts t ok=0
 ·obtain⟨h,_,h3⟩:=Iq g;obtain⟨r,hr⟩:=Hh (ascS t h.a1) t;rw[(Ur (x:=x) g hr).1,(Ur (x:=x) g hr).2];have hl:=Jp (Br t ss) ⟨t,x⟩ r (by have:=hr.le;rw[Bc] at this;exact this);exact⟨by omega,by omega,Xq (P:=fun s=>s.code.length<=1048576) (fun i hi=>(h.codes i hi).2)⟩
 ·rw[(Ts (x:=x) g).1,(Ts (x:=x) g).2];exact⟨by simp,by simp,fun i hi=>by simp at hi⟩
def Sn (lo:Nat) (w:World) (e:Ending) (ss:List S2) (ts:List T2) (t x:ByteArray) (ok:Bool):Prop:=∃ v1 v2,e=.returned (.tuple #[.agg #[v1,v2],.int .i64 (Ci ss ts t ok)])/\Dk w lo w.heap.size v1 (Zf ss ts t x ok)/\Eh w lo w.heap.size v2 (Ze ss ts t ok)
theorem Sn.no {lo:Nat} {w:World} {c:Int} {ss:List S2} {ts:List T2} {t x:ByteArray} {ok:Bool} (h:Ci ss ts t ok=c) (h0:c≠0):Sn lo w (.returned (.tuple #[.agg #[.slice none 0 0,.slice none 0 0],.int .i64 c])) ss ts t x ok:=by
 have h1:Ci ss ts t ok≠0:=by rw[h];exact h0
 refine⟨_,_,by rw[h],?_,?_⟩
 ·rw[(Ts (x:=x) h1).1];exact Dk.nil _ _ _
 ·rw[(Ts (x:=x) h1).2];exact Eh.nil _ _ _
theorem Dk.setT {w:World} {b lo hi j:Nat} {v:Value} {ss:List S2} (ho:Dk w lo hi v ss) (h:Df w b 26) (u:Value):Dk (w.setCell ⟨b,j,none⟩ u) lo hi v ss:=by
 obtain⟨xs,k1,k2⟩:=ho
 exact⟨xs,⟨Cx k1.own h (by decide) u,k1.top⟩,k2⟩
theorem Eh.setT {w:World} {b lo hi j:Nat} {v:Value} {ts:List T2} (ho:Eh w lo hi v ts) (h:Df w b 26) (u:Value):Eh (w.setCell ⟨b,j,none⟩ u) lo hi v ts:=by
 obtain⟨xs,cv,k⟩:=ho
 exact⟨xs,cv,⟨Cx k.row.own h (by decide) u,k.row.top⟩,k.fil,fun i hi=>by
  obtain⟨ys,k1,k2⟩:=k.code i hi;exact⟨ys,⟨Cx k1.own h (by decide) u,k1.top⟩,k2⟩,k.apart⟩
def Easy (ss:List S2) (ts:List T2) (nm:ByteArray) (c:Int) (t:ByteArray):Prop:=(c=0/\∃ r,r<ss.length/\(sx ss r).name=nm/\(sx ss r).text=t)\/(c=4/\t=nm/\¬ Ds (Ag ss) nm/\¬ Ds (Ae ts) nm)
theorem Nc {w:World} {lo0:Nat} {v1 v2:Value} {l1:List S2} {l2:List TC} (less:Nat) (hle:less<=1) (h:Dw w lo0 v1 v2 l1 l2) (hb:Ox l1 l2) :
  Calls Tryz.prog 22 #[.agg #[v1,v2],.int .i64 less] w fun e w'=>Below w.heap.size w w'/\∃ u1 u2 m1 m2,e=.returned (.agg #[u1,u2])/\Dw w' w.heap.size u1 u2 m1 m2/\Ox m1 m2:=by
 obtain⟨s1,q1,rfl⟩:=h.s1
 obtain⟨s2,q2,rfl⟩:=h.s2
 obtain⟨w2,e2⟩:∃ y,(w.alloc (.cells #[.slice s1 l1.length q1,.slice s2 l2.length q2] 26)).alloc (.cells #[.slice none 0 0,.slice none 0 0] 26)=y:=⟨_,rfl⟩
 have hb2:Below w.heap.size w w2:=by rw[<- e2];exact(aN _ _).alloc (by simp) _
 have q0:w2.heap[w.heap.size]?=some (.cells #[.slice s1 l1.length q1,.slice s2 l2.length q2] 26 (0,0)):=by rw[<- e2,Lib.alloc_old _ _ _ (by simp)];exact Ai _ _
 have qQ:w2.heap[w.heap.size+1]?=some (.cells #[.slice none 0 0,.slice none 0 0] 26 (0,0)):=by
  have hh:=Ai (w.alloc (.cells #[.slice s1 l1.length q1,.slice s2 l2.length q2] 26)) (.cells #[.slice none 0 0,.slice none 0 0] 26);rw[show (w.alloc (.cells #[.slice s1 l1.length q1,.slice s2 l2.length q2] 26)).heap.size=w.heap.size+1 from by simp,e2] at hh;exact hh
 have hws:w.heap.size+2=w2.heap.size:=by rw[<- e2];simp
 have HW:=hid (Oe ⟨#[]⟩ (h.bl hb2) hb)
 obtain⟨c0,c1⟩:=Af q0
 have E2:Hd ((w.alloc (.cells #[.slice s1 l1.length q1,.slice s2 l2.length q2] 26)).alloc (.cells #[.slice none 0 0,.slice none 0 0] 26)=w2):=e2
 have HQ:=hid qQ
 have HB:=hid hb2
 have HWS:=hid hws
 clear h hb hb2 e2 qQ q0 hws
 go_enter Tryz.func22,Tryz.ntmps22
 clear c0 c1
 go_wp2_with fail
 rw[E2.o]
 clear E2
 refine HW.o.mono ?_
 rintro e w3 ⟨hb3,u1,u2,m1,m2,rfl,hd,hbd,_⟩
 clear HW
 obtain⟨a1,p1,rfl⟩:=hd.s1
 obtain⟨a2,p2,rfl⟩:=hd.s2
 obtain⟨w4,e4⟩:∃ y,w3.alloc (.cells #[.slice a1 m1.length p1,.slice a2 m2.length p2] 26)=y:=⟨_,rfl⟩
 have hb4:Below w3.heap.size w3 w4:=by rw[<- e4];exact aN _ _
 obtain⟨P,eP⟩:∃ P,w3.heap.size=P:=⟨_,rfl⟩
 have hP2:w.heap.size+2<=P:=by have:=hb3.size;have:=HWS.o;omega
 have q4:w4.heap[P]?=some (.cells #[.slice a1 m1.length p1,.slice a2 m2.length p2] 26 (0,0)):=by rw[<- e4,<- eP];exact Ai _ _
 have HS4:Hd (Sw w4 P w.heap.size (.slice a1 m1.length p1) (.slice a2 m2.length p2) m1 m2):=⟨q4,(hd.base (by have:=HWS.o;omega)).bl hb4,hbd,by omega⟩
 have HB4:=hid (bt (bt HB.o hb3) hb4)
 have HQ4:=hid (Aa (Aa HQ.o hb3) hb4)
 have hPw:w.heap.size<=P:=by omega
 have hPn:w.heap.size+1≠P:=by omega
 clear hd hbd q4 hb3 hb4 HB HQ HWS
 go_wp2_with fail
 clear e4 eP
 go_loopw [6] (fun i wr=>∃(k:Nat) (u2:Value) (l2:List TC),k<=202/\i=.int .i64 k/\Hd (l2.length=m2.length+k)/\Hd (Sw wr P w.heap.size (.slice a1 m1.length p1) u2 m1 l2)/\Hd (Below w.heap.size w wr)/\Hd (wr.heap[w.heap.size+1]?=some (.cells #[.slice none 0 0,.slice none 0 0] 26 (0,0)))) (fun i _=>300-(intOf i).toNat)
 case atStart=>exact⟨0,_,m2,by omega,rfl,(rfl:m2.length=m2.length+0),HS4,HB4,HQ4⟩
 case round=>
  obtain⟨k,u2,l2,hk,rfl,HL,HS,HB,HQ⟩:=hrel;clear HS4 HB4 HQ4;obtain⟨d0,d1,_⟩:=HS.o.c;obtain⟨a3,p3,rfl⟩:=HS.o.dw.s2;have hlI:(less:Int)<=1:=by omega
  have hn1:=HS.o.bd.n1;have hn2:=HS.o.bd.n2
  by_cases hlt:(m1.length:Int)+(l2.length:Int)<200-(less:Int)
  ·have hkk:k<=200:=by have:=HL.o;omega
   have hl2:l2.length<=200:=by omega
   go_wp2_with fail;clear d0 d1 hlt;refine Lt.begin 13 (fun w'=>w'.heap[P]?=some (.cells #[.slice a1 m1.length p1,.slice a3 l2.length p3] 26 (0,0))) (by kernel_rfl) ?_;obtain⟨wD,eD⟩:∃ y,wr.drew=y:=⟨_,rfl⟩;rw[eD];have hbD:Below wr.heap.size wr wD:=by rw[<- eD];exact(Below.refl _ _).drew
   clear eD;replace HS:=hid (HS.o.bl hbD);replace HB:=hid (bt HB.o hbD);replace HQ:=hid (Aa HQ.o hbD);have hS0:(fun w'=>w'.heap[P]?=some (.cells #[.slice a1 m1.length p1,.slice a3 l2.length p3] 26 (0,0))) wD:=HS.o.blk;change K 0 _
   iterate 3
    refine Lt.ti (v:=?_) hS0 ?_ ?_;rotate_left 1
    ·rintro w hSw;obtain⟨c0,c1⟩:=Af hSw;go_simp;first|done|with_reducible rfl
    simp only[gX]
   refine Lt.sp (i:=3) (fun K hK=>?_);go_simp;refine(Qa (k:Int) _ (by omega) (by omega)).mono ?_;rintro e wA ⟨⟨nm,rfl,hnm⟩,hbA⟩;have hqm:¬ 9223372036854775807<1+nm.size:=by omega
   replace HS:=hid (HS.o.bl hbA);replace HB:=hid (bt HB.o hbA);replace HQ:=hid (Aa HQ.o hbA);have hS1:(fun w'=>w'.heap[P]?=some (.cells #[.slice a1 m1.length p1,.slice a3 l2.length p3] 26 (0,0))) wA:=HS.o.blk;refine hK.out _ _ (fun _=>hS1) (fun _=>?_);clear hK K hbA
   try simp only[gX]
   refine Lt.ti (i:=4) (v:=?_) hS1 ?_ ?_;rotate_left 1
   ·rintro w hSw;obtain⟨c0,c1⟩:=Af hSw;go_simp;first|done|with_reducible rfl
   simp only[gX];refine Lt.sp (i:=5) (fun K hK=>?_);go_simp;refine(Ay _ _).mono ?_;rintro e wB ⟨rfl,hbB⟩;replace HS:=hid (HS.o.bl hbB);replace HB:=hid (bt HB.o hbB);replace HQ:=hid (Aa HQ.o hbB);have hS2:(fun w'=>w'.heap[P]?=some (.cells #[.slice a1 m1.length p1,.slice a3 l2.length p3] 26 (0,0))) wB:=HS.o.blk;refine hK.out _ _ (fun _=>hS2) (fun _=>?_);clear hK K hbB
   try simp only[gX]
   refine Lt.sp (i:=6) (fun K hK=>?_);go_simp;refine(Aw _ _).mono ?_;rintro e wE ⟨rfl,hbE⟩;replace HS:=hid (HS.o.bl hbE);replace HB:=hid (bt HB.o hbE);replace HQ:=hid (Aa HQ.o hbE);have hS3:(fun w'=>w'.heap[P]?=some (.cells #[.slice a1 m1.length p1,.slice a3 l2.length p3] 26 (0,0))) wE:=HS.o.blk;refine hK.out _ _ (fun _=>hS3) (fun _=>?_);clear hK K hbE
   try simp only[gX]
   have hsE:w.heap.size<=wE.heap.size:=HB.o.size;refine Lt.sp (i:=7) (fun K hK=>?_);go_simp;refine Bb (Q:=fun x=>K _ x) ?_;intro wF hbwF HF
   try dsimp only
   replace HS:=hid (HS.o.bl hbwF);replace HB:=hid (bt HB.o hbwF);replace HQ:=hid (Aa HQ.o hbwF);have hS4:(fun w'=>w'.heap[P]?=some (.cells #[.slice a1 m1.length p1,.slice a3 l2.length p3] 26 (0,0))) wF:=HS.o.blk;refine hK.out _ _ (fun _=>hS4) (fun _=>?_);clear hK K hbwF
   try simp only[gX]
   change K 8 _
   iterate 2
    refine Lt.ti (v:=?_) hS4 ?_ ?_;rotate_left 1
    ·rintro w hSw;obtain⟨c0,c1⟩:=Af hSw;go_simp;first|done|with_reducible rfl
    simp only[gX]
   refine Lt.sp (i:=10) (fun K hK=>?_);go_simp;refine Bb (Q:=fun x=>K _ x) ?_;intro wG hbwG HG
   try dsimp only
   replace HS:=hid (HS.o.bl hbwG);replace HB:=hid (bt HB.o hbwG);replace HQ:=hid (Aa HQ.o hbwG);replace HF:=hid (Aa HF.o hbwG);have hS5:(fun w'=>w'.heap[P]?=some (.cells #[.slice a1 m1.length p1,.slice a3 l2.length p3] 26 (0,0))) wG:=HS.o.blk;refine hK.out _ _ (fun _=>hS5) (fun _=>?_);clear hK K hbwG
   try simp only[gX]
   refine Lt.sp (i:=11) (fun K hK=>?_);refine Eb rfl (by rfl) w.heap.size (.slice a3 l2.length p3) _ (Fh l2) (by rfl) HS.o.dw.t wF.heap.size _ _ rfl (by rfl) HG.o HB.o.size (by omega) ?_;intro g' cap' w7 hown7 hgrow;have HN:=hid (HS.o.putT (s:=⟨_,[⟨1,⟨#[107]⟩,0⟩,⟨15,⟨#[]⟩,0⟩]⟩) (Ie (n:=2) HF.o hsE rfl rfl (by omega)) hgrow hown7 (by omega) ⟨by show (_++_:ByteArray).size<=50000;rw[ByteArray.size_append];show 1+nm.size<=50000;omega,by simp,Uo (by show 1<=50000;omega) (Nat.zero_le _)⟩);have hrow:∀ j,Value.ownBlock (.slice a3 l2.length p3)=some j->w.heap.size<=j:=fun j hj=>(HS.o.dw.t.lt j hj).1;have HP7:=hid (HS.o.app hgrow (Or.inr rfl));have HB7:=hid ((HB.o.grown hgrow HB.o.size (fun j hj=>hrow j hj)).setCell (p:=⟨P,1,none⟩) hPw (.slice (some ⟨g',0,none⟩) (l2.length+1) cap'));have HQ7:=hid (Ac (Cj HQ.o hgrow (Df.ne ⟨_,HQ.o⟩ HS.o.dw.t (by decide))) (by omega) (c:=P) (j:=1) (.slice (some ⟨g',0,none⟩) (l2.length+1) cap'));obtain⟨c0,c1⟩:=Af HP7.o;have fz:=fun j=>fH HP7.o j;have hS7:(fun w'=>w'.heap[P]?=some (.cells #[.slice a1 m1.length p1,.slice a3 l2.length p3] 26 (0,0))) w7:=HP7.o;refine hK.out _ _ (fun _=>hS7) (fun _=>?_);clear hK K hgrow hown7 hrow;simp only[gX];refine Lt.ti (i:=12) (v:=?_) hS7 ?_ ?_;rotate_left 1
   ·rintro w hSw;obtain⟨c0,c1⟩:=Af hSw;go_simp;first|done|with_reducible rfl
   simp only[gX];refine Lt.sp (i:=13) (fun K hK=>?_);go_simp;refine hK.out _ _ (fun h=>absurd rfl h) (fun _=>?_);clear hK K;refine Lt.done (by kernel_rfl) ?_ _;go_wp2;go_roundw
   case rel=>exact⟨k+1,_,_,by omega,by go_num,hid (by have:=HL.o;simp;omega),HN,HB7,HQ7⟩
   case measure=>simp[intOf];omega
  ·have hltd:=decide_eq_false hlt;have hlt2:¬ (m1.length:Int)+(l2.length:Int)<200-(less:Int):=hlt;obtain⟨r0,r1⟩:=Af HQ.o;have fr:=fun j=>fH HQ.o j;go_wp2;refine bR (v:=.agg #[.slice a1 m1.length p1,.slice a3 l2.length p3]) (by simp[results,Tryz.results22,go_sem,r0,r1]) rfl ?_;exact⟨Jb HB.o (by omega) _ _,_,_,rfl,m1,l2,HS.o.dw.ret HQ.o,HS.o.bd⟩
theorem l2Any_any (B R:Nat) (a:Option Addr) (len cap p:Nat) (w:World) (h:Rd B w R a len cap p) (hBw:B<=w.heap.size) (hp:p<=50000) :
  Calls Tryz.prog 19 #[.pointer (some ⟨R,0,none⟩)] w fun e w'=>∃(g n c:Nat) (is:List I3),e=.returned (.agg #[.slice (some ⟨g,0,none⟩) n c])/\n=is.length/\w'.ownsRow w.heap.size 88 3 (.slice (some ⟨g,0,none⟩) n c) n (Dc is)/\n<=400/\(∀ x∈is,x.text.size<=50000)/\Be B R a len cap p 2000 w w':=by
 have hRB:=h.lt
 have hRw:R<w.heap.size:=by omega
 obtain⟨w1,e1⟩:∃ y,w.alloc (.cells #[.slice none 0 0] 31)=y:=⟨_,rfl⟩
 have hb1:Below w.heap.size w w1:=by rw[<- e1];exact aN _ _
 have HQ:Hd (w1.heap[w.heap.size]?=some (.cells #[.slice none 0 0] 31 (0,0))):=by show _=_;rw[<- e1];exact Ai _ _
 have HR:Hd (Be B R a len cap p (0) w w1):=⟨Dd (Kn w R) hb1,p,by omega,h.bl hBw hb1⟩
 have hlo:=HR.o.size
 clear hb1 h
 go_enter Tryz.func19,Tryz.ntmps19
 go_wp2_with fail
 clear e1
 refine(HR.o.prog hBw (by omega)).mono ?_
 rintro e w2 ⟨g,n,c,is,rfl,ho,h0,hL,hr1,hg1⟩
 replace HQ:=hid (Ao HQ.o hg1 (by omega))
 replace HR:=hid hr1
 clear hg1 hr1
 obtain⟨w3,e3⟩:∃ y,w2.alloc (.cells #[.slice (some ⟨g,0,none⟩) n c] 31)=y:=⟨_,rfl⟩
 have hb3:Below w2.heap.size w2 w3:=by rw[<- e3];exact aN _ _
 have HP:Hd (w3.heap[w2.heap.size]?=some (.cells #[.slice (some ⟨g,0,none⟩) n c] 31 (0,0))):=by show _=_;rw[<- e3];exact Ai _ _
 have hpl:w.heap.size<w2.heap.size:=Cb HQ.o
 have HO:=hid (Ce (Bx ho.row hlo) hb3)
 have HNL:=hid ho.ln
 have HX:=hid ho.tx
 replace HQ:=hid (Aa HQ.o hb3)
 replace HR:=hid (HR.o.bl hBw hb3)
 clear ho hb3
 go_wp2_with fail
 clear e3
 refine(HR.o.pick (by omega) 6 (by omega) (by omega)).mono ?_
 rintro e w4 ⟨x,rfl,hx,hr1,hg1⟩
 replace HQ:=hid (Ao HQ.o hg1 (by omega))
 replace HP:=hid (Ao HP.o hg1 (by omega))
 replace HO:=hid (Zi HO.o hg1 hRw)
 replace HR:=hid hr1
 clear hg1 hr1
 have d0:=Bz HP.o
 rcases Nat.eq_zero_or_pos x with rfl|hx0
 ·have hn:=HNL.o;clear HNL;subst hn;obtain⟨aa,cc,ee,r3⟩:=Dg rfl HO.o;cases ee;go_wp2_with fail;obtain⟨k1,p2,k2,k3⟩:=HR.o;refine(Qe B R a len cap p2 g c is w4 k3 (Nat.le_trans hBw k1.size) (by omega) r3 h0 hL HX.o).mono ?_;rintro e w5 ⟨g',n',c',is',rfl,ho,hL',hk⟩;have HQ5:=hid (Ao HQ.o hk.1 (by omega));have HR5:=hid (Be.then k1 k2 hk);have HO5:=hid (Bx (B':=w.heap.size) ho.row k1.size);have HN5:=hid ho.ln;have HX5:=hid ho.tx;clear ho hk k1 k2 k3 r3 d0 HQ HR HP HO HX;have r0:=Bz HQ5.o;have fr:=fun j=>fH HQ5.o j;go_wp2;refine bR (v:=.agg #[.slice (some ⟨g',0,none⟩) n' c']) (by simp[results,Tryz.results19,go_sem,r0]) rfl ?_;exact⟨g',n',c',is',rfl,HN5.o,Cx HO5.o ⟨_,HQ5.o⟩ (by decide) _,hL',HX5.o,(HR5.o.set hBw (Nat.le_refl _) _).more (by omega)⟩
 ·have hx0I:¬ ((x:Int)=0):=by omega
  have r0:=Bz HQ.o;have fr:=fun j=>fH HQ.o j;go_wp2;refine bR (v:=.agg #[.slice (some ⟨g,0,none⟩) n c]) (by simp[results,Tryz.results19,go_sem,r0]) rfl ?_;exact⟨g,n,c,is,rfl,HNL.o,Cx HO.o ⟨_,HQ.o⟩ (by decide) _,hL,HX.o,(HR.o.set hBw (Nat.le_refl _) _).more (by omega)⟩
end Go.Proofs.YtdbjfdhknkfjaaaGreatDoor
