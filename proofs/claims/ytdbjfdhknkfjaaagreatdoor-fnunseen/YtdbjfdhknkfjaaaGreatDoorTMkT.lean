import Derived.Test.YtdbjfdhknkfjaaaGreatDoorTClP
import Derived.Test.YtdbjfdhknkfjaaaGreatDoorTNPiece
namespace Go.Proofs.YtdbjfdhknkfjaaaGreatDoor
open Go.RowKit
set_option linter.unusedVariables false
set_option maxHeartbeats 8000000
set_option maxRecDepth 100000
set_option linter.unusedSimpArgs false
section
open Go.Deep
def Ck (ss:List S2) (ts:List T2) (nm:ByteArray) (ls:List G3) (c:Int) (t:ByteArray) (ch:List ByteArray):Prop:=
 (¬ (Fb ss ts=0/\Cn nm=true)/\ls=[]/\c=9/\t=⟨#[]⟩/\ch=[])\/(Fb ss ts=0/\Cn nm=true/\∃ ms a,Au ss ts [] [] (.make nm) ms a/\(match a with|.ok d=>ls=d.ls/\c=d.c/\t=d.t/\ch=[]|.circle l=>ls=[]/\c=6/\t=⟨#[]⟩/\ch=l|.deep x=>ls=[]/\c=7/\t=x/\ch=[]))
theorem Ck.clean {ss:List S2} {ts:List T2} {nm:ByteArray} {ls:List G3} {c:Int} {t:ByteArray} {ch:List ByteArray} (h:Ck ss ts nm ls c t ch):Hi ss ts nm c t ch:=by
 rcases h with ⟨n,_,h⟩|⟨y1,y2,ms,a,hd,k⟩
 ·exact Or.inl ⟨n,h⟩
 ·refine Or.inr ⟨y1,y2,ms,a,hd,?_⟩
  cases a with
  | ok d=>exact k.2
  | circle l=>exact k.2
  | deep x=>exact k.2
theorem Ck.unique {ss:List S2} {ts:List T2} (hs:Eu (Ag ss)) (ht:Eu (Ae ts)) {nm:ByteArray} {ls ls':List G3} {c c':Int} {t t':ByteArray} {ch ch':List ByteArray} (h:Ck ss ts nm ls c t ch) (h':Ck ss ts nm ls' c' t' ch'):ls'=ls/\c'=c/\t'=t/\ch'=ch:=by
 rcases h with ⟨n,rfl,rfl,rfl,rfl⟩|⟨y1,y2,ms,a,hd,k⟩
 ·rcases h' with ⟨_,rfl,rfl,rfl,rfl⟩|⟨y1,y2,_⟩
  ·exact⟨rfl,rfl,rfl,rfl⟩
  ·exact absurd ⟨y1,y2⟩ n
 ·rcases h' with ⟨n,_⟩|⟨_,_,ms',a',hd',k'⟩
  ·exact absurd ⟨y1,y2⟩ n
  ·obtain⟨_,rfl⟩:=hd.unique hs ht hd'
   cases a' with
   | ok d=>obtain⟨rfl,rfl,rfl,rfl⟩:=k;obtain⟨rfl,rfl,rfl,rfl⟩:=k';exact⟨rfl,rfl,rfl,rfl⟩
   | circle l=>obtain⟨rfl,rfl,rfl,rfl⟩:=k;obtain⟨rfl,rfl,rfl,rfl⟩:=k';exact⟨rfl,rfl,rfl,rfl⟩
   | deep x=>obtain⟨rfl,rfl,rfl,rfl⟩:=k;obtain⟨rfl,rfl,rfl,rfl⟩:=k';exact⟨rfl,rfl,rfl,rfl⟩
def MarkP (ss:List S2) (ts:List T2) (nm:ByteArray) (w:World) (e:Ending) (w':World):Prop:=
 Below w.heap.size w w'/\∃ ls c t ch ca cn cc la ln lc b fo,e=.returned (.agg #[.bool b,.int .i64 c,.string t,.slice ca cn cc,.string fo,.slice la ln lc])/\Ck ss ts nm ls c t ch/\w'.ownsRow w.heap.size 9 1 (.slice ca cn cc) ch.length (Ba ch)/\Av w' w.heap.size (.slice la ln lc) ls
theorem nil9 (w:World) (B:Nat):w.ownsRow B 9 1 (.slice none 0 0) ([]:List ByteArray).length (Ba []):=⟨rfl,Or.inl ⟨rfl,rfl⟩⟩
theorem Ro {w:World} {B B':Nat} {v:Value} {ls:List G3} (h:Av w B v ls) (hB:B'<=B):Av w B' v ls:=by
 obtain⟨xs,h1,h2⟩:=h
 exact⟨xs,Bx h1 hB,h2⟩
theorem Mo (sa ta:Option Addr) (c1 c2:Nat) (ss:List S2) (ts:List T2) (nm:ByteArray) (w:World) (hT:Ot w) (hP:Lu w) (h:Hp w sa ss ta ts) (hsm:Eg ss ts) (hn:nm.size<=9223372036854775807) :
  Calls Tryz.prog 25 #[.agg #[.slice sa ss.length c1,.slice ta ts.length c2],.string nm] w fun e w'=>MarkP ss ts nm w e w':=by
 obtain⟨W,eW⟩:∃ W,(w.alloc (.cells #[.slice sa ss.length c1,.slice ta ts.length c2] 26)).alloc (.cells #[.bool false,.int .i64 0,.string ⟨#[]⟩,.slice none 0 0,.string ⟨#[]⟩,.slice none 0 0] 60)=W:=⟨_,rfl⟩
 have hb0:Below w.heap.size w W:=by rw[<- eW];exact Bh (Am _ _) (Am _ _)
 have HRB:Hd (W.heap[w.heap.size+1]?=some (.cells #[.bool false,.int .i64 0,.string ⟨#[]⟩,.slice none 0 0,.string ⟨#[]⟩,.slice none 0 0] 60 (0,0))):=by
  show _=_;rw[<- eW];have h:=An (w.alloc (.cells #[.slice sa ss.length c1,.slice ta ts.length c2] 26)) (.cells #[.bool false,.int .i64 0,.string ⟨#[]⟩,.slice none 0 0,.string ⟨#[]⟩,.slice none 0 0] 60);rw[show (w.alloc (.cells #[.slice sa ss.length c1,.slice ta ts.length c2] 26)).heap.size=w.heap.size+1 from by simp] at h;exact h
 have HPB:Hd (W.heap[w.heap.size]?=some (.cells #[.slice sa ss.length c1,.slice ta ts.length c2] 26 (0,0))):=by
  show _=_;rw[<- eW,Lib.alloc_old _ _ _ (by simp)];exact An _ _
 have hW9:w.heap.size+1<W.heap.size:=Aj HRB.o
 have p0:W.cell? ⟨w.heap.size,0,none⟩=some (.slice sa ss.length c1):=by rw[cH HPB.o];rfl
 have p1:W.cell? ⟨w.heap.size,1,none⟩=some (.slice ta ts.length c2):=by rw[cH HPB.o];rfl
 have HCK:Hd (Calls Tryz.prog 45 #[.agg #[.slice sa ss.length c1,.slice ta ts.length c2]] W _):=Tg sa ta c1 c2 ss ts W (hT.bl hb0) (h.bl hb0) hsm
 have HB0:Hd (Below w.heap.size w W):=hb0
 have HOK:Hd (Hp w sa ss ta ts/\Ot w/\Lu w):=⟨h,hT,hP⟩
 have HN:Hd (∀ V:World,Calls Tryz.prog 46 #[.string nm] V fun e w'=>e=.returned (.bool (Cn nm))/\V=w'):=fun V=>Fq nm V hn
 clear h hb0 hsm hT hP
 go_enter Tryz.func25,Tryz.ntmps25
 go_wp2_with fail
 refine HCK.o.mono ?_
 rintro e w1 ⟨hb1,rfl⟩
 have HB1:Hd (Below w.heap.size w w1):=HB0.o.trans (hb1.mono (by omega))
 have HR1:Hd (w1.heap[w.heap.size+1]?=some (.cells #[.bool false,.int .i64 0,.string ⟨#[]⟩,.slice none 0 0,.string ⟨#[]⟩,.slice none 0 0] 60 (0,0))):=Ak hb1 HRB.o
 have HP1:Hd (w1.heap[w.heap.size]?=some (.cells #[.slice sa ss.length c1,.slice ta ts.length c2] 26 (0,0))):=Ak hb1 HPB.o
 obtain⟨⟨z0,z1,z2,z3,z4,z5⟩,zf⟩:=Ni HR1.o
 have q0:w1.cell? ⟨w.heap.size,0,none⟩=some (.slice sa ss.length c1):=by rw[cH HP1.o];rfl
 have q1:w1.cell? ⟨w.heap.size,1,none⟩=some (.slice ta ts.length c2):=by rw[cH HP1.o];rfl
 have hs1:w.heap.size<=w1.heap.size:=HB1.o.size
 have hs1':w.heap.size+1<w1.heap.size:=Aj HR1.o
 clear hb1 p0 p1 eW HCK
 dsimp only
 by_cases hc:Fb ss ts=0
 ·by_cases hnb:Cn nm=true
  ·have hE:=Ls (HOK.o.1.bl HB1.o) hc;have hnk:Ar nm:=by unfold Cn at hnb;simpa using hnb
   have HCC:Hd (Fb ss ts=0/\Cn nm=true):=⟨hc,hnb⟩;have HMK:Hd (Calls Tryz.prog 47 #[.agg #[.slice sa ss.length c1,.slice ta ts.length c2]] w1 _):=Sh sa ta ss.length ts.length c1 c2 w1;have HFI:Hd (∀(h mb:Nat) (w2:World),Lv w1.heap.size h mb (.slice sa ss.length c1) (.slice ta ts.length c2) (.func (.func 65) #[.pointer (some ⟨h,0,none⟩)] #[]) w2 [] [] (.slice none 0 0) (.slice none 0 0) (fun _=>.slice none 0 0)->Below w1.heap.size w1 w2->Calls Tryz.prog 48 #[.pointer (some ⟨h,0,none⟩),.string nm] w2 fun e w'=>Qas w1.heap.size h mb (.slice sa ss.length c1) (.slice ta ts.length c2) (.func (.func 65) #[.pointer (some ⟨h,0,none⟩)] #[]) ss ts nm w2 e w'):=fun h mb w2 hs hb=>first_any w1 h mb sa ta c1 c2 ss ts nm w2 hE (HOK.o.2.1.bl HB1.o) (HOK.o.2.2.bl HB1.o) hnk hs hb;rw[hc];clear hE hnk hc
   go_wp2_with (first|(go_at_call 46;refine(HN.o _).mono ?_;rintro e w9 ⟨rfl,rfl⟩;rw[hnb]))
   refine HMK.o.mono ?_;rintro e w2 ⟨h,mb,rfl,hb2,hs2⟩;have HF2:=HFI.o h mb w2 hs2 hb2;have HFF:Hd (Calls Tryz.prog 48 #[.pointer (some ⟨h,0,none⟩),.string nm] w2 fun e w'=>Qas w1.heap.size h mb (.slice sa ss.length c1) (.slice ta ts.length c2) (.func (.func 65) #[.pointer (some ⟨h,0,none⟩)] #[]) ss ts nm w2 e w'):=HF2;have HB2:Hd (Below w1.heap.size w1 w2):=hb2;clear HF2 hb2 hs2 z0 z1 z2 z3 z4 z5 zf q0 q1 HMK;dsimp only;go_wp2_with fail;refine HFF.o.mono ?_;rintro e w3 ⟨hb3,ms',an,hdo,ho⟩;have HB3:Hd (Below w1.heap.size w1 w3):=HB2.o.trans hb3
   obtain⟨ls,c,t,ch,ca,cn,cc,la,ln,lc,b,fo,rfl,hTP,hown,hlo⟩:∃ ls c t ch ca cn cc la ln lc b fo,e=.returned (.agg #[.bool b,.int .i64 c,.string t,.slice ca cn cc,.string fo,.slice la ln lc])/\Ck ss ts nm ls c t ch/\w3.ownsRow w1.heap.size 9 1 (.slice ca cn cc) ch.length (Ba ch)/\Av w3 w1.heap.size (.slice la ln lc) ls:=by
    rcases ho with ⟨d,lv,rfl,rfl,hlo⟩|⟨c,t,ca,cn,cc,rfl,hv⟩
    ·obtain⟨la,ln,lc,rfl⟩:=Iw hlo;exact⟨d.ls,d.c,d.t,[],none,0,0,la,ln,lc,true,Ep d.c d.t,rfl,Or.inr ⟨HCC.o.1,HCC.o.2,ms',_,hdo,rfl,rfl,rfl,rfl⟩,nil9 _ _,hlo⟩
    ·cases an with
     | ok d=>exact absurd hv id
     | circle l=>
      obtain⟨ca',cn',cc',e1,hown⟩:=hv;simp only[Value.agg.injEq,Array.mk.injEq,List.cons.injEq,Value.int.injEq,Value.string.injEq,Value.slice.injEq,and_true,true_and] at e1;obtain⟨rfl,rfl,rfl,rfl,rfl⟩:=e1;exact⟨[],6,⟨#[]⟩,l,ca,cn,cc,none,0,0,false,⟨#[]⟩,rfl,Or.inr ⟨HCC.o.1,HCC.o.2,ms',_,hdo,rfl,rfl,rfl,rfl⟩,hown,Ik _ _⟩
     | deep x=>
      have e1:(Value.agg #[.int .i64 c,.string t,.slice ca cn cc])=.agg #[.int .i64 7,.string x,.slice none 0 0]:=hv;simp only[Value.agg.injEq,Array.mk.injEq,List.cons.injEq,Value.int.injEq,Value.string.injEq,Value.slice.injEq,and_true,true_and] at e1;obtain⟨rfl,rfl,rfl,rfl,rfl⟩:=e1;exact⟨[],7,t,[],none,0,0,none,0,0,false,⟨#[]⟩,rfl,Or.inr ⟨HCC.o.1,HCC.o.2,ms',_,hdo,rfl,rfl,rfl,rfl⟩,nil9 _ _,Ik _ _⟩
   have HR3:Hd (w3.heap[w.heap.size+1]?=some (.cells #[.bool false,.int .i64 0,.string ⟨#[]⟩,.slice none 0 0,.string ⟨#[]⟩,.slice none 0 0] 60 (0,0))):=by
    show _=_;rw[HB3.o.block _ hs1'];exact HR1.o
   have HX3:Hd (Ck ss ts nm ls c t ch/\w3.ownsRow w1.heap.size 9 1 (.slice ca cn cc) ch.length (Ba ch)/\Av w3 w1.heap.size (.slice la ln lc) ls):=⟨hTP,hown,hlo⟩;obtain⟨⟨z0,z1,z2,z3,z4,z5⟩,zf⟩:=Ni HR3.o;clear ho hdo hb3 hTP hown hlo HFF;dsimp only;go_wp2_with fail;obtain⟨⟨v0,v1,v2,v3,v4,v5⟩,_⟩:=Ni (Fj HR3.o (.bool b) (.int .i64 c) (.string t) (.slice ca cn cc) (.string fo) (.slice la ln lc));obtain⟨x1,x2,x3⟩:=HX3.o;have ho:=Co x2 (fun b' q=>Dm (w:=w3) (b:=w.heap.size+1) (fun e=>by subst e;exact Ah x2 (by decide) HR3.o q) (.bool b) (.int .i64 c) (.string t) (.slice ca cn cc) (.string fo) (.slice la ln lc));have hl:Av _ w1.heap.size (.slice la ln lc) ls:=x3.keptB (fun b' q=>Dm (w:=w3) (b:=w.heap.size+1) (fun e=>by obtain⟨xs,k1,_⟩:=x3;subst e;exact Ah k1 (by decide) HR3.o q) (.bool b) (.int .i64 c) (.string t) (.slice ca cn cc) (.string fo) (.slice la ln lc));exact bR (v:=.agg #[.bool b,.int .i64 c,.string t,.slice ca cn cc,.string fo,.slice la ln lc]) (by simp[results,Tryz.results25,go_sem,v0,v1,v2,v3,v4,v5]) rfl ⟨Dy (HB1.o.trans (HB3.o.mono hs1)) (by omega) _ _ _ _ _ _,ls,c,t,ch,ca,cn,cc,la,ln,lc,b,fo,rfl,x1,Bx ho hs1,Ro hl hs1⟩
  ·have hnf:Cn nm=false:=by simpa using hnb
   have HCP:Hd (Ck ss ts nm [] 9 ⟨#[]⟩ []):=Or.inl ⟨fun q=>hnb q.2,rfl,rfl,rfl,rfl⟩;rw[hc];clear hnb hc
   go_wp2_with (first|(go_at_call 46;refine(HN.o _).mono ?_;rintro e w9 ⟨rfl,rfl⟩;rw[hnf]))
   obtain⟨⟨v0,v1,v2,v3,v4,v5⟩,_⟩:=Ni (Fj HR1.o (.bool false) (.int .i64 9) (.string ⟨#[]⟩) (.slice none 0 0) (.string ⟨#[]⟩) (.slice none 0 0));exact bR (v:=.agg #[.bool false,.int .i64 9,.string ⟨#[]⟩,.slice none 0 0,.string ⟨#[]⟩,.slice none 0 0]) (by simp[results,Tryz.results25,go_sem,v0,v1,v2,v3,v4,v5]) rfl ⟨Dy HB1.o (by omega) _ _ _ _ _ _,[],9,⟨#[]⟩,[],none,0,0,none,0,0,false,⟨#[]⟩,rfl,HCP.o,nil9 _ _,Ik _ _⟩
 ·have HCP:Hd (Ck ss ts nm [] 9 ⟨#[]⟩ []):=Or.inl ⟨fun q=>hc q.1,rfl,rfl,rfl,rfl⟩;generalize Fb ss ts=z at hc;go_wp2_with fail;obtain⟨⟨v0,v1,v2,v3,v4,v5⟩,_⟩:=Ni (Fj HR1.o (.bool false) (.int .i64 9) (.string ⟨#[]⟩) (.slice none 0 0) (.string ⟨#[]⟩) (.slice none 0 0));exact bR (v:=.agg #[.bool false,.int .i64 9,.string ⟨#[]⟩,.slice none 0 0,.string ⟨#[]⟩,.slice none 0 0]) (by simp[results,Tryz.results25,go_sem,v0,v1,v2,v3,v4,v5]) rfl ⟨Dy HB1.o (by omega) _ _ _ _ _ _,[],9,⟨#[]⟩,[],none,0,0,none,0,0,false,⟨#[]⟩,rfl,HCP.o,nil9 _ _,Ik _ _⟩
end
section
open Go.Deep
theorem Ju (sa ta:Option Addr) (c1 c2:Nat) (ss:List S2) (ts:List T2) (nm:ByteArray) (w:World) (hT:Ot w) (hP:Lu w) (h:Hp w sa ss ta ts) (hsm:Eg ss ts) (hn:nm.size<=9223372036854775807) :
  Calls Tryz.prog 7 #[.agg #[.slice sa ss.length c1,.slice ta ts.length c2],.string nm] w fun e w'=>Below w.heap.size w w'/\∃ c t ch ca cn cc,e=.returned (.agg #[.int .i64 c,.string t,.slice ca cn cc])/\Hi ss ts nm c t ch/\w'.ownsRow w.heap.size 9 1 (.slice ca cn cc) ch.length (Ba ch):=by
 obtain⟨W,eW⟩:∃ W,(w.alloc (.cells #[.slice sa ss.length c1,.slice ta ts.length c2] 26)).alloc (.cells #[.int .i64 0,.string ⟨#[]⟩,.slice none 0 0] 38)=W:=⟨_,rfl⟩
 have hb0:Below w.heap.size w W:=by rw[<- eW];exact Bh (Am _ _) (Am _ _)
 have HRB:Hd (W.heap[w.heap.size+1]?=some (.cells #[.int .i64 0,.string ⟨#[]⟩,.slice none 0 0] 38 (0,0))):=by
  show _=_;rw[<- eW];have h:=An (w.alloc (.cells #[.slice sa ss.length c1,.slice ta ts.length c2] 26)) (.cells #[.int .i64 0,.string ⟨#[]⟩,.slice none 0 0] 38);rw[show (w.alloc (.cells #[.slice sa ss.length c1,.slice ta ts.length c2] 26)).heap.size=w.heap.size+1 from by simp] at h;exact h
 have p0:W.cell? ⟨w.heap.size,0,none⟩=some (.slice sa ss.length c1):=by rw[<- eW];simp[go_sem]
 have p1:W.cell? ⟨w.heap.size,1,none⟩=some (.slice ta ts.length c2):=by rw[<- eW];simp[go_sem]
 have HM:Hd (Calls Tryz.prog 25 #[.agg #[.slice sa ss.length c1,.slice ta ts.length c2],.string nm] W fun e w'=>MarkP ss ts nm W e w'):=Mo sa ta c1 c2 ss ts nm W (hT.bl hb0) (hP.bl hb0) (h.bl hb0) hsm hn
 have HB0:Hd (Below w.heap.size w W):=hb0
 clear h hb0 hsm hT hP
 have hfd:∀(v0 v1 v2 v3 v4 v5:Value) (w:World),(Instr.field 60 (.agg #[v0,v1,v2,v3,v4,v5]) 1).run Tryz.prog w=.ok (.agg #[v1,v2,v3]) w:=fun _ _ _ _ _ _ _=>by kernel_rfl
 go_enter Tryz.func7,Tryz.ntmps7
 go_wp2_with fail
 refine HM.o.mono ?_
 rintro e w1 ⟨hb1,ls,c,t,ch,ca,cn,cc,la,ln,lc,b,fo,rfl,hTP,hown,hlo⟩
 have HR1:Hd (w1.heap[w.heap.size+1]?=some (.cells #[.int .i64 0,.string ⟨#[]⟩,.slice none 0 0] 38 (0,0))):=Ak hb1 HRB.o
 have HB1:Hd (Below w.heap.size w w1):=Bh HB0.o hb1
 have hs:=HB0.o.size
 have HX:Hd (Ck ss ts nm ls c t ch/\w1.ownsRow W.heap.size 9 1 (.slice ca cn cc) ch.length (Ba ch)):=⟨hTP,hown⟩
 obtain⟨z0,z1,z2,zf⟩:=Et HR1.o
 clear hb1 hTP hown hlo HM p0 p1 eW
 dsimp only
 go_wp2_with fail
 obtain⟨v0,v1,v2,_⟩:=Et (Cv HR1.o (.int .i64 c) (.string t) (.slice ca cn cc))
 have x2:=HX.o.2
 have ho:=Co x2 (fun b' q=>Hk (w:=w1) (b:=w.heap.size+1) (fun e=>by subst e;exact Ah x2 (by decide) HR1.o q) (.int .i64 c) (.string t) (.slice ca cn cc))
 exact bR (v:=.agg #[.int .i64 c,.string t,.slice ca cn cc]) (by simp[results,Tryz.results7,go_sem,v0,v1,v2]) rfl ⟨Cf HB1.o (by omega) _ _ _,c,t,ch,ca,cn,cc,rfl,HX.o.1.clean,Bx ho hs⟩
theorem Tf (sa ta:Option Addr) (c1 c2:Nat) (ss:List S2) (ts:List T2) (nm:ByteArray) (w:World) (hT:Ot w) (hP:Lu w) (h:Hp w sa ss ta ts) (hsm:Eg ss ts) (hn:nm.size<=9223372036854775807) :
  Calls Tryz.prog 14 #[.agg #[.slice sa ss.length c1,.slice ta ts.length c2],.string nm] w fun e w'=>Below w.heap.size w w'/\∃ ls c t ch ca cn cc la ln lc,e=.returned (.tuple #[.slice la ln lc,.agg #[.int .i64 c,.string t,.slice ca cn cc]])/\Ck ss ts nm ls c t ch/\w'.ownsRow w.heap.size 9 1 (.slice ca cn cc) ch.length (Ba ch)/\Av w' w.heap.size (.slice la ln lc) ls:=by
 obtain⟨W,eW⟩:∃ W,(w.alloc (.cells #[.slice sa ss.length c1,.slice ta ts.length c2] 26)).alloc (.cells #[.int .i64 0,.string ⟨#[]⟩,.slice none 0 0] 38)=W:=⟨_,rfl⟩
 have hb0:Below w.heap.size w W:=by rw[<- eW];exact Bh (Am _ _) (Am _ _)
 have HRB:Hd (W.heap[w.heap.size+1]?=some (.cells #[.int .i64 0,.string ⟨#[]⟩,.slice none 0 0] 38 (0,0))):=by
  show _=_;rw[<- eW];have h:=An (w.alloc (.cells #[.slice sa ss.length c1,.slice ta ts.length c2] 26)) (.cells #[.int .i64 0,.string ⟨#[]⟩,.slice none 0 0] 38);rw[show (w.alloc (.cells #[.slice sa ss.length c1,.slice ta ts.length c2] 26)).heap.size=w.heap.size+1 from by simp] at h;exact h
 have p0:W.cell? ⟨w.heap.size,0,none⟩=some (.slice sa ss.length c1):=by rw[<- eW];simp[go_sem]
 have p1:W.cell? ⟨w.heap.size,1,none⟩=some (.slice ta ts.length c2):=by rw[<- eW];simp[go_sem]
 have HM:Hd (Calls Tryz.prog 25 #[.agg #[.slice sa ss.length c1,.slice ta ts.length c2],.string nm] W fun e w'=>MarkP ss ts nm W e w'):=Mo sa ta c1 c2 ss ts nm W (hT.bl hb0) (hP.bl hb0) (h.bl hb0) hsm hn
 have HB0:Hd (Below w.heap.size w W):=hb0
 clear h hb0 hsm hT hP
 go_enter Tryz.func14,Tryz.ntmps14
 go_wp2_with fail
 refine HM.o.mono ?_
 rintro e w1 ⟨hb1,ls,c,t,ch,ca,cn,cc,la,ln,lc,b,fo,rfl,hTP,hown,hlo⟩
 obtain⟨V,eV⟩:∃ V,w1.alloc (.cells #[.bool b,.int .i64 c,.string t,.slice ca cn cc,.string fo,.slice la ln lc] 60)=V:=⟨_,rfl⟩
 obtain⟨U,eU⟩:∃ U,V.drew=U:=⟨_,rfl⟩
 have hbU:Below w1.heap.size w1 U:=by rw[<- eU,<- eV];exact(Am _ _).drew
 have HR1:Hd (U.heap[w.heap.size+1]?=some (.cells #[.int .i64 0,.string ⟨#[]⟩,.slice none 0 0] 38 (0,0))):=Ak hbU (Ak hb1 HRB.o)
 have HM1:Hd (U.heap[w1.heap.size]?=some (.cells #[.bool b,.int .i64 c,.string t,.slice ca cn cc,.string fo,.slice la ln lc] 60 (0,0))):=by
  show _=_;rw[<- eU,<- eV];exact An _ _
 have HB1:Hd (Below w.heap.size w U):=Bh (Bh HB0.o hb1) hbU
 have hs:=HB0.o.size
 have HX:Hd (Ck ss ts nm ls c t ch/\U.ownsRow W.heap.size 9 1 (.slice ca cn cc) ch.length (Ba ch)/\Av U W.heap.size (.slice la ln lc) ls):=⟨hTP,Ad hown hbU,hlo.bl hbU⟩
 obtain⟨z0,z1,z2,zf⟩:=Et HR1.o
 obtain⟨⟨m0,m1,m2,m3,m4,m5⟩,mf⟩:=Ni HM1.o
 have hne:¬ w1.heap.size=w.heap.size+1:=by have:=Aj (Ak hb1 HRB.o);omega
 clear hb1 hTP hown hlo HM p0 p1 eW hbU
 dsimp only
 go_upto_region 2 with fail
 try rw[eV]
 clear eV
 go_region
 clear eU
 go_wp2_with fail
 obtain⟨v0,v1,v2,_⟩:=Et (Cv HR1.o (.int .i64 c) (.string t) (.slice ca cn cc))
 obtain⟨x1,x2,x3⟩:=HX.o
 have ho:=Co x2 (fun b' q=>Hk (w:=U) (b:=w.heap.size+1) (fun e=>by subst e;exact Ah x2 (by decide) HR1.o q) (.int .i64 c) (.string t) (.slice ca cn cc))
 have hl:Av _ W.heap.size (.slice la ln lc) ls:=x3.keptB (fun b' q=>Hk (w:=U) (b:=w.heap.size+1) (fun e=>by obtain⟨xs,k1,_⟩:=x3;subst e;exact Ah k1 (by decide) HR1.o q) (.int .i64 c) (.string t) (.slice ca cn cc))
 exact bR (v:=.tuple #[.slice la ln lc,.agg #[.int .i64 c,.string t,.slice ca cn cc]]) (by simp[results,Tryz.results14,go_sem,v0,v1,v2]) rfl ⟨Cf HB1.o (by omega) _ _ _,ls,c,t,ch,ca,cn,cc,la,ln,lc,rfl,x1,Bx ho hs,Ro hl hs⟩
end
end Go.Proofs.YtdbjfdhknkfjaaaGreatDoor
