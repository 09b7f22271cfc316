import Derived.Test.YtjlnkepkkdefdaaGreatDoorTClP
import Derived.Test.YtjlnkepkkdefdaaGreatDoorTNPiece
namespace Go.Proofs.YtjlnkepkkdefdaaGreatDoor
open Go.RowKit
set_option linter.unusedVariables false
set_option maxHeartbeats 8000000
set_option maxRecDepth 100000
set_option linter.unusedSimpArgs false
section
open Go.Deep
def Dh (ss:List S2) (ts:List T2) (nm:ByteArray) (ls:List G3) (c:Int) (t:ByteArray) (ch:List ByteArray):Prop:=
 (¬ (Iw ss ts=0/\Cu nm=true)/\ls=[]/\c=9/\t=⟨#[]⟩/\ch=[])\/(Iw ss ts=0/\Cu nm=true/\∃ ms a,Av ss ts [] [] (.make nm) ms a/\(match a with|.ok d=>ls=d.ls/\c=d.c/\t=d.t/\ch=[]|.circle l=>ls=[]/\c=6/\t=⟨#[]⟩/\ch=l|.deep x=>ls=[]/\c=7/\t=x/\ch=[]))
theorem Dh.clean {ss:List S2} {ts:List T2} {nm:ByteArray} {ls:List G3} {c:Int} {t:ByteArray} {ch:List ByteArray} (h:Dh ss ts nm ls c t ch):CleanP ss ts nm c t ch:=by
 rcases h with ⟨n,_,h⟩|⟨y1,y2,ms,a,hd,k⟩
 ·exact Or.inl ⟨n,h⟩
 ·refine Or.inr ⟨y1,y2,ms,a,hd,?_⟩
  cases a with
  | ok d=>exact k.2
  | circle l=>exact k.2
  | deep x=>exact k.2
theorem Dh.unique {ss:List S2} {ts:List T2} (hs:Ey (Ai ss)) (ht:Ey (Ae ts)) {nm:ByteArray} {ls ls':List G3} {c c':Int} {t t':ByteArray} {ch ch':List ByteArray} (h:Dh ss ts nm ls c t ch) (h':Dh ss ts nm ls' c' t' ch'):ls'=ls/\c'=c/\t'=t/\ch'=ch:=by
 rcases h with ⟨n,rfl,rfl,rfl,rfl⟩|⟨y1,y2,ms,a,hd,k⟩
 ·rcases h' with ⟨_,rfl,rfl,rfl,rfl⟩|⟨y1,y2,_⟩
  ·exact⟨rfl,rfl,rfl,rfl⟩
  ·exact absurd ⟨y1,y2⟩ n
 ·rcases h' with ⟨n,_⟩|⟨_,_,ms',a',hd',k'⟩
  ·exact absurd ⟨y1,y2⟩ n
  ·obtain⟨_,rfl⟩:=hd.unique hs ht hd'
   cases a' with
   | ok d=>obtain⟨rfl,rfl,rfl,rfl⟩:=k;obtain⟨rfl,rfl,rfl,rfl⟩:=k';exact⟨rfl,rfl,rfl,rfl⟩
   | circle l=>obtain⟨rfl,rfl,rfl,rfl⟩:=k;obtain⟨rfl,rfl,rfl,rfl⟩:=k';exact⟨rfl,rfl,rfl,rfl⟩
   | deep x=>obtain⟨rfl,rfl,rfl,rfl⟩:=k;obtain⟨rfl,rfl,rfl,rfl⟩:=k';exact⟨rfl,rfl,rfl,rfl⟩
def MarkP (ss:List S2) (ts:List T2) (nm:ByteArray) (w:World) (e:Ending) (w':World):Prop:=
 Below w.heap.size w w'/\∃ ls c t ch ca cn cc la ln lc b fo,e=.returned (.agg #[.bool b,.int .i64 c,.string t,.slice ca cn cc,.string fo,.slice la ln lc])/\Dh ss ts nm ls c t ch/\w'.ownsRow w.heap.size 9 1 (.slice ca cn cc) ch.length (Bf ch)/\Ar w' w.heap.size (.slice la ln lc) ls
theorem nil9 (w:World) (B:Nat):w.ownsRow B 9 1 (.slice none 0 0) ([]:List ByteArray).length (Bf []):=⟨rfl,Or.inl ⟨rfl,rfl⟩⟩
theorem Sc {w:World} {B B':Nat} {v:Value} {ls:List G3} (h:Ar w B v ls) (hB:B'<=B):Ar w B' v ls:=by
 obtain⟨xs,h1,h2⟩:=h
 exact⟨xs,Co h1 hB,h2⟩
theorem Uk (sa ta:Option Addr) (c1 c2:Nat) (ss:List S2) (ts:List T2) (nm:ByteArray) (w:World) (hT:Jr w) (hP:Ld w) (h:Mx w sa ss ta ts) (hsm:Mu ss ts) (hn:nm.size<=9223372036854775807) :
  Calls Tryz.prog 17 #[.agg #[.slice sa ss.length c1,.slice ta ts.length c2],.string nm] w fun e w'=>MarkP ss ts nm w e w':=by
 obtain⟨W,eW⟩:∃ W,(w.alloc (.cells #[.slice sa ss.length c1,.slice ta ts.length c2] 26)).alloc (.cells #[.bool false,.int .i64 0,.string ⟨#[]⟩,.slice none 0 0,.string ⟨#[]⟩,.slice none 0 0] 59)=W:=⟨_,rfl⟩
 have hb0:Below w.heap.size w W:=by rw[<- eW];exact Bo (Ak _ _) (Ak _ _)
 have HRB:Hd (W.heap[w.heap.size+1]?=some (.cells #[.bool false,.int .i64 0,.string ⟨#[]⟩,.slice none 0 0,.string ⟨#[]⟩,.slice none 0 0] 59 (0,0))):=by
  show _=_;rw[<- eW];have h:=Aj (w.alloc (.cells #[.slice sa ss.length c1,.slice ta ts.length c2] 26)) (.cells #[.bool false,.int .i64 0,.string ⟨#[]⟩,.slice none 0 0,.string ⟨#[]⟩,.slice none 0 0] 59);rw[show (w.alloc (.cells #[.slice sa ss.length c1,.slice ta ts.length c2] 26)).heap.size=w.heap.size+1 from by simp] at h;exact h
 have HPB:Hd (W.heap[w.heap.size]?=some (.cells #[.slice sa ss.length c1,.slice ta ts.length c2] 26 (0,0))):=by
  show _=_;rw[<- eW,Lib.alloc_old _ _ _ (by simp)];exact Aj _ _
 have hW9:w.heap.size+1<W.heap.size:=Af HRB.o
 have p0:W.cell? ⟨w.heap.size,0,none⟩=some (.slice sa ss.length c1):=by rw[cH HPB.o];rfl
 have p1:W.cell? ⟨w.heap.size,1,none⟩=some (.slice ta ts.length c2):=by rw[cH HPB.o];rfl
 have HCK:Hd (Calls Tryz.prog 40 #[.agg #[.slice sa ss.length c1,.slice ta ts.length c2]] W _):=Uf sa ta c1 c2 ss ts W (hT.bl hb0) (h.bl hb0) hsm
 have HB0:Hd (Below w.heap.size w W):=hb0
 have HOK:Hd (Mx w sa ss ta ts/\Jr w/\Ld w):=⟨h,hT,hP⟩
 have HN:Hd (∀ V:World,Calls Tryz.prog 30 #[.string nm] V fun e w'=>e=.returned (.bool (Cu nm))/\V=w'):=fun V=>Cy nm V hn
 clear h hb0 hsm hT hP
 go_enter Tryz.func17,Tryz.ntmps17
 go_wp2_with fail
 refine HCK.o.mono ?_
 rintro e w1 ⟨hb1,rfl⟩
 have HB1:Hd (Below w.heap.size w w1):=HB0.o.trans (hb1.mono (by omega))
 have HR1:Hd (w1.heap[w.heap.size+1]?=some (.cells #[.bool false,.int .i64 0,.string ⟨#[]⟩,.slice none 0 0,.string ⟨#[]⟩,.slice none 0 0] 59 (0,0))):=Ag hb1 HRB.o
 have HP1:Hd (w1.heap[w.heap.size]?=some (.cells #[.slice sa ss.length c1,.slice ta ts.length c2] 26 (0,0))):=Ag hb1 HPB.o
 obtain⟨⟨z0,z1,z2,z3,z4,z5⟩,zf⟩:=Nu HR1.o
 have q0:w1.cell? ⟨w.heap.size,0,none⟩=some (.slice sa ss.length c1):=by rw[cH HP1.o];rfl
 have q1:w1.cell? ⟨w.heap.size,1,none⟩=some (.slice ta ts.length c2):=by rw[cH HP1.o];rfl
 have hs1:w.heap.size<=w1.heap.size:=HB1.o.size
 have hs1':w.heap.size+1<w1.heap.size:=Af HR1.o
 clear hb1 p0 p1 eW HCK
 dsimp only
 by_cases hc:Iw ss ts=0
 ·by_cases hnb:Cu nm=true
  ·have hE:=Qh (HOK.o.1.bl HB1.o) hc;have hnk:Aq nm:=by unfold Cu at hnb;simpa using hnb
   have HCC:Hd (Iw ss ts=0/\Cu nm=true):=⟨hc,hnb⟩;have HMK:Hd (Calls Tryz.prog 41 #[.agg #[.slice sa ss.length c1,.slice ta ts.length c2]] w1 _):=Ta sa ta ss.length ts.length c1 c2 w1;have HFI:Hd (∀(h mb:Nat) (w2:World),Ml w1.heap.size h mb (.slice sa ss.length c1) (.slice ta ts.length c2) (.func (.func 73) #[.pointer (some ⟨h,0,none⟩)] #[]) w2 [] [] (.slice none 0 0) (.slice none 0 0) (fun _=>.slice none 0 0)->Below w1.heap.size w1 w2->Calls Tryz.prog 42 #[.pointer (some ⟨h,0,none⟩),.string nm] w2 fun e w'=>FirstP w1.heap.size h mb (.slice sa ss.length c1) (.slice ta ts.length c2) (.func (.func 73) #[.pointer (some ⟨h,0,none⟩)] #[]) ss ts nm w2 e w'):=fun h mb w2 hs hb=>first_any w1 h mb sa ta c1 c2 ss ts nm w2 hE (HOK.o.2.1.bl HB1.o) (HOK.o.2.2.bl HB1.o) hnk hs hb;rw[hc];clear hE hnk hc
   go_wp2_with (first|(go_at_call 30;refine(HN.o _).mono ?_;rintro e w9 ⟨rfl,rfl⟩;rw[hnb]))
   refine HMK.o.mono ?_;rintro e w2 ⟨h,mb,rfl,hb2,hs2⟩;have HF2:=HFI.o h mb w2 hs2 hb2;have HFF:Hd (Calls Tryz.prog 42 #[.pointer (some ⟨h,0,none⟩),.string nm] w2 fun e w'=>FirstP w1.heap.size h mb (.slice sa ss.length c1) (.slice ta ts.length c2) (.func (.func 73) #[.pointer (some ⟨h,0,none⟩)] #[]) ss ts nm w2 e w'):=HF2;have HB2:Hd (Below w1.heap.size w1 w2):=hb2;clear HF2 hb2 hs2 z0 z1 z2 z3 z4 z5 zf q0 q1 HMK;dsimp only;go_wp2_with fail;refine HFF.o.mono ?_;rintro e w3 ⟨hb3,ms',an,hdo,ho⟩;have HB3:Hd (Below w1.heap.size w1 w3):=HB2.o.trans hb3
   obtain⟨ls,c,t,ch,ca,cn,cc,la,ln,lc,b,fo,rfl,hTP,hown,hlo⟩:∃ ls c t ch ca cn cc la ln lc b fo,e=.returned (.agg #[.bool b,.int .i64 c,.string t,.slice ca cn cc,.string fo,.slice la ln lc])/\Dh ss ts nm ls c t ch/\w3.ownsRow w1.heap.size 9 1 (.slice ca cn cc) ch.length (Bf ch)/\Ar w3 w1.heap.size (.slice la ln lc) ls:=by
    rcases ho with ⟨d,lv,rfl,rfl,hlo⟩|⟨c,t,ca,cn,cc,rfl,hv⟩
    ·obtain⟨la,ln,lc,rfl⟩:=Jj hlo;exact⟨d.ls,d.c,d.t,[],none,0,0,la,ln,lc,true,Bn d.c d.t,rfl,Or.inr ⟨HCC.o.1,HCC.o.2,ms',_,hdo,rfl,rfl,rfl,rfl⟩,nil9 _ _,hlo⟩
    ·cases an with
     | ok d=>exact absurd hv id
     | circle l=>
      obtain⟨ca',cn',cc',e1,hown⟩:=hv;simp only[Value.agg.injEq,Array.mk.injEq,List.cons.injEq,Value.int.injEq,Value.string.injEq,Value.slice.injEq,and_true,true_and] at e1;obtain⟨rfl,rfl,rfl,rfl,rfl⟩:=e1;exact⟨[],6,⟨#[]⟩,l,ca,cn,cc,none,0,0,false,⟨#[]⟩,rfl,Or.inr ⟨HCC.o.1,HCC.o.2,ms',_,hdo,rfl,rfl,rfl,rfl⟩,hown,Jd _ _⟩
     | deep x=>
      have e1:(Value.agg #[.int .i64 c,.string t,.slice ca cn cc])=.agg #[.int .i64 7,.string x,.slice none 0 0]:=hv;simp only[Value.agg.injEq,Array.mk.injEq,List.cons.injEq,Value.int.injEq,Value.string.injEq,Value.slice.injEq,and_true,true_and] at e1;obtain⟨rfl,rfl,rfl,rfl,rfl⟩:=e1;exact⟨[],7,t,[],none,0,0,none,0,0,false,⟨#[]⟩,rfl,Or.inr ⟨HCC.o.1,HCC.o.2,ms',_,hdo,rfl,rfl,rfl,rfl⟩,nil9 _ _,Jd _ _⟩
   have HR3:Hd (w3.heap[w.heap.size+1]?=some (.cells #[.bool false,.int .i64 0,.string ⟨#[]⟩,.slice none 0 0,.string ⟨#[]⟩,.slice none 0 0] 59 (0,0))):=by
    show _=_;rw[HB3.o.block _ hs1'];exact HR1.o
   have HX3:Hd (Dh ss ts nm ls c t ch/\w3.ownsRow w1.heap.size 9 1 (.slice ca cn cc) ch.length (Bf ch)/\Ar w3 w1.heap.size (.slice la ln lc) ls):=⟨hTP,hown,hlo⟩;obtain⟨⟨z0,z1,z2,z3,z4,z5⟩,zf⟩:=Nu HR3.o;clear ho hdo hb3 hTP hown hlo HFF;dsimp only;go_wp2_with fail;obtain⟨⟨v0,v1,v2,v3,v4,v5⟩,_⟩:=Nu (Fq HR3.o (.bool b) (.int .i64 c) (.string t) (.slice ca cn cc) (.string fo) (.slice la ln lc));obtain⟨x1,x2,x3⟩:=HX3.o;have ho:=Cn x2 (fun b' q=>Dl (w:=w3) (b:=w.heap.size+1) (fun e=>by subst e;exact Ad x2 (by decide) HR3.o q) (.bool b) (.int .i64 c) (.string t) (.slice ca cn cc) (.string fo) (.slice la ln lc));have hl:Ar _ w1.heap.size (.slice la ln lc) ls:=x3.keptB (fun b' q=>Dl (w:=w3) (b:=w.heap.size+1) (fun e=>by obtain⟨xs,k1,_⟩:=x3;subst e;exact Ad k1 (by decide) HR3.o q) (.bool b) (.int .i64 c) (.string t) (.slice ca cn cc) (.string fo) (.slice la ln lc));exact bR (v:=.agg #[.bool b,.int .i64 c,.string t,.slice ca cn cc,.string fo,.slice la ln lc]) (by simp[results,Tryz.results17,go_sem,v0,v1,v2,v3,v4,v5]) rfl ⟨Dg (HB1.o.trans (HB3.o.mono hs1)) (by omega) _ _ _ _ _ _,ls,c,t,ch,ca,cn,cc,la,ln,lc,b,fo,rfl,x1,Co ho hs1,Sc hl hs1⟩
  ·have hnf:Cu nm=false:=by simpa using hnb
   have HCP:Hd (Dh ss ts nm [] 9 ⟨#[]⟩ []):=Or.inl ⟨fun q=>hnb q.2,rfl,rfl,rfl,rfl⟩;rw[hc];clear hnb hc
   go_wp2_with (first|(go_at_call 30;refine(HN.o _).mono ?_;rintro e w9 ⟨rfl,rfl⟩;rw[hnf]))
   obtain⟨⟨v0,v1,v2,v3,v4,v5⟩,_⟩:=Nu (Fq HR1.o (.bool false) (.int .i64 9) (.string ⟨#[]⟩) (.slice none 0 0) (.string ⟨#[]⟩) (.slice none 0 0));exact bR (v:=.agg #[.bool false,.int .i64 9,.string ⟨#[]⟩,.slice none 0 0,.string ⟨#[]⟩,.slice none 0 0]) (by simp[results,Tryz.results17,go_sem,v0,v1,v2,v3,v4,v5]) rfl ⟨Dg HB1.o (by omega) _ _ _ _ _ _,[],9,⟨#[]⟩,[],none,0,0,none,0,0,false,⟨#[]⟩,rfl,HCP.o,nil9 _ _,Jd _ _⟩
 ·have HCP:Hd (Dh ss ts nm [] 9 ⟨#[]⟩ []):=Or.inl ⟨fun q=>hc q.1,rfl,rfl,rfl,rfl⟩;generalize Iw ss ts=z at hc;go_wp2_with fail;obtain⟨⟨v0,v1,v2,v3,v4,v5⟩,_⟩:=Nu (Fq HR1.o (.bool false) (.int .i64 9) (.string ⟨#[]⟩) (.slice none 0 0) (.string ⟨#[]⟩) (.slice none 0 0));exact bR (v:=.agg #[.bool false,.int .i64 9,.string ⟨#[]⟩,.slice none 0 0,.string ⟨#[]⟩,.slice none 0 0]) (by simp[results,Tryz.results17,go_sem,v0,v1,v2,v3,v4,v5]) rfl ⟨Dg HB1.o (by omega) _ _ _ _ _ _,[],9,⟨#[]⟩,[],none,0,0,none,0,0,false,⟨#[]⟩,rfl,HCP.o,nil9 _ _,Jd _ _⟩
end
section
open Go.Deep
end
end Go.Proofs.YtjlnkepkkdefdaaGreatDoor
