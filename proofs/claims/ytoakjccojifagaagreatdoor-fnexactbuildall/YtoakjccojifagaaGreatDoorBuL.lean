import Derived.Test.YtoakjccojifagaaGreatDoorBsZ
import Derived.Test.YtoakjccojifagaaGreatDoorBuI
namespace Go.Proofs.YtoakjccojifagaaGreatDoor
open _root_.Go.Proofs.Tryz Go.RowKit Go.Deep
open Value renaming slice->J,string->S,bool->F,tuple->Y
open Option renaming some->M,none->N
open Obj renaming cells->O
open Go renaming Value->Z,World->E
open Ending renaming returned->H
open _root_ renaming List->L,Nat->X
set_option linter.unusedVariables false
set_option linter.unusedSimpArgs false
set_option maxHeartbeats 8000000
set_option maxRecDepth 100000
theorem equal_any(a a':Option Addr)(ic jc:X)(is js:L I3)(w:E)(hc:Ch w a is)(o6:Ch w a' js)(hl:is.length≤1048576)(K9:js.length≤1048576):Calls prog 133 #[J a is.length ic,J a' js.length jc] w λe w'=>Bw w w'∧∃b,e=H (F b)∧(b=true↔is=js):=by
 by_cases hn:is.length=js.length
 ·obtain⟨n,C8⟩:∃n,Hd (is.length=n):=⟨_,rfl⟩
  have HLB:Hd (js.length=n):=hn.symm.trans C8.o;rw[C8.o]at hl ⊢;rw[HLB.o]at K9 ⊢;clear hn;have T4:((n:Int) != (n:Int))=false:=qg;go_enter func133,ntmps133;go_wp2
  go_loopw [13] (λi wr=>∃k:X,k≤n∧i=I k∧Hd (∀j,j<k→ix is j=ix js j)∧Bw w wr) (λi _=>n-(intOf i).toNat)
  case atStart=>exact⟨0,Nat.zero_le _,rfl,(λj hj=>qb),Below.refl _ _⟩
  case round=>
   obtain⟨k,hk,rfl,HN,hB⟩:=hrel
   by_cases aj:k<n
   ·obtain⟨b,off,rfl,e1,e2,e3⟩:=(hc.bl (hB.drew)) k (zo C8.o)
    obtain⟨b',br,rfl,f1,f2,f3⟩:=(o6.bl (hB.drew)) k (zo HLB.o);have iy:(k:Int)<(n:Int):=qb;have jr:(0:Int)≤(k:Int):=qb;have ol:Hd (ix is k≠ix js k→(false=true↔is=js)):=λhne=>⟨λh=>(by cases h),λe=>absurd (by rw[e]) hne⟩
    have Ge:Hd (ix is k=ix js k→∀j,j<k+1→ix is j=ix js j):=λhe j hj=>by
     exact qme
    generalize ix is k=x at *;generalize ix js k=y at *;obtain⟨x0,x1,x2⟩:=x;obtain⟨y0,y1,y2⟩:=y;dsimp only at e1 e2 e3 f1 f2 f3
    by_cases h0:x0=y0
    ·subst h0
     by_cases h1:x1=y1
     ·subst h1
      by_cases h2:x2=y2
      ·subst h2
       have HN2:=Ad (Ge.o rfl);clear Ge ol HN;go_wp2_with fail;go_region
       all_goals
        go_wp2;exact⟨⟨k+1,qb,qj,HN2.o,hB.drew⟩,qak⟩
      ·have hq:=h2
       have dd:¬ (x2=y2):=hq;have X0:=Ad (ol.o (λe=>hq qat));clear Ge ol HN hq h2;exact qfs
     ·have hq:=h1
      have dd:¬ (x1.toList=y1.toList):=λe=>hq (Ub e);have X0:=Ad (ol.o (λe=>hq qat));clear Ge ol HN hq h1;exact qfs
    ·have hq:=h0
     have dd:¬ (x0=y0):=hq;have X0:=Ad (ol.o (λe=>hq qat));clear Ge ol HN hq h0;exact qfs
   ·exact qje
 ·have T4:((is.length:Int) != (js.length:Int))=true:=qh
  have X0:Hd (false=true↔is=js):=⟨λh=>(by cases h),λe=>absurd (by rw[e]) hn⟩;go_enter func133,ntmps133;go_wp2;go_ret;exact⟨Below.refl _ _,false,rfl,X0.o⟩
def Fre(h mb:X)(C:Ga)(av kv:Z)(r:Rv)(b:X):Prop:=b≠h/\b≠mb/\av.ownBlock≠M b/\kv.ownBlock≠M b/\¬ Ky C r b
def TyK(T:TypeId):Prop:=T≠153/\T≠119/\T≠124/\T≠9/\T≠95/\T≠4
instance (T:TypeId):Decidable (TyK T):=by unfold TyK;infer_instance
section
variable {B h mb k:X} {C:Ga} {sv tv:Z} {ss:L S2} {ts:L T2} {w w':E} {ms:Mm} {mk st:L By} {al:X} {av kv av' kv':Z} {vs:By->Z} {s s':Sb} {r r':Rv}
theorem BS.fresh(q:BS B h mb k C sv tv ss ts w ms mk st al av kv vs s r){b:X}(hb:w.heap.size<=b):Fre h mb C av kv r b:=
 ⟨λe=>by have:=q.mkr.lt (Or.inl e);omega,λe=>by have:=q.mkr.lt (Or.inr (Or.inl e));omega,λe=>by have:=q.mkr.lt (Or.inr (Or.inr (Or.inl e)));omega,λe=>by have:=q.mkr.lt (Or.inr (Or.inr (Or.inr e)));omega,λe=>by have:=(q.rs.lt e).2;omega⟩
theorem BS.freK(q:BS B h mb k C sv tv ss ts w ms mk st al av kv vs s r){b:X}{T:TypeId}{cs:Array Z}(hb:w.heap[b]?=M (O cs T (0,0)))(hT:TyK T):Fre h mb C av kv r b:=
 ⟨λe=>q.mkr.far hb hT.1 hT.2.2.2.1 (Or.inl e) rfl,λe=>q.mkr.far hb hT.1 hT.2.2.2.1 (Or.inr (Or.inl e)) rfl,λe=>q.mkr.far hb hT.1 hT.2.2.2.1 (Or.inr (Or.inr (Or.inl e))) rfl,λe=>q.mkr.far hb hT.1 hT.2.2.2.1 (Or.inr (Or.inr (Or.inr e))) rfl,q.rs.far hb hT.2⟩
theorem KQ.fre(K:KQ B h mb C av kv r r' w w')(ha:An w av av')(hk:An w kv kv'){b:X}(hb:b<w.heap.size)(f:Fre h mb C av kv r b):Fre h mb C av' kv' r' b:=
 ⟨f.1,f.2.1,λe=>by rcases ha b e with q|q;exact f.2.2.1 q;omega,λe=>by rcases hk b e with q|q;exact f.2.2.2.1 q;omega,λe=>by rcases K.new b e with q|q;exact f.2.2.2.2 q;omega⟩
theorem KQ.keepF(K:KQ B h mb C av kv r r' w w'){b:X}{o:Obj}(hb:w.heap[b]?=M o)(f:Fre h mb C av kv r b):w'.heap[b]?=M o:=by rw[K.keep b (Ag hb) f.1 f.2.1 f.2.2.1 f.2.2.2.1 f.2.2.2.2];exact hb
theorem KQ.blkK(K:KQ B h mb C av kv r r' w w')(q:BS B h mb k C sv tv ss ts w ms mk st al av kv vs s r){b:X}{T:TypeId}{cs:Array Z}(hb:w.heap[b]?=M (O cs T (0,0)))(hT:TyK T):w'.heap[b]?=M (O cs T (0,0)):=K.keepF hb (q.freK hb hT)
theorem KQ.ownK(K:KQ B h mb C av kv r r' w w')(q:BS B h mb k C sv tv ss ts w ms mk st al av kv vs s r){B' e sz n:X}{u:Z}{xs:L Z}(ho:w.ownsRow B' e sz u n xs)(hT:TyK e):w'.ownsRow B' e sz u n xs:=Al ho λb o=>by
 obtain⟨cs,c1⟩:=Bd ho b o;rw[c1];exact K.blkK q c1 hT
theorem own_setF{w:E}{B n g cap i:X}{xs:L Bool}(h:w.ownsRow B 4 1 (J (p_ g) n cap) n (xs.map Value.bool))(hi:i<n)(v:Bool):(w.setCell ⟨g,i,N⟩ (F v)).ownsRow B 4 1 (J (p_ g) n cap) n ((xs.set i v).map Value.bool):=by
 rcases h.2 with⟨e,_⟩|⟨g',c',cur,e,hB,hh,h1,h2,h3,h4⟩
 ·simp at e
 ·simp only[Value.slice.injEq,Option.some.injEq,Addr.mk.injEq,and_true,true_and]at e
  obtain⟨rfl,rfl⟩:=e;have hl:=h.1;rw[List.length_map]at hl;refine⟨by rw[List.length_map,List.length_set];exact hl,Or.inr ⟨g,cap,cur.setIfInBounds i (F v),rfl,hB,jB hh _,h1,h2,by rw[Array.size_setIfInBounds];exact h3,?_⟩⟩;rw[Array.toList_setIfInBounds,List.map_set,←h4,List.take_set]
theorem BS.setDf(q:BS B h mb k C sv tv ss ts w ms mk st al av kv vs s r){g n cap i:X}(hd:r.dv=J (p_ g) n cap)(hi:i<s.R.length)(hn:NoH ss ts C.n ms (qx s.R i).looks):BS B h mb k C sv tv ss ts (w.setCell ⟨g,i,N⟩ (F true)) ms mk st al av kv vs s r/\KQ B h mb C av kv r r w (w.setCell ⟨g,i,N⟩ (F true)):=by
 obtain⟨f,f1,f2⟩:=q.rs.sn;obtain⟨xs,u1⟩:=q.rs.us;obtain⟨ys,d1,d2⟩:=q.rs.df;have hob:r.dv.ownBlock=M g:=by rw[hd];rfl
 obtain⟨yo,cs,hg⟩:=Dv d1 hob;have ht:Dn w g 4:=⟨_,hg⟩;have hne:∀b,b≠g->(w.setCell ⟨g,i,N⟩ (F true)).heap[b]?=w.heap[b]?:=λb e=>Dj w ⟨g,i,N⟩ _ b e
 have Eq:n=s.R.length:=by
  have:=d1.2;exact qmp
 subst Eq;rw[hd]at d1;have hd':=own_setF d1 hi true;rw[←hd]at hd';refine q.upd ((Below.refl B w).setCell (p:=⟨g,i,N⟩) yo _) (λb hb ho=>hne b (λe=>ho (e▸Bl C (u:=r.dv) qu hob))) ?_ (λb o=>Or.inl o) (Lo.same λb o=>hne b (λe=>?_)) (Nat.le_refl _)
 ·refine⟨q.rs.lb,q.rs.wd,?_,?_,⟨f,f1.same (hne _ (λe=>f1.notCells (e▸hg))),f2⟩,Ap q.rs.tx ht qd _,Ap q.rs.su ht qd _,q.rs.qs.kept (λb o=>hne b (λe=>?_)) (λb cs' T hT hb=>?_),Ap q.rs.ran ht qd _,Ap q.rs.held ht qd _,⟨xs,Al u1 (λb o=>hne b (λe=>q.rs.ud b o (e▸hob)))⟩,⟨ys.set i true,hd',λj hj=>?_⟩,q.rs.ud,q.rs.ap⟩
  ·exact qkk
  ·exact qkj
  ·exact qdm
  ·exact qjz
  ·rw[List.getElem?_set]at hj
   split at hj
   ·rename_i e;subst e;exact hn
   ·exact d2 j hj
 ·exact qdm
theorem BS.setUs(q:BS B h mb k C sv tv ss ts w ms mk st al av kv vs s r){g n cap i:X}(hd:r.uv=J (p_ g) n cap)(hi:i<s.R.length):BS B h mb k C sv tv ss ts (w.setCell ⟨g,i,N⟩ (F true)) ms mk st al av kv vs s r/\KQ B h mb C av kv r r w (w.setCell ⟨g,i,N⟩ (F true)):=by
 obtain⟨f,f1,f2⟩:=q.rs.sn;obtain⟨xs,u1⟩:=q.rs.us;obtain⟨ys,d1,d2⟩:=q.rs.df;have hob:r.uv.ownBlock=M g:=by rw[hd];rfl
 obtain⟨yo,cs,hg⟩:=Dv u1 hob;have ht:Dn w g 4:=⟨_,hg⟩;have hne:∀b,b≠g->(w.setCell ⟨g,i,N⟩ (F true)).heap[b]?=w.heap[b]?:=λb e=>Dj w ⟨g,i,N⟩ _ b e
 have Eq:n=s.R.length:=by
  have:=u1.2;exact qmp
 subst Eq;rw[hd]at u1;have hd':=own_setF u1 hi true;rw[←hd]at hd';refine q.upd ((Below.refl B w).setCell (p:=⟨g,i,N⟩) yo _) (λb hb ho=>hne b (λe=>ho (e▸Bl C (u:=r.uv) qu hob))) ?_ (λb o=>Or.inl o) (Lo.same λb o=>hne b (λe=>?_)) (Nat.le_refl _)
 ·refine⟨q.rs.lb,q.rs.wd,?_,?_,⟨f,f1.same (hne _ (λe=>f1.notCells (e▸hg))),f2⟩,Ap q.rs.tx ht qd _,Ap q.rs.su ht qd _,q.rs.qs.kept (λb o=>hne b (λe=>?_)) (λb cs' T hT hb=>?_),Ap q.rs.ran ht qd _,Ap q.rs.held ht qd _,⟨xs.set i true,hd'⟩,⟨ys,Al d1 (λb o=>hne b (λe=>q.rs.ud b (e▸hob) o)),d2⟩,q.rs.ud,q.rs.ap⟩
  ·exact qkk
  ·exact qkj
  ·exact qdm
  ·exact qjz
 ·exact qdm
end
def TakeB(B h mb:X)(C:Ga)(sv tv:Z)(ss:L S2)(ts:L T2)(ms:Mm)(s:Sb)(st:L By)(av kv:Z)(r:Rv)(is:L I3)(w:E)(e:Ending)(w':E):Prop:=
 (∃ms' s' av' kv' vs' r',((∃c t,Ba ss ts C.n ms s st (.tri is 0 s.R.length) ms' s' (.hit c t)/\e=H (Y #[.agg #[I c,S t,nS],F true]))\/(Ba ss ts C.n ms s st (.tri is 0 s.R.length) ms' s' .none/\e=H (Y #[.agg #[I 0,ze,nS],F false])))/\Je B h mb C sv tv ss ts w' ms' st av' kv' vs' s' r'/\KQ B h mb C av kv r r' w w'/\An w av av'/\An w kv kv'/\r'.sn+400200*Dh ts ms st<=r.sn+200*s.R.length+400200*Dh ts ms' st)\/
 (∃b v r' ms' s',e=Lh v/\KQ B h mb C av kv r r' w w'/\Ba ss ts C.n ms s st (.tri is 0 s.R.length) ms' s' (.bad b)/\Df B C w' b v)
section
variable {B h mb k:X} {C:Ga} {sv tv:Z} {ss:L S2} {ts:L T2} {w w':E} {ms:Mm} {mk st:L By} {al:X} {av kv:Z} {vs:By->Z} {s:Sb} {r r':Rv}
theorem KQ.recAt(K:KQ B h mb C av kv r r' w w')(q:BS B h mb k C sv tv ss ts w ms mk st al av kv vs s r){i:X}(hi:i<s.R.length):∃g cp ca cc la lc,r.qv=J (p_ g) s.R.length cp/\w'.cell? ⟨g,i*3,N⟩=M (J ca (qx s.R i).code.length cc)/\w'.cell? ⟨g,i*3+1,N⟩=M (J la (qx s.R i).looks.length lc)/\w'.cell? ⟨g,i*3+2,N⟩=M (S (qx s.R i).out)/\Ch w' ca (qx s.R i).code/\∃ys,w'.ownsRow B 136 3 (J la (qx s.R i).looks.length lc) (qx s.R i).looks.length ys/\Bn (qx s.R i).looks (qx s.R i).looks.length ys:=by
 obtain⟨xs,cv,lv,qr⟩:=q.rs.qs;obtain⟨f1,f2,f3⟩:=qr.fil i hi;obtain⟨ys,k1,k2⟩:=qr.code i hi;obtain⟨zs,l1,l2⟩:=qr.look i hi;have k1':=K.ownK q k1 qd;have l1':=K.ownK q l1 qd;obtain⟨ca,cc,e1,r1⟩:=Pw k1' k2;obtain⟨la,lc,e2⟩:=Ax l1';rw[e1]at f1;rw[e2]at f2 l1'
 rcases qr.row.2 with⟨_,h0⟩|⟨g,cp,cur,e,hB,hh,h1,h2,h3,h4⟩
 ·omega
 ·obtain⟨cs',b',c'⟩:=K.old g _ cp cur e hh
  have at_:∀j u,j<s.R.length*3->xs[j]?=M u->w'.cell? ⟨g,j,N⟩=M u:=λj u hj hx=>by
   rw[cH b',c' j hj,←Array.getElem?_toList];rw[←h4,List.getElem?_take,if_pos hj]at hx;exact hx
  exact⟨g,cp,ca,cc,la,lc,e,at_ _ _ qb f1,at_ _ _ qb f2,at_ _ _ qb f3,r1,zs,l1',l2⟩
theorem BS.dfAt(q:BS B h mb k C sv tv ss ts w ms mk st al av kv vs s r){i:X}(hi:i<s.R.length):∃g cp b,r.dv=J (p_ g) s.R.length cp/\w.cell? ⟨g,i,N⟩=M (F b)/\(b=true->NoH ss ts C.n ms (qx s.R i).looks)/\∀j,w.frozen? ⟨g,j,N⟩=false:=by
 obtain⟨ys,d1,d2⟩:=q.rs.df;obtain⟨a,cap,e⟩:=Ax d1;have hl:=d1.1;rw[List.length_map]at hl;have hy:i<ys.length:=qb;rw[e]at d1;obtain⟨g,rfl,hc⟩:=Cv (j:=i) (u:=F ys[i]) d1 (by rw[List.getElem?_map,Jr hy];rfl);obtain⟨_,cs,hh⟩:=Dv d1 (b:=g) rfl;exact⟨g,cap,ys[i],e,hc,λhb=>d2 i (by rw[Jr hy,hb]),λj=>fH hh j⟩
theorem BS.usAt(q:BS B h mb k C sv tv ss ts w ms mk st al av kv vs s r){i:X}(hi:i<s.R.length):∃g cp b,r.uv=J (p_ g) s.R.length cp/\w.cell? ⟨g,i,N⟩=M (F b)/\∀j,w.frozen? ⟨g,j,N⟩=false:=by
 obtain⟨ys,d1⟩:=q.rs.us;obtain⟨a,cap,e⟩:=Ax d1;have hl:=d1.1;rw[List.length_map]at hl;have hy:i<ys.length:=qb;rw[e]at d1;obtain⟨g,rfl,hc⟩:=Cv (j:=i) (u:=F ys[i]) d1 (by rw[List.getElem?_map,Jr hy];rfl);obtain⟨_,cs,hh⟩:=Dv d1 (b:=g) rfl;exact⟨g,cap,ys[i],e,hc,λj=>fH hh j⟩
theorem BS.get(q:BS B h mb k C sv tv ss ts w ms mk st al av kv vs s r)(fw:Gi C.n s)(t:By):Calls prog 134 #[.pointer (p_ C.hs),S t] w λe w'=>w=w'/\∃A ok,e=H (Y #[S A,F ok])/\A=Ly C.n s.T t/\A.size<=2002:=by
 obtain⟨ta,tc,e1⟩:=Ax q.rs.tx;obtain⟨sa,sc,e2⟩:=Ax q.rs.su;obtain⟨zs,cv,lv,qr⟩:=q.rs.qs;obtain⟨ra,rc,e3⟩:=Ax qr.row;have h1:=q.rs.tx;rw[e1]at h1;have h2:=q.rs.su;rw[e2]at h2;have di:=q.rs.sh;rw[e1,e2,e3]at di;refine(get_any C.n C.hs ta ra sa tc s.R.length rc sc s.T t w di (Mw (by rw[List.length_map]) h2) (Mw rfl h1) (zo fw.1.1) fw.1.2.2).mono ?_;rintro e w' ⟨rfl,A,ok,rfl,hg⟩;obtain⟨k1,_⟩:=getA_rr fw.1.2.2 hg;exact⟨rfl,A,ok,rfl,k1,by rw[k1];exact Xs fw.1.2.1⟩
end
end Go.Proofs.YtoakjccojifagaaGreatDoor
