import Derived.Test.YtbkkjodaaijimaaGreatDoorBsR
namespace Go.Proofs.YtbkkjodaaijimaaGreatDoor
open _root_.Go.Proofs.Tryz Go.RowKit Go.Deep
open Value renaming slice->J,string->S
open Option renaming some->M,none->N
open Go renaming Value->Z,World->E
open _root_ renaming Nat->X
set_option linter.unusedVariables false
set_option maxHeartbeats 8000000
set_option maxRecDepth 100000
set_option linter.unusedSimpArgs false
variable {st:List By} {w:E} {B h:X} {a:Option Addr} {nm:By} {nv:Z} {b:Hm}
section
open Go.Deep
theorem Qb{s x:Operand}{W:E}{ops:Array Oper}{o:Oper}{a:Act}{K:Act->E->Prop}{Q:Exit->Act->E->Prop}{AF:Prop}(ri:o.guard=N)(ho:o.op=.call { callee:=.builtin .append,args:=#[s,x],argTypes:=#[22,22] })(B:X)(sa:Option Addr)(nn cap:X)(xs:List Z)(hs:a.eval s=J sa nn cap)(ah:W.ownsRow B 9 1 (J sa nn cap) nn xs)(d:X)(t:By)(hx:a.eval x=J (p_ d) 1 1)(hc:W.heap[d]?=M (.cells #[S t] 9 (0,0)))(hB:B<=W.heap.size)(hn:nn<=100000)(h:∀g' ai w',w'.ownsRow B 9 1 (J (p_ g') (nn+1) ai) (nn+1) (xs++[S t])->W.grownBy w' (Value.slice sa nn cap).ownBlock->((Value.slice sa nn cap).ownBlock=M g'\/g'=W.heap.size)->K (a.put o.dst (J (p_ g') (nn+1) ai)) w'):if Region.wanted o (yielded ops a.tmps)=true then Oper.wp prog o a W K Q else AF:=by
 obtain⟨i0,hi,bq,bg,bv⟩:=info_parts Tryz.info9b
 refine step_append_lies (w:=W) ri s x 22 ho B 9 i0 ze 1 16 underlying22 hi bq bg bv rfl qd _ nn xs hs ah ⟨d,0,N⟩ 1 1 [S t] hx rfl
  (World.news_of_block (cs:=#[S t]) (t:=9) (fr:=(0,0)) hc) qae qb qm qb hB W.heap.size rfl ?_
 exact qfh
def Og(d:Md)(v:Z):Z:=.agg #[.bool false,I d.c,S d.t,nS,ze,v]
theorem KP.alloc1{B h mb:X}{av kv:Z}{w w8:E}{o:Obj}(hk:KP B h mb av kv (w.alloc o) w8)(hB:B<=w.heap.size):KP B h mb av kv w w8:=(KP.old (Ai _ _) hB).trans (An.refl _ _) (An.refl _ _) hk
theorem An.less{w w1:E}{v v':Z}(h:An w1 v v')(hs:w.heap.size<=w1.heap.size):An w v v':=λb q=>(h b q).imp id (λq=>qb)
end
theorem fd_at{nm:By}:∀ {ms:Mm} {i:X},i<ms.length->(mm ms i).1=nm->(∀j,j<i->(mm ms j).1≠nm)->fd ms nm=M (mm ms i).2
 | [],i,hi,_,_=>qaa
 | e::l,0,hi,h,hj=>by
   have h':e.1=nm:=h;unfold fd;rw[List.find?_cons_of_pos (by simp[h'])];rfl
 | e::l,i+1,hi,h,hj=>by
   have h0:e.1≠nm:=hj 0 qb;have hr:=fd_at (ms:=l) (i:=i) (by simpa using hi) h (λj q=>hj (j+1) qb);unfold fd at hr ⊢;rw[List.find?_cons_of_neg (by simp[h0])];exact hr
theorem fd_no{nm:By}:∀ {ms:Mm},(∀j,j<ms.length->(mm ms j).1≠nm)->fd ms nm=N
 | [],_=>rfl
 | e::l,hj=>by
   have h0:e.1≠nm:=hj 0 qg;have hr:=fd_no (ms:=l) (λj q=>hj (j+1) (by simpa using q));unfold fd at hr ⊢;rw[List.find?_cons_of_neg (by simp[h0])];exact hr
theorem Sw{i:X}(h:i<st.length):(Aq st)[i]?=M (S (nx st i)):=by
 unfold Aq nx;rw[List.getElem?_map,gG,Ix h];rfl
theorem own_pop{cap:X}(h:w.ownsRow B 9 1 (J a (st.length+1) cap) (st.length+1) (Aq (st++[nm]))):w.ownsRow B 9 1 (J a st.length cap) st.length (Aq st):=by
 refine⟨qai,?_⟩
 rcases h.2 with⟨e,h0⟩|⟨g,c,cur,e,hg,hh,h1,h2,h3,h4⟩
 ·omega
 ·cases e
  refine Or.inr ⟨g,cap,cur,rfl,hg,hh,qb,h2,h3,?_⟩;(have:(cur.toList.take ((st.length+1)*1)).take (st.length*1)=(Aq (st++[nm])).take (st.length*1):=by rw[h4]);rw[List.take_take,Nat.min_eq_left qb]at this;rw[this];simp[Aq]
theorem Fy.pop{sv tv:Z}{n:X}{ms:Mm}{s:Sb}{v:Hv}(k:Fy B h sv tv n w ms s (st++[nm]) v)(fy:B<=w.heap.size){cap:X}(e:v.kv=J a (st.length+1) cap):Fy B h sv tv n (w.setCell ⟨h,6,N⟩ (J a st.length cap)) ms s st ⟨v.tx,v.qv,v.mv,J a st.length cap,v.nv,v.ev⟩/\Cw B (Bz h v) (Bz h ⟨v.tx,v.qv,v.mv,J a st.length cap,v.nv,v.ev⟩) w (w.setCell ⟨h,6,N⟩ (J a st.length cap)):=by
 have h0:=k.stk;rw[e]at h0;have h1:w.ownsRow B 9 1 (J a (st.length+1) cap) (st.length+1) (Aq (st++[nm])):=by have:=h0;rwa [List.length_append,List.length_singleton]at this
 exact k.growK fy (own_pop h1) ⟨rfl,rfl,rfl,Nat.le_refl _,λ_ _ _=>rfl⟩ (λb q=>Or.inl (by rw[e];cases a<;>exact q))
theorem Fx.less(k:Fx B h (st++[nm]).length nv w b):Fx B h st.length nv w b:=by
 obtain⟨pre,e,hl,hk,he,d1,⟨xs,d2,d4⟩,d3⟩:=k;rw[List.length_append,List.length_singleton]at d4;exact⟨pre,e,hl,hk,he,d1,⟨xs,d2,qb⟩,d3⟩
theorem Fx.grow{m:X}{w':E}{nw:Z}{xs:List By}(hh:B<=h)(k:Fx B h (m+1) nv w b)(fy:B<=w.heap.size)(hx:w.ownsRow B 9 1 nv xs.length (Aq xs))(sd:xs.length+(m+1)<=1000)(ho:w'.ownsRow B 9 1 nw (xs.length+1) (Aq xs++[S nm]))(hg:w.grownBy w' nv.ownBlock)(pw:nw.ownBlock=nv.ownBlock\/nw.ownBlock=M w.heap.size):Fx B h m nw (w'.setCell ⟨h,7,N⟩ nw) b/\Cw B (Yo h nv) (Yo h nw) w (w'.setCell ⟨h,7,N⟩ nw):=by
 obtain⟨pre,e,hl,hk,he,d1,_,d3⟩:=k;have hne:nv.ownBlock≠M h:=Ae hx qd hk;have hb:=Br hk hg hne
 have ci:∀b,nw.ownBlock=M b->nv.ownBlock=M b\/w.heap.size<=b:=λb q=>by
  rcases pw with r|r
  ·left;rw[←r];exact q
  ·right;rw[r]at q;cases q;exact Nat.le_refl _
 have ig:=Eo hb 7 nw
 have hlist:((pre++[Value.bool true]++e).toArray).setIfInBounds 7 nw=(pre.set 7 nw++[Value.bool true]++e).toArray:=by
  rw[List.setIfInBounds_toArray,List.set_append_left _ _ qgn,List.set_append_left _ _ qb]
 rw[hlist]at ig;refine⟨⟨pre.set 7 nw,e,by rw[List.length_set];exact hl,ig,?_,by rw[List.getElem?_set_self qb],⟨xs++[nm],?_,qbp⟩,λu b' q1 q2 q3=>?_⟩,?_⟩
 ·cases b with
  | circle ch=>
    obtain⟨cv,c1,c2⟩:=he;refine⟨cv,Ao (Ok c1 hg (λb q1 q2=>d3 cv b (by rw[c2];rfl) q1 q2)) ⟨_,hb⟩ qd _,c2⟩
  | deep nm=>exact he
  | clash A B=>exact he
  | full=>exact he
 ·have:Aq (xs++[nm])=Aq xs++[S nm]:=qai
  rw[this,List.length_append,List.length_singleton];exact Ao ho ⟨_,hb⟩ qd _
 ·rcases ci b' q3 with r|r
  ·exact d3 u b' q1 q2 r
  ·cases b with
   | circle ch=>obtain⟨cv,c1,c2⟩:=he;rw[c2]at q1;cases q1;have:=(c1.lt b' q2).2;omega
   | deep nm=>rw[show e=_ from he]at q1;cases q1;cases q2
   | clash A B=>rw[show e=_ from he]at q1;cases q1;cases q2
   | full=>rw[show e=_ from he]at q1;cases q1;cases q2
 ·refine⟨((Below.refl B w).grown hg fy (λj q=>(hx.lt j q).1)).setCell (p:=⟨h,7,N⟩) hh _,λb bi hx'=>?_,λb q=>?_⟩
  ·rw[hC w' ⟨h,7,N⟩ _ b (λe=>hx' (Or.inl e)),hg.block b bi (λq=>hx' (Or.inr q.symm))]
  ·rcases q with q|q
   ·exact Or.inl (Or.inl q)
   ·rcases ci b q with r|r
    ·exact Or.inl (Or.inr r)
    ·exact Or.inr r
end Go.Proofs.YtbkkjodaaijimaaGreatDoor
