import Derived.Test.YtjlnkepkkdefdaaGreatDoorTImF
namespace Go.Proofs.YtjlnkepkkdefdaaGreatDoor
open Go.RowKit
set_option linter.unusedVariables false
set_option maxHeartbeats 8000000
set_option maxRecDepth 100000
set_option linter.unusedSimpArgs false
section
open Go.Deep
theorem step_app9 {s x:Operand} {W:World} {ops:Array Oper} {o:Oper} {a:Act} {K:Act->World->Prop} {Q:Exit->Act->World->Prop} {E:Prop} (hgd:o.guard=none)
  (ho:o.op=.call { callee:=.builtin .append,args:=#[s,x],argTypes:=#[30,30] }) (B:Nat) (sa:Option Addr) (nn cap:Nat) (xs:List Value)
  (hs:a.eval s=.slice sa nn cap) (hown:W.ownsRow B 9 1 (.slice sa nn cap) nn xs) (d:Nat) (t:ByteArray) (hx:a.eval x=.slice (some ⟨d,0,none⟩) 1 1) (hc:W.heap[d]?=some (.cells #[.string t] 9 (0,0))) (hB:B<=W.heap.size) (hn:nn<=100000)
  (h:∀ g' cap' w',w'.ownsRow B 9 1 (.slice (some ⟨g',0,none⟩) (nn+1) cap') (nn+1) (xs++[.string t])->W.grownBy w' (Value.slice sa nn cap).ownBlock->((Value.slice sa nn cap).ownBlock=some g'\/g'=W.heap.size)->K (a.put o.dst (.slice (some ⟨g',0,none⟩) (nn+1) cap')) w') :
  if Region.wanted o (yielded ops a.tmps)=true then Oper.wp Tryz.prog o a W K Q else E:=by
 obtain⟨i0,hi,hz0,hz1,hz2⟩:=info_parts Tryz.info9b
 refine step_append_lies (w:=W) hgd s x 30 ho B 9 i0 (.string ⟨#[]⟩) 1 16 Tryz.underlying30 hi hz0 hz1 hz2 rfl (by decide) _ nn xs hs hown ⟨d,0,none⟩ 1 1 [.string t] hx rfl
  (World.news_of_block (cs:=#[.string t]) (t:=9) (fr:=(0,0)) hc) (by intro u hu;simp at hu;subst hu;rfl) (by omega) (by unfold maxLen;omega) (by omega) hB W.heap.size rfl ?_
 intro g' cap' w' h1 h2 h3 h4
 exact h g' cap' w' h1 h2 h3
def Lk (d:Md) (v:Value):Value:=.agg #[.bool false,.int .i64 d.c,.string d.t,.slice none 0 0,.string ⟨#[]⟩,v]
def Te (B h mb:Nat) (sv tv fv:Value) (ss:List S2) (ts:List T2) (ms:Ms) (st:List ByteArray) (av kv:Value) (vs:ByteArray->Value) (nm:ByteArray) (w:World) (e:Ending) (w':World):Prop:=
 KP B h mb av kv w w'/\((∃ m1 mf d lv av' kv' vs',e=.returned (Lk d lv)/\Gx B h mb 1 sv tv fv w' m1 st (Eo mf) av' kv' vs'/\(∀ x,x≠nm->lk mf x=lk m1 x)/\lk mf nm=some (some d)/\Av ss ts ms st (.make nm) mf (.ok d)/\Ar w' B lv d.ls/\(∀ b,lv.ownBlock=some b->w.heap.size<=b)/\Cc w av av'/\Cc w kv kv'/\Mz w ms vs m1 vs')\/(∃ ms' a v,Av ss ts ms st (.make nm) ms' a/\e=Ty v/\Ie B w' a v))
def Vi (W0:World) (h mb:Nat) (sv tv fv:Value) (ss:List S2) (ts:List T2) (st:List ByteArray) (tn:ByteArray) (a:Option Addr) (cap:Nat) (is:List I3):Prop:=
 ∀(w:World) (ms:Ms) (av kv:Value) (vs:ByteArray->Value),Ml W0.heap.size h mb sv tv fv w ms st av kv vs->Ja ss ts ms st->phi ts ms<=-199->Below W0.heap.size W0 w→
  Calls Tryz.prog 73 #[.pointer (some ⟨h,0,none⟩),.agg #[.string tn,.slice a is.length cap]] w fun e w'=>RunI W0.heap.size h mb sv tv fv ss ts ms st av kv vs is w e w'
theorem step_run {fi xi:Nat} {W:World} {ops:Array Oper} {o:Oper} {a:Act} {K:Act->World->Prop} {Q:Exit->Act->World->Prop} {E:Prop} (hgd:o.guard=none)
  (ho:o.op=.call { callee:=.value (.tmp fi),args:=#[.tmp xi],argTypes:=#[62] }) {B h mb:Nat} {sv tv fv:Value} {ss:List S2} {ts:List T2} {ms:Ms} {st:List ByteArray} {av kv:Value} {vs:ByteArray->Value} {is:List I3} {tn:ByteArray} {p:Option Addr} {cap:Nat}
  (hf:a.eval (.tmp fi)=.func (.func 73) #[.pointer (some ⟨h,0,none⟩)] #[]) (hx:a.eval (.tmp xi)=.agg #[.string tn,.slice p is.length cap])
  (hc:Calls Tryz.prog 73 #[.pointer (some ⟨h,0,none⟩),.agg #[.string tn,.slice p is.length cap]] W fun e w'=>RunI B h mb sv tv fv ss ts ms st av kv vs is W e w')
  (hok:∀ w' m8 dc dt dls la ln lc av' kv' vs',KP B h mb av kv W w'->Av ss ts ms st (.run is [] []) m8 (.ok ⟨dc,dt,dls⟩)->Ar w' B (.slice la ln lc) dls->(∀ b,(Value.slice la ln lc).ownBlock=some b->W.heap.size<=b)->Ml B h mb sv tv fv w' m8 st av' kv' vs'->Cc W av av'->Cc W kv kv'->Mz W ms vs m8 vs'->K (a.put o.dst (.tuple #[.slice la ln lc,.agg #[.int .i64 dc,.string dt,.slice none 0 0]])) w')
  (hpan:∀ w' m8 an v,KP B h mb av kv W w'->Av ss ts ms st (.run is [] []) m8 an->Ie B w' an v->Q (.panic [{ v:=.iface 141 v,recovered:=false }]) a w') :
  if Region.wanted o (yielded ops a.tmps)=true then Oper.wp Tryz.prog o a W K Q else E:=by
 have hw:Region.wanted o (yielded ops a.tmps)=true:=by simp[Region.wanted,hgd]
 have hrun:(execOp a.eval o).run Tryz.prog W=.ok (.enter 73 #[.pointer (some ⟨h,0,none⟩),.agg #[.string tn,.slice p is.length cap]]) W:=by
  unfold execOp;rw[ho];simp[Act.eval] at hf hx;simp[go_sem,Act.eval,hf,hx]
 rw[if_pos hw]
 unfold Oper.wp
 rw[hrun,Oper.upon_enter]
 refine hc.mono ?_
 rintro e w8 ⟨hk8,m8,an,hdo,⟨⟨dc,dt,dls⟩,lv,av8,kv8,vs8,rfl,rfl,⟨hlo,hlb⟩,hs8,ha8,hkk8,hf8⟩|⟨v,rfl,hv⟩⟩
 ·obtain⟨la,ln,lc,rfl⟩:=Jj hlo;exact hok w8 m8 dc dt dls la ln lc av8 kv8 vs8 hk8 hdo hlo hlb hs8 ha8 hkk8 hf8
 ·exact hpan w8 m8 an v hk8 hdo hv
theorem alloc_kept {B h mb k:Nat} {sv tv fv:Value} {w w8:World} {ms:Ms} {st al:List ByteArray} {av kv:Value} {vs:ByteArray->Value} {o:Obj} (s:Gx B h mb k sv tv fv w ms st al av kv vs) (hk:KP B h mb av kv (w.alloc o) w8):w8.heap[w.heap.size]?=some o:=by
 obtain⟨n,_,hm⟩:=s.map
 have h1:=Af s.blk
 have h2:=hm.lt
 rw[hk.keep w.heap.size (by simp) (by omega) (by omega) (fun e=>by have:=(Hm s.ask _ e).2;omega) (fun e=>by have:=(Hm s.stk _ e).2;omega)]
 exact Aj _ _
theorem KP.alloc1 {B h mb:Nat} {av kv:Value} {w w8:World} {o:Obj} (hk:KP B h mb av kv (w.alloc o) w8) (hB:B<=w.heap.size):KP B h mb av kv w w8:=(KP.old (Ak _ _) hB).trans (Cc.refl _ _) (Cc.refl _ _) hk
theorem Cc.less {w w1:World} {v v':Value} (h:Cc w1 v v') (hs:w.heap.size<=w1.heap.size):Cc w v v':=fun b q=>(h b q).imp id (fun q=>by omega)
theorem Mz.less {w w1:World} {ms ms':Ms} {vs vs':ByteArray->Value} (h:Mz w1 ms vs ms' vs') (hs:w.heap.size<=w1.heap.size):Mz w ms vs ms' vs':=fun x d b h1 h2=>(h x d b h1 h2).imp id (fun q=>by omega)
theorem Mz.push {w:World} {ms ms':Ms} {vs vs':ByteArray->Value} {nm:ByteArray} (h:Mz w (ms++[(nm,none)]) vs ms' vs') (hk:lk ms nm=none):Mz w ms vs ms' vs':=fun x d b h1 h2=>(h x d b h1 h2).imp (fun ⟨d',q1,q2⟩=>⟨d',by
 by_cases hx:nm=x
 ·subst hx;rw[Dp hk] at q1;simp at q1
 ·rw[Bw hx] at q1;exact q1,q2⟩) id
structure RX (B h mb P R:Nat) (sv tv fv:Value) (ss:List S2) (ts:List T2) (w:World) (ms:Ms) (st:List ByteArray) (av kv:Value) (vs:ByteArray->Value) (nm:ByteArray) (is:List I3) (m8:Ms) (dc:Int) (dt:ByteArray) (dls:List G3) (lv av8:Value) (g8 cp8:Nat) (vs8:ByteArray->Value) (wx:World):Prop where
 ma:Ml B h mb sv tv fv wx m8 (st++[nm]) av8 (.slice (some ⟨g8,0,none⟩) (st.length+1) cp8) vs8
 pb:wx.heap[P]?=some (.cells #[.int .i64 dc,.string dt,.slice none 0 0] 32 (0,0))
 rb:wx.heap[R]?=some (.cells #[.bool false,.int .i64 0,.string ⟨#[]⟩,.slice none 0 0,.string ⟨#[]⟩,.slice none 0 0] 59 (0,0))
 lo:Ar wx B lv dls
 lb:∀ b,lv.ownBlock=some b->w.heap.size<=b
 kp:KP B h mb av kv w wx
 ra:Cc w av av8
 rk:Cc w kv (.slice (some ⟨g8,0,none⟩) (st.length+1) cp8)
 fr:Mz w ms vs m8 vs8
 dd:Av ss ts (ms++[(nm,none)]) (st++[nm]) (.run is [] []) m8 (.ok ⟨dc,dt,dls⟩)
theorem RX.bl {B h mb P R:Nat} {sv tv fv:Value} {ss:List S2} {ts:List T2} {w:World} {ms:Ms} {st:List ByteArray} {av kv:Value} {vs:ByteArray->Value} {nm:ByteArray} {is:List I3} {m8:Ms} {dc:Int} {dt:ByteArray} {dls:List G3} {lv av8:Value} {g8 cp8:Nat} {vs8:ByteArray->Value} {wx w':World} (r:RX B h mb P R sv tv fv ss ts w ms st av kv vs nm is m8 dc dt dls lv av8 g8 cp8 vs8 wx) (hb:Below wx.heap.size wx w') (hB:B<=wx.heap.size):RX B h mb P R sv tv fv ss ts w ms st av kv vs nm is m8 dc dt dls lv av8 g8 cp8 vs8 w':=
 ⟨r.ma.bl hb,Ag hb r.pb,Ag hb r.rb,r.lo.bl hb,r.lb,r.kp.after hb hB,r.ra,r.rk,r.fr,r.dd⟩
theorem rx_old {B h mb P R:Nat} {sv tv fv:Value} {ss:List S2} {ts:List T2} {w:World} {ms:Ms} {st:List ByteArray} {av kv:Value} {vs:ByteArray->Value} {nm:ByteArray} {is:List I3} {m8:Ms} {dc:Int} {dt:ByteArray} {dls:List G3} {lv av8:Value} {g8 cp8:Nat} {vs8:ByteArray->Value} {wx:World} {u0 u1 u2:Value} (hz:wx.heap[P]?=some (.cells #[u0,u1,u2] 32 (0,0))) (hr:wx.heap[R]?=some (.cells #[.bool false,.int .i64 0,.string ⟨#[]⟩,.slice none 0 0,.string ⟨#[]⟩,.slice none 0 0] 59 (0,0))) (s:Ml B h mb sv tv fv wx m8 (st++[nm]) av8 (.slice (some ⟨g8,0,none⟩) (st.length+1) cp8) vs8) (hne:h<P) (lo:Ar wx B lv dls) (lb:∀ b,lv.ownBlock=some b->w.heap.size<=b) (kp:KP B h mb av kv w wx) (ra:Cc w av av8) (rk:Cc w kv (.slice (some ⟨g8,0,none⟩) (st.length+1) cp8)) (fr:Mz w ms vs m8 vs8) (dd:Av ss ts (ms++[(nm,none)]) (st++[nm]) (.run is [] []) m8 (.ok ⟨dc,dt,dls⟩)) (hB:B<=P) (hw:w.heap.size<=P) :
  RX B h mb P R sv tv fv ss ts w ms st av kv vs nm is m8 dc dt dls lv av8 g8 cp8 vs8 (((wx.setCell ⟨P,0,none⟩ (.int .i64 dc)).setCell ⟨P,1,none⟩ (.string dt)).setCell ⟨P,2,none⟩ (.slice none 0 0)):=
 ⟨s.set3 hz (by decide) (by decide) (by omega) _ _ _,Cz hz _ _ _,(Ju (fun e=>by rw[e,hz] at hr;injection hr with q;injection q with _ q;exact absurd q (by decide)) _ _ _).trans hr,lo.keptB (fun b q=>Ju (fun e=>by obtain⟨xs,k1,_⟩:=lo;subst e;exact Ad k1 (by decide) hz q) _ _ _),lb,kp.set3 hB hw _ _ _,ra,rk,fr,dd⟩
theorem Ym {ms:Ms} {vs:ByteArray->Value} {nm:ByteArray} (h:lk ms nm=none) (x:ByteArray):Fz (ms++[(nm,none)]) vs x=if x=nm then some Ih else Fz ms vs x:=by
 by_cases hx:x=nm
 ·subst hx;unfold Fz;rw[Dp h];simp
 ·unfold Fz;rw[Bw (fun e=>hx e.symm)];simp[hx]
theorem Uw {ss:List S2} {ts:List T2} {ms:Ms} {st:List ByteArray} (h:Ja ss ts ms st) (hl:ts.length<=200) (hp:phi ts ms<=0):ms.length<=40001:=Ol h hl (by omega)
theorem Rz (W0:World) (h mb:Nat) (sa ta a:Option Addr) (c1 c2 cap i:Nat) (ss:List S2) (ts:List T2) (nm:ByteArray) (ms:Ms) (st:List ByteArray) (av kv:Value) (vs:ByteArray->Value) (w:World) (hE:Jt W0 sa ta ss ts)
  (s:Gx W0.heap.size h mb 2 (.slice sa ss.length c1) (.slice ta ts.length c2) (.func (.func 73) #[.pointer (some ⟨h,0,none⟩)] #[]) w ms st (Eo ms++[nm]) av kv vs) (hi:Ja ss ts ms st) (hp:phi ts ms<=0) (hW:Below W0.heap.size W0 w) (hk:lk ms nm=none) (h60:st.length<=60) (hnm:Aq nm) (hns:¬ Fi (Ai ss) nm) (hti:i<ts.length) (htn:(tx ts i).name=nm)
  (hR:st.length<60->Vi W0 h mb (.slice sa ss.length c1) (.slice ta ts.length c2) (.func (.func 73) #[.pointer (some ⟨h,0,none⟩)] #[]) ss ts (st++[nm]) nm a cap (tx ts i).code) :
  Calls Tryz.prog 127 #[.pointer (some ⟨h,0,none⟩),.agg #[.string nm,.slice a (tx ts i).code.length cap]] w fun e w'=>Te W0.heap.size h mb (.slice sa ss.length c1) (.slice ta ts.length c2) (.func (.func 73) #[.pointer (some ⟨h,0,none⟩)] #[]) ss ts ms st av kv vs nm w e w':=by
 have hB:=hW.size
 have hhw:h<w.heap.size:=Af s.blk
 have hth:Fi (Ae ts) nm:=htn▸Dv hti
 obtain⟨is,eis⟩:∃ is,(tx ts i).code=is:=⟨_,rfl⟩
 obtain⟨W,eW⟩:∃ W,((w.alloc (.cells #[.string nm,.slice a is.length cap] 62)).alloc (.cells #[.bool false,.int .i64 0,.string ⟨#[]⟩,.slice none 0 0,.string ⟨#[]⟩,.slice none 0 0] 59))=W:=⟨_,rfl⟩
 have hbW:Below w.heap.size w W:=by rw[<- eW];exact Bo (Ak _ _) (Ak _ _)
 have HTB:Hd (W.heap[w.heap.size]?=some (.cells #[.string nm,.slice a is.length cap] 62 (0,0))):=by
  show _=_;rw[<- eW,Lib.alloc_old _ _ _ (by simp)];exact Aj _ _
 have HRB:Hd (W.heap[w.heap.size+1]?=some (.cells #[.bool false,.int .i64 0,.string ⟨#[]⟩,.slice none 0 0,.string ⟨#[]⟩,.slice none 0 0] 59 (0,0))):=by
  show _=_;rw[<- eW];have h:=Aj (w.alloc (.cells #[.string nm,.slice a is.length cap] 62)) (.cells #[.bool false,.int .i64 0,.string ⟨#[]⟩,.slice none 0 0,.string ⟨#[]⟩,.slice none 0 0] 59);rw[show (w.alloc (.cells #[.string nm,.slice a is.length cap] 62)).heap.size=w.heap.size+1 from by simp] at h;exact h
 have s1:=s.bl hbW
 obtain⟨x0,x1,x2,x3,x4,x5,xf⟩:=s1.cells
 obtain⟨ka,kc,rfl⟩:∃ ka kc,kv=.slice ka st.length kc:=by
  rcases s1.stk.2 with ⟨e,h0⟩|⟨g,cap,cur,e,_⟩
  ·exact⟨none,0,by rw[e,h0]⟩
  ·exact⟨_,_,e⟩
 have t0:W.cell? ⟨w.heap.size,0,none⟩=some (.string nm):=by rw[cH HTB.o];rfl
 have t1:W.cell? ⟨w.heap.size,1,none⟩=some (.slice a is.length cap):=by rw[cH HTB.o];rfl
 have HS:Hd (Gx W0.heap.size h mb 2 (.slice sa ss.length c1) (.slice ta ts.length c2) (.func (.func 73) #[.pointer (some ⟨h,0,none⟩)] #[]) W ms st (Eo ms++[nm]) av (.slice ka st.length kc) vs):=s1
 have HK:Hd (KP W0.heap.size h mb av (.slice ka st.length kc) w W):=KP.old hbW hB
 have HF:Hd (Ja ss ts ms st/\phi ts ms<=0/\Below W0.heap.size W0 w/\lk ms nm=none/\Aq nm/\¬ Fi (Ai ss) nm/\Fi (Ae ts) nm):=⟨hi,hp,hW,hk,hnm,hns,hth⟩
 have HTI:Hd (i<ts.length/\(tx ts i).name=nm/\(tx ts i).code=is):=⟨hti,htn,eis⟩
 rw[eis] at hR ⊢
 have HR:=hR
 have HRA:Hd (st.length<60->Vi W0 h mb (.slice sa ss.length c1) (.slice ta ts.length c2) (.func (.func 73) #[.pointer (some ⟨h,0,none⟩)] #[]) ss ts (st++[nm]) nm a cap is):=HR
 have HE:Hd (Jt W0 sa ta ss ts):=hE
 clear s s1 hi hp hW hk hns hti htn hR HR hbW hE eis hth
 by_cases hd:st.length=60
 ·have hdI:((st.length:Int) == 60)=true:=by simp;omega
  have HDO:Hd (Av ss ts ms st (.make nm) (ms++[(nm,none)]) (.deep nm)):=.deep HF.o.2.2.2.1 HF.o.2.2.2.2.2.1 HF.o.2.2.2.2.2.2 (by omega);go_enter Tryz.func127,Tryz.ntmps127;go_wp2_with fail;exact⟨rfl,HK.o,Or.inr ⟨_,_,_,HDO.o,rfl,rfl⟩⟩
 ·have hdI:((st.length:Int) == 60)=false:=by simp;omega
  go_enter Tryz.func127,Tryz.ntmps127
  go_upto_region 3 with fail
  obtain⟨U,eU⟩:∃ U,W.drew=U:=⟨_,rfl⟩;have hbU:Below W.heap.size W U:=by rw[<- eU];exact(Below.refl _ _).drew
  have sU:=HS.o.bl hbU;clear x0 x1 x2 x3 x4 x5 xf;obtain⟨x0,x1,x2,x3,x4,x5,xf⟩:=sU.cells;have u0:U.cell? ⟨w.heap.size,0,none⟩=some (.string nm):=by rw[cH (Ag hbU HTB.o)];rfl
  obtain⟨n,hn,hm⟩:=sU.map;obtain⟨w2,hrun,hm2,hg2⟩:=hm.store (k:=nm) (by have:=hnm.2.1;unfold maxLen;omega) (by have:=Uw HF.o.1 HE.o.l2 HF.o.2.1;rw[List.length_append,List.length_singleton] at hn;unfold Eo at hn;rw[List.length_map] at hn;unfold maxLen;omega) Ih
  have s2:Gx W0.heap.size h mb 1 (.slice sa ss.length c1) (.slice ta ts.length c2) (.func (.func 73) #[.pointer (some ⟨h,0,none⟩)] #[]) w2 (ms++[(nm,none)]) st (Eo ms++[nm]) av (.slice ka st.length kc) vs:=(sU.le (k':=1) (by omega)).mark (by omega) hm2 hg2 (fun x=>Ym HF.o.2.2.2.1 x) (fun x d e=>by
   by_cases hx:nm=x
   ·subst hx;rw[Dp HF.o.2.2.2.1] at e;simp at e
   ·rw[Bw hx] at e;exact sU.lks x d e)
  unfold Ih at hrun;have HK2:Hd (KP W0.heap.size h mb av (.slice ka st.length kc) w w2):=((HK.o.after hbU (by have:=HK.o.bl.size;omega)).mapped HS.o.mB hg2 (by have:=HK.o.bl.size;have:=hbU.size;omega));have HS2:Hd (Gx W0.heap.size h mb 1 (.slice sa ss.length c1) (.slice ta ts.length c2) (.func (.func 73) #[.pointer (some ⟨h,0,none⟩)] #[]) w2 (ms++[(nm,none)]) st (Eo ms++[nm]) av (.slice ka st.length kc) vs):=s2;have hmlt:∀ b cs T,U.heap[b]?=some (Obj.cells cs T (0,0))->w2.heap[b]?=some (Obj.cells cs T (0,0)):=fun b cs T q=>by rw[hg2.block b (Af q) (fun e=>hm.notCells (by injection e with e;exact e▸q))];exact q
  have HTB2:Hd (w2.heap[w.heap.size]?=some (.cells #[.string nm,.slice a is.length cap] 62 (0,0))):=hmlt _ _ _ (Ag hbU HTB.o);have HRB2:Hd (w2.heap[w.heap.size+1]?=some (.cells #[.bool false,.int .i64 0,.string ⟨#[]⟩,.slice none 0 0,.string ⟨#[]⟩,.slice none 0 0] 59 (0,0))):=hmlt _ _ _ (Ag hbU HRB.o);clear hmlt hm2 hg2 s2 sU hbU hm hn t0 t1;go_region;clear eU hrun x0 x1 x2 x3 x4 x5 xf u0
  go_upto_region 4 with fail
  obtain⟨U,eU⟩:∃ U,w2.drew=U:=⟨_,rfl⟩;have hbU:Below w2.heap.size w2 U:=by rw[<- eU];exact(Below.refl _ _).drew
  have HSU:Hd (Gx W0.heap.size h mb 1 (.slice sa ss.length c1) (.slice ta ts.length c2) (.func (.func 73) #[.pointer (some ⟨h,0,none⟩)] #[]) U (ms++[(nm,none)]) st (Eo ms++[nm]) av (.slice ka st.length kc) vs):=HS2.o.bl hbU;have hsz2:=HK2.o.bl.size;have HKU:Hd (KP W0.heap.size h mb av (.slice ka st.length kc) w U):=HK2.o.after hbU (by omega);have HTU:Hd (U.heap[w.heap.size]?=some (.cells #[.string nm,.slice a is.length cap] 62 (0,0))):=Ag hbU HTB2.o;have HRU:Hd (U.heap[w.heap.size+1]?=some (.cells #[.bool false,.int .i64 0,.string ⟨#[]⟩,.slice none 0 0,.string ⟨#[]⟩,.slice none 0 0] 59 (0,0))):=Ag hbU HRB2.o;obtain⟨x0,x1,x2,x3,x4,x5,xf⟩:=HSU.o.cells;have u0:U.cell? ⟨w.heap.size,0,none⟩=some (.string nm):=by rw[cH HTU.o];rfl
  have hhu:h<U.heap.size:=Af HSU.o.blk;have hwu:w.heap.size<U.heap.size:=Af HTU.o;have HLA:Hd (∀ o:Obj,(U.alloc o).ownsRow W0.heap.size 9 1 (.slice ka st.length kc) st.length (Bf st)):=fun o=>HSU.o.stk.alloc o;clear hbU
  go_cut [32] (fun p wx=>∃ g4 cp4,p=.slice (some ⟨g4,0,none⟩) (st.length+1) cp4/\Hd (Gx W0.heap.size h mb 0 (.slice sa ss.length c1) (.slice ta ts.length c2) (.func (.func 73) #[.pointer (some ⟨h,0,none⟩)] #[]) wx (ms++[(nm,none)]) (st++[nm]) (Eo ms++[nm]) av (.slice (some ⟨g4,0,none⟩) (st.length+1) cp4) vs/\KP W0.heap.size h mb av (.slice ka st.length kc) w wx/\Cc w (.slice ka st.length kc) (.slice (some ⟨g4,0,none⟩) (st.length+1) cp4)/\wx.heap[w.heap.size]?=some (.cells #[.string nm,.slice a is.length cap] 62 (0,0))/\wx.heap[w.heap.size+1]?=some (.cells #[.bool false,.int .i64 0,.string ⟨#[]⟩,.slice none 0 0,.string ⟨#[]⟩,.slice none 0 0] 59 (0,0))))
  case first=>
   go_region_law (first|(refine step_app9 rfl rfl W0.heap.size ka st.length kc (Bf st) ?_ ?_ U.heap.size nm ?_ ?_ ?_ ?_ ?_;(focus (first|rfl|(simp[Act.eval];done)));(focus (exact HLA.o _));(focus (first|rfl|(simp[Act.eval];done)));(focus (exact Aj _ _));(focus (simp;omega));(focus omega);intro g4 cp4 w4 hown4 hgrow4 hl4;have hh4:w4.heap[h]?=some (.cells #[.slice sa ss.length c1,.slice ta ts.length c2,.map (some mb),av,.slice ka st.length kc,.func (.func 73) #[.pointer (some ⟨h,0,none⟩)] #[]] 140 (0,0)):=(by rw[hgrow4.block h (by simp;omega) (fun e=>Ad HSU.o.stk (by decide) HSU.o.blk e.symm),Lib.alloc_old _ _ _ hhu];exact HSU.o.blk);obtain⟨⟨y0,y1,y2,y3,y4,y5⟩,yf⟩:=Nu hh4;have HG4:Hd (_/\_):=⟨hown4,hgrow4⟩;have HL4:Hd (_\/_):=hl4;clear hown4 hgrow4 hl4 hh4))
   all_goals
    go_wp2_with fail;go_meet;obtain⟨p1,p2,p3⟩:=HSU.o.push (nm:=nm) HG4.o.2 HG4.o.1 (by rcases HL4.o with q|q;exact Or.inl q;exact Or.inr (by simpa using q)) (by omega);obtain⟨nU,_,hmU⟩:=HSU.o.map
    have keepU:∀ b cs T,T≠9->T≠140->U.heap[b]?=some (Obj.cells cs T (0,0))->(w4.setCell ⟨h,4,none⟩ (.slice (some ⟨g4,0,none⟩) (st.length+1) cp4)).heap[b]?=some (Obj.cells cs T (0,0)):=fun b cs T k1 k2 q=>by
     rw[p2.keep b (Af q) (fun e=>by subst e;have q2:=HSU.o.blk;rw[q] at q2;injection q2 with q2;injection q2 with _ q2;exact k2 q2) (fun e=>hmU.notCells (e▸q)) (Ad HSU.o.ask k1 q) (Ad HSU.o.stk k1 q)];exact q
    exact⟨g4,cp4,rfl,p1,HKU.o.trans (Cc.refl _ _) (Cc.refl _ _) p2,(Cc.refl _ _).trans (by omega) p3,keepU _ _ _ (by decide) (by decide) HTU.o,keepU _ _ _ (by decide) (by decide) HRU.o⟩
  case rest=>
   obtain⟨g4,cp4,rfl,HX⟩:=hcut;obtain⟨wk,rfl⟩:∃ wk,wk=wc:=⟨_,rfl⟩;clear HSU HKU HTU HRU x0 x1 x2 x3 x4 x5 xf u0 hhu hwu HLA eU
   go_upto_region 5 with fail
   obtain⟨U,eU⟩:∃ U,wk.drew=U:=⟨_,rfl⟩;have hbU:Below wk.heap.size wk U:=by rw[<- eU];exact(Below.refl _ _).drew
   have hwk:=HX.o.2.1.bl.size;have hnms:Eo ms++[nm]=Eo (ms++[(nm,(none:Option Md))]):=by simp[Eo]
   have HSU:Hd (Ml W0.heap.size h mb (.slice sa ss.length c1) (.slice ta ts.length c2) (.func (.func 73) #[.pointer (some ⟨h,0,none⟩)] #[]) U (ms++[(nm,none)]) (st++[nm]) av (.slice (some ⟨g4,0,none⟩) (st.length+1) cp4) vs):=by
    have q:=HX.o.1.bl hbU;rw[hnms] at q;exact q
   have HRUN:Hd (∀ V,Below U.heap.size U V->Calls Tryz.prog 73 #[.pointer (some ⟨h,0,none⟩),.agg #[.string nm,.slice a is.length cap]] V fun e w'=>RunI W0.heap.size h mb (.slice sa ss.length c1) (.slice ta ts.length c2) (.func (.func 73) #[.pointer (some ⟨h,0,none⟩)] #[]) ss ts (ms++[(nm,none)]) (st++[nm]) av (.slice (some ⟨g4,0,none⟩) (st.length+1) cp4) vs is V e w'):=fun V hV=>HRA.o (by omega) V _ _ _ _ (HSU.o.bl hV) (HF.o.1.push HF.o.2.2.2.1 HF.o.2.2.2.2.2.2) (by rw[Ok HF.o.2.2.2.2.2.2];have:=HF.o.2.1;omega) (HF.o.2.2.1.trans (HX.o.2.1.bl.trans ((hbU.mono (by omega)).trans (hV.mono (by have:=hbU.size;omega)))));have HTU:Hd (U.heap[w.heap.size]?=some (.cells #[.string nm,.slice a is.length cap] 62 (0,0))):=Ag hbU HX.o.2.2.2.1;have HRU:Hd (U.heap[w.heap.size+1]?=some (.cells #[.bool false,.int .i64 0,.string ⟨#[]⟩,.slice none 0 0,.string ⟨#[]⟩,.slice none 0 0] 59 (0,0))):=Ag hbU HX.o.2.2.2.2;have HKU:Hd (KP W0.heap.size h mb av (.slice ka st.length kc) w U/\Cc w (.slice ka st.length kc) (.slice (some ⟨g4,0,none⟩) (st.length+1) cp4)):=⟨HX.o.2.1.after hbU (by omega),HX.o.2.2.1⟩;obtain⟨x0,x1,x2,x3,x4,x5,xf⟩:=HSU.o.cells;have u0:U.cell? ⟨w.heap.size,0,none⟩=some (.string nm):=by rw[cH HTU.o];rfl
   have u1:U.cell? ⟨w.heap.size,1,none⟩=some (.slice a is.length cap):=by rw[cH HTU.o];rfl
   have hhu:h<U.heap.size:=Af HSU.o.blk;have hwu:w.heap.size<U.heap.size:=Af HTU.o;clear hbU HX
   go_cut [5,6] (fun p q wx=>∃(P:Nat) (la:Option Addr) (ln lc:Nat) (dc:Int) (dt:ByteArray) (dls:List G3) (m8:Ms) (av8:Value) (g8 cp8:Nat) (vs8:ByteArray->Value),p=.slice la ln lc/\q=.pointer (some ⟨P,0,none⟩)/\Hd (RX W0.heap.size h mb P (w.heap.size+1) (.slice sa ss.length c1) (.slice ta ts.length c2) (.func (.func 73) #[.pointer (some ⟨h,0,none⟩)] #[]) ss ts w ms st av (.slice ka st.length kc) vs nm is m8 dc dt dls (.slice la ln lc) av8 g8 cp8 vs8 wx))
   case first=>
    go_region_law (first|(refine step_run rfl rfl ?_ ?_ (HRUN.o _ ?_) ?_ ?_;(focus (first|rfl|(simp[Act.eval];done)));(focus (first|rfl|(simp[Act.eval];done)));(focus (first|with_reducible exact Below.refl _ _|exact Ak _ _));rotate_left;(focus (intro w8 m8 an v hk8 hdo hv;have HPK:Hd (KP W0.heap.size h mb av (.slice (some ⟨g4,0,none⟩) (st.length+1) cp4) U w8):=(by show KP _ _ _ _ _ _ _;first|with_reducible exact hk8|exact hk8.alloc1 (by omega));have HDV:Hd (Av ss ts (ms++[(nm,none)]) (st++[nm]) (.run is [] []) m8 an/\Ie W0.heap.size w8 an v):=⟨hdo,hv⟩;clear hk8 hdo hv;go_wp2_with fail;exact⟨rfl,HKU.o.1.trans (Cc.refl _ _) HKU.o.2 HPK.o,Or.inr ⟨m8,an,v,.fell HF.o.2.2.2.1 HF.o.2.2.2.2.2.1 HTI.o.1 HTI.o.2.1 (by omega) (by rw[HTI.o.2.2];exact HDV.o.1) HDV.o.2.stop,rfl,HDV.o.2⟩⟩));intro w8 m8 dc dt dls la ln lc av8 kv8 vs8 hk8 hdo hlo hlb hs8 ha8 hkk8 hf8;have HPK:Hd (KP W0.heap.size h mb av (.slice (some ⟨g4,0,none⟩) (st.length+1) cp4) U w8):=(by show KP _ _ _ _ _ _ _;first|with_reducible exact hk8|exact hk8.alloc1 (by omega));have HLB:Hd (∀ b,(Value.slice la ln lc).ownBlock=some b->U.heap.size<=b):=(by show ∀ b,_->_<=_;first|with_reducible exact hlb|exact(fun b q=>by have:=hlb b q;simp at this;omega));have HA8:Hd (Cc U av av8):=(by show Cc _ _ _;first|with_reducible exact ha8|exact ha8.less (by simp));have HK8:Hd (Cc U (.slice (some ⟨g4,0,none⟩) (st.length+1) cp4) kv8):=(by show Cc _ _ _;first|with_reducible exact hkk8|exact hkk8.less (by simp));have HF8:Hd (Mz U (ms++[(nm,none)]) vs m8 vs8):=(by show Mz _ _ _ _ _;first|with_reducible exact hf8|exact hf8.less (by simp));have HDO:Hd (Av ss ts (ms++[(nm,none)]) (st++[nm]) (.run is [] []) m8 (.ok ⟨dc,dt,dls⟩)):=hdo;have HLO:Hd (Ar w8 W0.heap.size (.slice la ln lc) dls):=hlo;have HS8:Hd (Ml W0.heap.size h mb (.slice sa ss.length c1) (.slice ta ts.length c2) (.func (.func 73) #[.pointer (some ⟨h,0,none⟩)] #[]) w8 m8 (st++[nm]) av8 kv8 vs8):=hs8;(first|(have z8:=alloc_kept HSU.o hk8;obtain⟨k0,k1,k2,kf⟩:=Gi z8;have HZ8:Hd (w8.heap[U.heap.size]?=some (.cells #[.int .i64 0,.string ⟨#[]⟩,.slice none 0 0] 32 (0,0))):=z8;clear z8)|skip);clear hk8 hdo hlo hlb hs8 ha8 hkk8 hf8))
    all_goals
     go_wp2_with fail;go_meet
     obtain⟨g8,cp8,rfl⟩:∃ g cp,kv8=.slice (some ⟨g,0,none⟩) (st.length+1) cp:=by
      have q:=HS8.o.stk;rw[List.length_append,List.length_singleton] at q
      rcases q.2 with ⟨_,h0⟩|⟨g,cp,cur,e,_⟩
      ·omega
      ·exact⟨g,cp,e⟩
     obtain⟨nU,_,hmU⟩:=HSU.o.map;have hsU:=HPK.o.bl.size
     have hR8:w8.heap[w.heap.size+1]?=some (.cells #[.bool false,.int .i64 0,.string ⟨#[]⟩,.slice none 0 0,.string ⟨#[]⟩,.slice none 0 0] 59 (0,0)):=by
      rw[HPK.o.keep _ (Af HRU.o) (by omega) (fun e=>hmU.notCells (e▸HRU.o)) (Ad HSU.o.ask (by decide) HRU.o) (Ad HSU.o.stk (by decide) HRU.o)];exact HRU.o
     have hkp:=HKU.o.1.trans (Cc.refl _ _) HKU.o.2 HPK.o;have hrk:=HKU.o.2.trans (by omega) HK8.o;have hfr:=(HF8.o.push HF.o.2.2.2.1).less (w:=w) (by omega);(have hlb:∀ b,(Value.slice la ln lc).ownBlock=some b->w.heap.size<=b:=fun b q=>by have:=HLB.o b q;omega);have rn:Hd (RX W0.heap.size h mb w8.heap.size (w.heap.size+1) (.slice sa ss.length c1) (.slice ta ts.length c2) (.func (.func 73) #[.pointer (some ⟨h,0,none⟩)] #[]) ss ts w ms st av (.slice ka st.length kc) vs nm is m8 dc dt dls (.slice la ln lc) av8 g8 cp8 vs8 (w8.alloc (.cells #[.int .i64 dc,.string dt,.slice none 0 0] 32))):=⟨HS8.o.bl (Ak _ _),Aj _ _,Ag (Ak _ _) hR8,HLO.o.bl (Ak _ _),hlb,hkp.after (Ak _ _) (by omega),HA8.o.less (by omega),hrk,hfr,HDO.o⟩
     first
      | (with_reducible exact⟨w8.heap.size,la,ln,lc,dc,dt,dls,m8,av8,g8,cp8,vs8,rfl,rfl,rn⟩;done)
      | (have ro:Hd (RX W0.heap.size h mb U.heap.size (w.heap.size+1) (.slice sa ss.length c1) (.slice ta ts.length c2) (.func (.func 73) #[.pointer (some ⟨h,0,none⟩)] #[]) ss ts w ms st av (.slice ka st.length kc) vs nm is m8 dc dt dls (.slice la ln lc) av8 g8 cp8 vs8 (((w8.setCell ⟨U.heap.size,0,none⟩ (.int .i64 dc)).setCell ⟨U.heap.size,1,none⟩ (.string dt)).setCell ⟨U.heap.size,2,none⟩ (.slice none 0 0))):=rx_old HZ8.o hR8 HS8.o hhu HLO.o hlb hkp (HA8.o.less (by omega)) hrk hfr HDO.o (by omega) (by omega);with_reducible exact⟨U.heap.size,la,ln,lc,dc,dt,dls,m8,av8,g8,cp8,vs8,rfl,rfl,ro⟩)
   case rest=>
    obtain⟨P,la,ln,lc,dc,dt,dls,m8,av8,g8,cp8,vs8,rfl,rfl,HX⟩:=hcut;obtain⟨wj,rfl⟩:∃ wj,wj=wc:=⟨_,rfl⟩;clear HSU HKU HTU HRU x0 x1 x2 x3 x4 x5 xf u0 u1 hhu hwu HRUN eU
    go_upto_region 6 with fail
    obtain⟨U,eU⟩:∃ U,wj.drew=U:=⟨_,rfl⟩;(have hbU:Below wj.heap.size wj U:=by rw[<- eU];exact(Below.refl _ _).drew);have hwj:=HX.o.kp.bl.size;have HXU:Hd (RX W0.heap.size h mb P (w.heap.size+1) (.slice sa ss.length c1) (.slice ta ts.length c2) (.func (.func 73) #[.pointer (some ⟨h,0,none⟩)] #[]) ss ts w ms st av (.slice ka st.length kc) vs nm is m8 dc dt dls (.slice la ln lc) av8 g8 cp8 vs8 U):=HX.o.bl hbU (by omega);obtain⟨x0,x1,x2,x3,x4,x5,xf⟩:=HXU.o.ma.cells
    have hcp:st.length<=cp8:=by
     have q:=HXU.o.ma.stk;rw[List.length_append,List.length_singleton] at q
     rcases q.2 with ⟨e,_⟩|⟨g,cp,cur,e,_,_,r,_⟩
     ·simp at e
     ·simp only[Value.slice.injEq] at e;omega
    clear hbU HX;go_region;clear eU x0 x1 x2 x3 x4 x5 xf;have hx:=HXU.o;have hs:=hx.ma.pop
    have hPh:P≠h:=fun e=>by
     have q:=hx.pb;rw[e,hx.ma.blk] at q;injection q with q;injection q with _ q;exact absurd q (by decide)
    (have hpb:(U.setCell ⟨h,4,none⟩ (.slice (some ⟨g8,0,none⟩) st.length cp8)).heap[P]?=some (.cells #[.int .i64 dc,.string dt,.slice none 0 0] 32 (0,0)):=by rw[hC U ⟨h,4,none⟩ _ P hPh];exact hx.pb);(have hrb:(U.setCell ⟨h,4,none⟩ (.slice (some ⟨g8,0,none⟩) st.length cp8)).heap[w.heap.size+1]?=some (.cells #[.bool false,.int .i64 0,.string ⟨#[]⟩,.slice none 0 0,.string ⟨#[]⟩,.slice none 0 0] 59 (0,0)):=by rw[hC U ⟨h,4,none⟩ _ _ (show w.heap.size+1≠h by omega)];exact hx.rb);obtain⟨Y,eY⟩:∃ Y,U.setCell ⟨h,4,none⟩ (.slice (some ⟨g8,0,none⟩) st.length cp8)=Y:=⟨_,rfl⟩
    have hlo:Ar Y W0.heap.size (.slice la ln lc) dls:=by
     rw[<- eY]
     exact hx.lo.keptB (fun b q=>hC U ⟨h,4,none⟩ _ b (fun e=>by
      obtain⟨xs,k1,_⟩:=hx.lo;have e2:b=h:=e;subst e2;exact Ad k1 (by decide) hx.ma.blk q))
    (have hkp:KP W0.heap.size h mb av (.slice ka st.length kc) w Y:=by rw[<- eY];exact hx.kp.setH hx.ma.hB);rw[eY] at hs hpb hrb ⊢;have HSY:Hd (Gx W0.heap.size h mb 1 (.slice sa ss.length c1) (.slice ta ts.length c2) (.func (.func 73) #[.pointer (some ⟨h,0,none⟩)] #[]) Y m8 st (Eo m8) av8 (.slice (some ⟨g8,0,none⟩) st.length cp8) vs8):=hs;have HPY:Hd (Y.heap[P]?=some (.cells #[.int .i64 dc,.string dt,.slice none 0 0] 32 (0,0))):=hpb;have HRY:Hd (Y.heap[w.heap.size+1]?=some (.cells #[.bool false,.int .i64 0,.string ⟨#[]⟩,.slice none 0 0,.string ⟨#[]⟩,.slice none 0 0] 59 (0,0))):=hrb;have HLY:Hd (Ar Y W0.heap.size (.slice la ln lc) dls/\KP W0.heap.size h mb av (.slice ka st.length kc) w Y):=⟨hlo,hkp⟩;obtain⟨b0,b1,b2,bf⟩:=Gi hpb;obtain⟨⟨z0,z1,z2,z3,z4,z5⟩,zf⟩:=Nu hrb;clear hx hs hpb hrb hlo hkp eY hPh;go_wp2_with fail;have hx:=HXU.o;obtain⟨⟨v0,v1,v2,v3,v4,v5⟩,_⟩:=Nu (Fq HRY.o (.bool false) (.int .i64 dc) (.string dt) (.slice none 0 0) (.string ⟨#[]⟩) (.slice la ln lc))
    have hlk:lk m8 nm=some none:=by
     have hin:=Av.inv HE.o.v hx.dd (HF.o.1.push HF.o.2.2.2.1 HF.o.2.2.2.2.2.2) ⟨by rw[<- HTI.o.2.2];exact HE.o.v.pr i HTI.o.1,fun i hi=>by simp at hi,rfl⟩ (by simp) _ rfl;exact(hin.1.being nm).mpr (by simp)
    have hs6:=HSY.o.set6 HRY.o (by omega) (.bool false) (.int .i64 dc) (.string dt) (.slice none 0 0) (.string ⟨#[]⟩) (.slice la ln lc);rw[<- Mo m8 nm ⟨dc,dt,dls⟩] at hs6;exact bR (v:=Lk ⟨dc,dt,dls⟩ (.slice la ln lc)) (by simp[results,Tryz.results127,go_sem,Lk,v0,v1,v2,v3,v4,v5]) rfl ⟨HLY.o.2.set6 (by omega) (by omega) _ _ _ _ _ _,Or.inl ⟨m8,Fx m8 nm ⟨dc,dt,dls⟩,⟨dc,dt,dls⟩,.slice la ln lc,av8,_,vs8,rfl,hs6,fun x hxn=>Ft (fun e=>hxn e.symm),Gp hlk,.made HF.o.2.2.2.1 HF.o.2.2.2.2.2.1 HTI.o.1 HTI.o.2.1 (by omega) (by rw[HTI.o.2.2];exact hx.dd),HLY.o.1.keptB (fun b q=>Dl (fun e=>by obtain⟨xs,k1,_⟩:=HLY.o.1;subst e;exact Ad k1 (by decide) HRY.o q) _ _ _ _ _ _),hx.lb,hx.ra,fun b q=>hx.rk b (by simpa [Value.ownBlock] using q),hx.fr⟩⟩
end
end Go.Proofs.YtjlnkepkkdefdaaGreatDoor
