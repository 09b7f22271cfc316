import Derived.Test.YtjlnkepkkdefdaaGreatDoorVsC
import Derived.Deep.AppendLies
import Derived.Deep.RegionHeld3
import Derived.Lib.SmallJoins
namespace Go.Proofs.YtjlnkepkkdefdaaGreatDoor
set_option maxHeartbeats 4000000
set_option maxRecDepth 100000
open Go.RowKit Go.Deep
set_option linter.unusedVariables false
set_option linter.unusedSimpArgs false
def Hg (n:Nat) (s:G3):G3:=⟨s.name,s.ask,Ap n s.sum⟩
theorem Sq (n:Nat) (ls:List G3) (k:Nat) (h:k<ls.length):gx (ls.map (Hg n)) k=Hg n (gx ls k):=by
 unfold gx
 rw[gG,gG,List.getElem?_map,gQ h]
 rfl
def NoteOk (is:List I3) (ls:List G3) (n:Int) (out:ByteArray):Prop:=Ah is=true/\1<=n/\n<=8/\ls.length<=200/\out≠⟨#[]⟩/\∀ i,i<ls.length->Aq (gx ls i).name
def NoteP (is:List I3) (ls:List G3) (n:Int) (out:ByteArray) (is':List I3) (gs:List G3) (o:ByteArray):Prop:=
 (NoteOk is ls n out/\is'=is/\gs=ls.map (Hg n.toNat)/\o=Ap n.toNat out)\/(¬ NoteOk is ls n out/\is'=[]/\gs=[]/\o=⟨#[]⟩)
def Tg (B:Nat) (w:World) (v1 v2:Value) (is:List I3) (gs:List G3):Prop:=
 ∃ xs ys,w.ownsRow B 106 3 v1 is.length xs/\Fw is is.length xs/\w.ownsRow B 85 3 v2 gs.length ys/\Fe gs gs.length ys
def NoteOut (B:Nat) (w:World) (e:Ending) (is:List I3) (gs:List G3) (o:ByteArray):Prop:=∃ v1 v2,e=.returned (.agg #[v1,v2,.string o])/\Tg B w v1 v2 is gs
theorem Qr (B:Nat) (w:World):Tg B w (.slice none 0 0) (.slice none 0 0) [] []:=⟨[],[],World.ownsRow_nil w B 106 3,fun i hi=>by simp at hi,World.ownsRow_nil w B 85 3,fun i hi=>by simp at hi⟩
theorem Zt {gs:List G3} {k:Nat} {ys:List Value} (h:Fe gs k ys) (hl:ys.length=k*3):Fe gs (k+1) (ys++[.string (gx gs k).name,.bool (gx gs k).ask,.string (gx gs k).sum]):=by
 intro i hi
 rcases Nat.lt_or_ge i k with hk|hk
 ·obtain⟨h1,h2,h3⟩:=h i hk;rw[List.getElem?_append_left (by omega),List.getElem?_append_left (by omega),List.getElem?_append_left (by omega)];exact⟨h1,h2,h3⟩
 ·obtain rfl:i=k:=by omega
  rw[List.getElem?_append_right (by omega),List.getElem?_append_right (by omega),List.getElem?_append_right (by omega),hl,Nat.sub_self,show i*3+1-i*3=1 by omega,show i*3+2-i*3=2 by omega];exact⟨rfl,rfl,rfl⟩
theorem Tryz.info131b:(Tryz.prog.info? 85).map (fun i=>(i.zero,i.size,i.bytes))=some (some (.agg #[.string ⟨#[]⟩,.bool false,.string ⟨#[]⟩]),3,40):=by kernel_rfl
theorem Kb {w:World} {b:Nat} {o:Obj} (h:w.heap[b]?=some o):b<w.heap.size:=by
 rcases Nat.lt_or_ge b w.heap.size with h'|h'
 ·exact h'
 ·rw[Array.getElem?_eq_none h'] at h;cases h
theorem Qf (w:World) (o:Obj):(w.alloc o).heap[w.heap.size]?=some o:=by unfold World.alloc;simp
theorem step_appG {s x:Operand} {W:World} {ops:Array Oper} {o:Oper} {a:Act} {K:Act->World->Prop} {Q:Exit->Act->World->Prop} {E:Prop} (hgd:o.guard=none)
  (ho:o.op=.call { callee:=.builtin .append,args:=#[s,x],argTypes:=#[50,50] }) (B:Nat) (v:Value) (nn:Nat) (xs:List Value)
  (hs:a.eval s=v) (hown:W.ownsRow B 85 3 v nn xs) (d:Nat) (t:ByteArray) (q:Bool) (u:ByteArray) (hx:a.eval x=.slice (some ⟨d,0,none⟩) 1 1) (hc:W.heap[d]?=some (.cells #[.string t,.bool q,.string u] 85 (0,0))) (hB:B<=W.heap.size) (hn:nn<=200)
  (h:∀ g' cap' w',w'.ownsRow B 85 3 (.slice (some ⟨g',0,none⟩) (nn+1) cap') (nn+1) (xs++[.string t,.bool q,.string u])->W.grownBy w' v.ownBlock->K (a.put o.dst (.slice (some ⟨g',0,none⟩) (nn+1) cap')) w') :
  if Region.wanted o (yielded ops a.tmps)=true then Oper.wp Tryz.prog o a W K Q else E:=by
 obtain⟨i0,hi,hz0,hz1,hz2⟩:=info_parts Tryz.info131b
 refine step_append_lies (w:=W) hgd s x 50 ho B 85 i0 (.agg #[.string ⟨#[]⟩,.bool false,.string ⟨#[]⟩]) 3 40 Tryz.underlying50 hi hz0 hz1 hz2 rfl (by decide) _ nn xs hs hown ⟨d,0,none⟩ 1 1 [.string t,.bool q,.string u] hx rfl
  (World.news_of_block (cs:=#[.string t,.bool q,.string u]) (t:=85) (fr:=(0,0)) hc) (by intro u hu;simp at hu;rcases hu with rfl|rfl|rfl<;>rfl) (by omega) (by unfold maxLen;omega) (by omega) hB W.heap.size rfl ?_
 intro g' cap' w' h1 h2 h3 h4
 exact h g' cap' w' h1 h2
structure NS (w:World) (P:Nat) (s1 v:Value) (sm:ByteArray) (k:Nat) (gs:List G3):Prop where
 blk:w.heap[P]?=some (.cells #[s1,v,.string sm] 52 (0,0))
 own:∃ ys,w.ownsRow (P+1) 85 3 v k ys/\Fe gs k ys
theorem NS.cell {w:World} {P:Nat} {s1 v:Value} {sm:ByteArray} {k:Nat} {gs:List G3} (h:NS w P s1 v sm k gs):w.cell? ⟨P,0,none⟩=some s1/\w.cell? ⟨P,1,none⟩=some v/\w.cell? ⟨P,2,none⟩=some (.string sm):=
 ⟨by rw[cH h.blk];rfl,by rw[cH h.blk];rfl,by rw[cH h.blk];rfl⟩
theorem NS.bl {w w':World} {P:Nat} {s1 v:Value} {sm:ByteArray} {k:Nat} {gs:List G3} (h:NS w P s1 v sm k gs) (hb:Below w.heap.size w w'):NS w' P s1 v sm k gs:=by
 obtain⟨ys,h1,h2⟩:=h.own
 exact⟨by rw[hb.block P (Kb h.blk)];exact h.blk,ys,Ac h1 hb,h2⟩
theorem NS.put {W w':World} {P:Nat} {s1 v nv:Value} {sm:ByteArray} {k:Nat} {gs:List G3} {xs zs:List Value} (hb:W.heap[P]?=some (.cells #[s1,v,.string sm] 52 (0,0))) (ho:W.ownsRow (P+1) 85 3 v k xs) (hg:W.grownBy w' v.ownBlock) (hn:w'.ownsRow (P+1) 85 3 nv (k+1) zs) (hf:Fe gs (k+1) zs):NS (w'.setCell ⟨P,1,none⟩ nv) P s1 nv sm (k+1) gs:=by
 have hbk:w'.heap[P]?=some (.cells #[s1,v,.string sm] 52 (0,0)):=by
  rw[hg.block P (Kb hb) (fun e=>by have:=(ho.lt P e.symm).1;omega)];exact hb
 refine⟨?_,zs,?_,hf⟩
 ·rw[jB hbk];rfl
 ·refine⟨hn.1,?_⟩
  rcases hn.2 with h2|⟨g,cap,cur,hv,hg2,hh,r⟩
  ·exact Or.inl h2
  ·refine Or.inr ⟨g,cap,cur,hv,hg2,?_,r⟩;rw[hC w' ⟨P,1,none⟩ nv g (by intro e;simp at e;omega)];exact hh
theorem Tb {w:World} {p:Addr} {v:Value} {o:Obj} (h:w.cell? p=some v):(w.alloc o).cell? p=some v:=by rw[World.cell?_alloc_lt _ _ _ (World.block_lt_of_cell? _ _ h)];exact h
theorem Jc {w:World} {B e sz n:Nat} {v:Value} {xs:List Value} (h:w.ownsRow B e sz v n xs) {r j:Nat} (hr:∀ b,v.ownBlock=some b->b≠r) (u:Value):(w.setCell ⟨r,j,none⟩ u).ownsRow B e sz v n xs:=
 own_keep (ob:=some r) h (fun b _ hne=>hC w ⟨r,j,none⟩ u b (fun e=>hne (by rw[e]))) (fun b hb e=>hr b hb (Option.some.inj e))
theorem NS.add {W w6 w7:World} {P g' cap':Nat} {s1 v:Value} {sm:ByteArray} {k:Nat} {gs:List G3} {ys:List Value} {o:Obj} {t u:ByteArray} {q:Bool} (h:NS W P s1 v sm k gs) (hy:W.ownsRow (P+1) 85 3 v k ys) (hf:Fe gs k ys) (hb:Below W.heap.size W w6) (hg:(w6.alloc o).grownBy w7 v.ownBlock) (hn:w7.ownsRow (P+1) 85 3 (.slice (some ⟨g',0,none⟩) (k+1) cap') (k+1) (ys++[.string t,.bool q,.string u])) (hG:gx gs k=⟨t,q,u⟩) :
  NS (w7.setCell ⟨P,1,none⟩ (.slice (some ⟨g',0,none⟩) (k+1) cap')) P s1 (.slice (some ⟨g',0,none⟩) (k+1) cap') sm (k+1) gs:=by
 have h6:=h.bl hb
 have hf2:=Zt hf hy.1
 rw[hG] at hf2
 exact NS.put (by rw[Lib.alloc_old _ _ _ (Kb h6.blk)];exact h6.blk) ((Ac hy hb).alloc _) hg hn hf2
theorem Wj (a la ca:Option Addr) (ac lc cc:Nat) (is:List I3) (ls:List G3) (c:Int) (t:ByteArray) (nc:Nat) (n:Int) (out:ByteArray) (w:World) (hT:Jr w) (hr:Dr w a is) (hl:is.length<=1048576) (hx:∀ i,(ix is i).text.size<=9223372036854775807) (hls:ls.length<=1048576)
  (HF:Hd (∀(a:Option Addr) (cap:Nat) (w:World),Calls Tryz.prog 12 #[.agg #[.int .i64 c,.string t,.slice a nc cap]] w fun e w'=>e=.returned (.string out)/\Below w.heap.size w w'))
  (hbad:Ah is=false\/(Ah is=true/\(n<1\/8<n))\/(Ah is=true/\1<=n/\n<=8/\200<ls.length)\/(Ah is=true/\1<=n/\n<=8/\ls.length<=200/\out=⟨#[]⟩)) :
  Calls Tryz.prog 11 #[.agg #[.slice a is.length ac],.slice la ls.length lc,.agg #[.int .i64 c,.string t,.slice ca nc cc],.int .i64 n] w fun e w'=>Below w.heap.size w w'/\e=.returned (.agg #[.slice none 0 0,.slice none 0 0,.string ⟨#[]⟩]):=by
 have hb0:Below w.heap.size w (((w.alloc (.cells #[.slice a is.length ac] 37)).alloc (.cells #[.int .i64 c,.string t,.slice ca nc cc] 32)).alloc (.cells #[.slice none 0 0,.slice none 0 0,.string ⟨#[]⟩] 52)):=((aN _ _).alloc (by simp) _).alloc (by simp;omega) _
 go_enter Tryz.func11,Tryz.ntmps11
 go_wp2_with fail
 refine(HF.o _ _ _).mono ?_
 rintro e w1 ⟨rfl,hb1⟩
 have hB1:=bt hb0 hb1
 have p0:w1.cell? ⟨w.heap.size,0,none⟩=some (.slice a is.length ac):=Ab hb1 (by simp[go_sem])
 have k0:w1.cell? ⟨w.heap.size+1+1,0,none⟩=some (.slice none 0 0):=Ab hb1 (by simp[go_sem])
 have k1:w1.cell? ⟨w.heap.size+1+1,1,none⟩=some (.slice none 0 0):=Ab hb1 (by simp[go_sem])
 have k2:w1.cell? ⟨w.heap.size+1+1,2,none⟩=some (.string ⟨#[]⟩):=Ab hb1 (by simp[go_sem])
 have f1:∀ j,w1.frozen? ⟨w.heap.size+1+1,j,none⟩=false:=fun j=>by rw[hb1.frozen (p:=⟨w.heap.size+1+1,j,none⟩) (by simp)];simp[go_sem]
 have hz:=hb1.size
 simp at hz
 clear hb0 hb1
 go_wp2_with fail
 refine(Hx a ac is _ (hT.bl hB1) (hr.bl hB1) hl hx).mono ?_
 rintro e w2 ⟨hb2,rfl⟩
 have hB2:=bt hB1 hb2
 have q0:=Ab hb2 k0
 have q1:=Ab hb2 k1
 have q2:=Ab hb2 k2
 have f2:∀ j,w2.frozen? ⟨w.heap.size+1+1,j,none⟩=false:=fun j=>by rw[hb2.frozen (p:=⟨w.heap.size+1+1,j,none⟩) (by simp;omega),f1]
 clear hB1 p0 k0 k1 k2 f1 hb2
 have hR:w.heap.size<=w.heap.size+1+1:=by omega
 rcases hbad with h|⟨h,h2⟩|⟨h,h2,h3,h4⟩|⟨h,h2,h3,h4,rfl⟩
 all_goals
  rw[h];clear h
  go_wp2_with (first|(go_at_call 27;refine(Na n _ (by omega)).mono ?_;rintro e w9 ⟨rfl,rfl⟩)|(go_at_call 27;refine(Hb n _ (by omega) (by omega)).mono ?_;rintro e w9 ⟨rfl,rfl⟩))
  exact bR (v:=.agg #[.slice none 0 0,.slice none 0 0,.string ⟨#[]⟩]) (by simp[results,Tryz.results11,go_sem,q0,q1,q2]) rfl ⟨((hB2.setCell (p:=⟨w.heap.size+1+1,0,none⟩) hR _).setCell (p:=⟨w.heap.size+1+1,1,none⟩) hR _).setCell (p:=⟨w.heap.size+1+1,2,none⟩) hR _,rfl⟩
theorem Ue (a la ca:Option Addr) (ac lc cc:Nat) (is:List I3) (ls:List G3) (c:Int) (t:ByteArray) (nc:Nat) (n:Nat) (out:ByteArray) (w:World) (hT:Jr w) (hr:Dr w a is) (hlr:Ks w la ls) (hl:is.length<=1048576) (hx:∀ i,(ix is i).text.size<=9223372036854775807) (hls:ls.length<=200)
  (HF:Hd (∀(a:Option Addr) (cap:Nat) (w:World),Calls Tryz.prog 12 #[.agg #[.int .i64 c,.string t,.slice a nc cap]] w fun e w'=>e=.returned (.string out)/\Below w.heap.size w w'))
  (hp:Ah is=true) (h1:1<=n) (h2:n<=8) (ho:out≠⟨#[]⟩) (hos:out.size<=2002) (hsd:∀ i,i<ls.length->(gx ls i).sum.size<=1048576) (hnm:∀ i,(gx ls i).name.size<=9223372036854775807) :
  Calls Tryz.prog 11 #[.agg #[.slice a is.length ac],.slice la ls.length lc,.agg #[.int .i64 c,.string t,.slice ca nc cc],.int .i64 n] w fun e w'=>Below w.heap.size w w'/\(((∀ i,i<ls.length->Aq (gx ls i).name)/\∃ v1 v2,e=.returned (.agg #[v1,v2,.string (Ap n out)])/\Tg w.heap.size w' v1 v2 is (ls.map (Hg n)))\/((∃ i,i<ls.length/\¬ Aq (gx ls i).name)/\e=.returned (.agg #[.slice none 0 0,.slice none 0 0,.string ⟨#[]⟩]))):=by
 have hil:1<=is.length:=by
  unfold Ah at hp;simp only[Bool.and_eq_true,decide_eq_true_eq] at hp;exact hp.1.1
 have hoe:out.toList.isEmpty=false:=by
  rcases h:out.toList with _|⟨x,l⟩
  ·exfalso
   apply ho;rw[ByteArray.toList_eq] at h;exact WideShapes.bytes_inj h
  ·rfl
 have hb0:Below w.heap.size w (((w.alloc (.cells #[.slice a is.length ac] 37)).alloc (.cells #[.int .i64 c,.string t,.slice ca nc cc] 32)).alloc (.cells #[.slice none 0 0,.slice none 0 0,.string ⟨#[]⟩] 52)):=((aN _ _).alloc (by simp) _).alloc (by simp;omega) _
 go_enter Tryz.func11,Tryz.ntmps11
 go_wp2_with fail
 refine(HF.o _ _ _).mono ?_
 rintro e w1 ⟨rfl,hb1⟩
 have hB1:=bt hb0 hb1
 have p0:w1.cell? ⟨w.heap.size,0,none⟩=some (.slice a is.length ac):=Ab hb1 (by simp[go_sem])
 have kb:w1.heap[w.heap.size+1+1]?=some (.cells #[.slice none 0 0,.slice none 0 0,.string ⟨#[]⟩] 52 (0,0)):=by
  rw[hb1.block _ (by simp)];have h:=Qf ((w.alloc (.cells #[.slice a is.length ac] 37)).alloc (.cells #[.int .i64 c,.string t,.slice ca nc cc] 32)) (.cells #[.slice none 0 0,.slice none 0 0,.string ⟨#[]⟩] 52);rw[show ((w.alloc (.cells #[.slice a is.length ac] 37)).alloc (.cells #[.int .i64 c,.string t,.slice ca nc cc] 32)).heap.size=w.heap.size+1+1 from by simp] at h;exact h
 clear hb0 hb1
 go_wp2_with fail
 refine(Hx a ac is _ (hT.bl hB1) (hr.bl hB1) hl hx).mono ?_
 rintro e w2 ⟨hb2,rfl⟩
 have hB2:=bt hB1 hb2
 have q0:=Ab hb2 p0
 have kb2:w2.heap[w.heap.size+1+1]?=some (.cells #[.slice none 0 0,.slice none 0 0,.string ⟨#[]⟩] 52 (0,0)):=by rw[hb2.block _ (Kb kb)];exact kb
 have hs1:w.heap.size+1+1<w2.heap.size:=Kb kb2
 rw[hp]
 clear hB1 p0 kb hb2
 go_wp2_with (first|(go_at_call 27;refine(Hb n _ (by omega) (by omega)).mono ?_;rintro e w9 ⟨rfl,rfl⟩))
 refine(Re a ac is _ (hr.bl hB2) hil hl).mono ?_
 rintro e w3 ⟨hb3,g,cp,rfl,hown⟩
 have hB3:=bt hB2 hb3
 have kb3:w3.heap[w.heap.size+1+1]?=some (.cells #[.slice none 0 0,.slice none 0 0,.string ⟨#[]⟩] 52 (0,0)):=by rw[hb3.block _ (Kb kb2)];exact kb2
 have HO3:Hd (w3.ownsRow w2.heap.size 106 3 (.slice (some ⟨g,0,none⟩) is.length cp) is.length (Hz is)):=hown
 clear hB2 q0 kb2 hb3 hown
 go_wp2_with fail
 refine(Gv out n _ (by omega) h1 h2).mono ?_
 rintro e w4 ⟨rfl,hb4⟩
 have hB4:=bt hB3 hb4
 have kb4:w4.heap[w.heap.size+1+1]?=some (.cells #[.slice none 0 0,.slice none 0 0,.string ⟨#[]⟩] 52 (0,0)):=by rw[hb4.block _ (Kb kb3)];exact kb3
 have HO4:Hd (w4.ownsRow w2.heap.size 106 3 (.slice (some ⟨g,0,none⟩) is.length cp) is.length (Hz is)):=Ac HO3.o hb4
 clear hB3 kb3 hb4 HO3
 obtain⟨sm,esm⟩:∃ sm,Ap n out=sm:=⟨_,rfl⟩
 have ESM:Hd (Ap n out=sm):=esm
 rw[show (⟨(Hj (Bs out.data.toList) n).toArray⟩:ByteArray)=sm from esm]
 clear esm
 obtain⟨P,eP⟩:∃ P,w4.heap.size=P:=⟨_,rfl⟩
 obtain⟨w5,ew5⟩:∃ w5,w4.alloc (.cells #[.slice (some ⟨g,0,none⟩) is.length cp,.slice none 0 0,.string sm] 52)=w5:=⟨_,rfl⟩
 have hw5:w5.heap.size=P+1:=by rw[<- ew5,<- eP];simp
 have HN0:Hd (NS w5 P (.slice (some ⟨g,0,none⟩) is.length cp) (.slice none 0 0) sm 0 (ls.map (Hg n))):=by
  rw[<- ew5,<- eP];exact⟨Qf _ _,[],World.ownsRow_nil _ _ 85 3,fun i hi=>by omega⟩
 have hB5:Below w.heap.size w w5:=by rw[<- ew5];exact hB4.alloc hB4.size _
 have hwP:w.heap.size+1+1<P:=by rw[<- eP];exact Kb kb4
 have KB5:Hd (w5.heap[w.heap.size+1+1]?=some (.cells #[.slice none 0 0,.slice none 0 0,.string ⟨#[]⟩] 52 (0,0))):=by show _=_;rw[<- ew5,Lib.alloc_old _ _ _ (by omega)];exact kb4
 have HO5:Hd (w5.ownsRow w.heap.size 106 3 (.slice (some ⟨g,0,none⟩) is.length cp) is.length (Hz is)):=by show World.ownsRow _ _ _ _ _ _ _;rw[<- ew5];exact Co (HO4.o.alloc _) (by omega)
 have hgR:w.heap.size+1+1<g:=by have:=(HO4.o.lt g rfl).1;omega
 have hgP:g<P:=by rw[<- eP];exact(HO4.o.lt g rfl).2
 go_wp2
 clear ew5 eP hB4 kb4 HO4
 have HW5:Hd (w5.heap.size=P+1):=hw5
 clear hw5
 go_loopw [41] (fun i wr=>∃(k:Nat) (v:Value),k<=ls.length/\i=.int .i64 k/\Hd (NS wr P (.slice (some ⟨g,0,none⟩) is.length cp) v sm k (ls.map (Hg n)))/\Hd (∀ j,j<k->Aq (gx ls j).name)/\Below P w5 wr/\P+1<=wr.heap.size) (fun i _=>ls.length-(intOf i).toNat)
 case atStart=>exact⟨0,_,Nat.zero_le _,rfl,HN0.o,(fun j hj=>by omega:∀ j,j<0->Aq (gx ls j).name),Below.refl _ _,by rw[HW5.o];exact Nat.le_refl _⟩
 case round=>
  obtain⟨k,v,hk,rfl,HN,HA,hbr,hsz⟩:=hrel;clear HN0 HF;have hw:Below w.heap.size w wr:=hB5.trans (hbr.mono (by omega))
  by_cases hlt:k<ls.length
  ·obtain⟨b,off,rfl,c1,c2,c3⟩:=(hlr.bl hw) k hlt;have hsk:=hsd k hlt;have hnk:=hnm k;have hgk:=Sq n ls k hlt;obtain⟨s,es⟩:∃ s,gx ls k=s:=⟨_,rfl⟩;rw[es] at c1 c2 c3 hsk hnk hgk;have ES:Hd (gx ls k=s):=es;have HG:Hd (gx (ls.map (Hg n)) k=Hg n s):=hgk;clear es hgk hsd hnm hlr hr hT;have hkI:(k:Int)<(ls.length:Int):=by omega
   have hk0:(0:Int)<=(k:Int):=by omega
   by_cases hno:Aq s.name
   ·have hnb:=Dn hno;obtain⟨_,cP,_⟩:=HN.o.cell;have hPl:P<wr.heap.size:=by omega
    go_wp2_with (go_at_call 30;refine(Cy s.name _ hnk).mono ?_;rintro e w9 ⟨rfl,rfl⟩;rw[hnb])
    obtain⟨W,eW⟩:∃ W,wr.alloc (.cells #[.string s.name,.bool s.ask,.string s.sum] 45)=W:=⟨_,rfl⟩;obtain⟨q,eq⟩:∃ q,wr.heap.size=q:=⟨_,rfl⟩;(have d0:W.cell? ⟨q,0,none⟩=some (.string s.name):=by rw[<- eW,<- eq];simp[go_sem]);(have d1:W.cell? ⟨q,1,none⟩=some (.bool s.ask):=by rw[<- eW,<- eq];simp[go_sem]);(have d2:W.cell? ⟨q,2,none⟩=some (.string s.sum):=by rw[<- eW,<- eq];simp[go_sem]);(have hbW:Below wr.heap.size wr W:=by rw[<- eW];exact aN _ _);have dP:=Ab hbW cP;(have hWq:W.heap.size=q+1:=by rw[<- eW,<- eq];simp);have HQ:Hd (W.heap.size=q+1):=hWq;have HNW:Hd (NS W P (.slice (some ⟨g,0,none⟩) is.length cp) v sm k (ls.map (Hg n))):=HN.o.bl hbW;obtain⟨ys0,hy0,_⟩:=HN.o.own;(have HVQ:Hd (some q≠v.ownBlock):=fun e=>by have:=(hy0.lt q e.symm).2;omega);(have HVP:Hd (some P≠v.ownBlock):=fun e=>by have:=(hy0.lt P e.symm).1;omega);have hbP:Below P w5 W:=hbr.trans (hbW.mono (by omega));(have hPq:P<q:=by omega);rw[eW,eq];clear eW eq hbW hWq cP hbr hsz hPl hy0 HN c1 c2 c3;obtain⟨u,eu⟩:∃ u,Ap n s.sum=u:=⟨_,rfl⟩;(have HS:Hd (∀ W':World,Calls Tryz.prog 29 #[.string s.sum,.int .i64 n] W' fun e w'=>e=.returned (.string u)/\Below W'.heap.size W' w'):=fun W'=>by rw[<- eu];exact Gv s.sum n W' hsk h1 h2);have HU:Hd (Ap n s.sum=u):=eu;clear eu;obtain⟨ys,hys,hfy⟩:=HNW.o.own;have HYS:Hd (W.ownsRow (P+1) 85 3 v k ys):=hys;have HFY:Hd (Fe (ls.map (Hg n)) k ys):=hfy;clear hys hfy;(have hWq1:q+1<=W.heap.size:=by rw[HQ.o];exact Nat.le_refl _);refine Lt.begin 14 (fun w'=>w'.cell? ⟨P,1,none⟩=some v/\w'.cell? ⟨q,0,none⟩=some (.string s.name)/\w'.cell? ⟨q,1,none⟩=some (.bool s.ask)/\w'.cell? ⟨q,2,none⟩=some (.string s.sum)) (by kernel_rfl) ?_;(have hS0:W.drew.cell? ⟨P,1,none⟩=some v/\W.drew.cell? ⟨q,0,none⟩=some (.string s.name)/\W.drew.cell? ⟨q,1,none⟩=some (.bool s.ask)/\W.drew.cell? ⟨q,2,none⟩=some (.string s.sum):=by simp[*]);change K 0 _
    iterate 9
     refine Lt.ti (v:=?_) hS0 ?_ ?_;rotate_left 1
     ·intro w hSw;(try dsimp only at hSw);go_simp;first|done|with_reducible rfl
     simp only[gX]
    refine Lt.sp (i:=9) (fun K hK=>?_);go_simp;refine(HS.o _).mono ?_;rintro e w6 ⟨rfl,hb6⟩;have hb7:Below W.heap.size W w6:=(Below.drew (Below.refl _ _)).trans (hb6.mono (by simp));refine hK.out _ _ (fun _=>⟨Ab hb7 dP,Ab hb7 d0,Ab hb7 d1,Ab hb7 d2⟩) (fun hS6=>?_);replace hS6:=hS6 (by decide);clear hK K hS0 hb6;refine Lt.ti (i:=10) (v:=?_) hS6 ?_ ?_;rotate_left 1
    ·intro w hSw;(try dsimp only at hSw);go_simp;first|done|with_reducible rfl
    simp only[gX];refine Lt.sp (i:=11) (fun K hK=>?_);go_simp;refine hK.out _ _ (fun _=>⟨Tb hS6.1,Tb hS6.2.1,Tb hS6.2.2.1,Tb hS6.2.2.2⟩) (fun hS8=>?_);replace hS8:=hS8 (by decide);clear hK K hS6;refine Lt.sp (i:=12) (fun K hK=>?_);refine step_appG rfl (by rfl) (P+1) v k ys (by rfl) ((Ac HYS.o hb7).alloc _) w6.heap.size s.name s.ask u (by rfl) (Qf _ _) (by have:=hb7.size;simp;omega) (by omega) ?_;intro g' cap' w7 hown7 hgrow;have hsz6:=hb7.size;(have x0:w7.cell? ⟨P,1,none⟩=some v:=by rw[hgrow.cell_far ⟨P,1,none⟩ (by simp;omega) HVP.o];exact hS8.1);(have x1:w7.cell? ⟨q,0,none⟩=some (.string s.name):=by rw[hgrow.cell_far ⟨q,0,none⟩ (by simp;omega) HVQ.o];exact hS8.2.1);(have x2:w7.cell? ⟨q,1,none⟩=some (.bool s.ask):=by rw[hgrow.cell_far ⟨q,1,none⟩ (by simp;omega) HVQ.o];exact hS8.2.2.1);(have x3:w7.cell? ⟨q,2,none⟩=some (.string s.sum):=by rw[hgrow.cell_far ⟨q,2,none⟩ (by simp;omega) HVQ.o];exact hS8.2.2.2);have HNP:Hd (NS (w7.setCell ⟨P,1,none⟩ (.slice (some ⟨g',0,none⟩) (k+1) cap')) P (.slice (some ⟨g,0,none⟩) is.length cp) (.slice (some ⟨g',0,none⟩) (k+1) cap') sm (k+1) (ls.map (Hg n))):=NS.add HNW.o HYS.o HFY.o hb7 hgrow hown7 (by rw[HG.o];unfold Hg;rw[HU.o]);have hbP7:Below P w5 w7:=((hbP.trans (hb7.mono (by omega))).alloc (by omega) _).grown hgrow (by simp;omega) (fun m hm=>by have:=(HYS.o.lt m hm).1;omega);(have hs7:P+1<=w7.heap.size:=by have h2:=hgrow.size;simp at h2;omega);(have fz:w7.frozen? ⟨P,1,none⟩=false:=by rw[hgrow.frozen_far ⟨P,1,none⟩ (by simp;omega) HVP.o];exact fH (by rw[Lib.alloc_old _ _ _ (by omega)];exact(HNW.o.bl hb7).blk) 1);refine hK.out _ _ (fun _=>⟨x0,x1,x2,x3⟩) (fun hS9=>?_);replace hS9:=hS9 (by decide);clear hK K hS8 hgrow hown7;simp only[gX];refine Lt.ti (i:=13) (v:=?_) hS9 ?_ ?_;rotate_left 1
    ·intro w hSw;(try dsimp only at hSw);go_simp;first|done|with_reducible rfl
    simp only[gX];refine Lt.sp (i:=14) (fun K hK=>?_);go_simp;refine hK.out _ _ (fun h=>absurd rfl h) (fun _=>?_);clear hK K hS9;refine Lt.done (by kernel_rfl) ?_ _;go_wp2;go_roundw
    case rel=>exact⟨k+1,_,by omega,by go_num,HNP.o,Dc HA.o (by rw[ES.o];exact hno),hbP7.setCell (p:=⟨P,1,none⟩) (Nat.le_refl _) _,by simpa using hs7⟩
    case measure=>simp[intOf];omega
   ·have hnb:=Cq hno;(have kbr:wr.heap[w.heap.size+1+1]?=some (.cells #[.slice none 0 0,.slice none 0 0,.string ⟨#[]⟩] 52 (0,0)):=by rw[hbr.block _ hwP];exact KB5.o);have r0:∀ x,(wr.alloc x).cell? ⟨w.heap.size+1+1,0,none⟩=some (.slice none 0 0):=fun x=>Tb (by rw[cH kbr];rfl);have r1:∀ x,(wr.alloc x).cell? ⟨w.heap.size+1+1,1,none⟩=some (.slice none 0 0):=fun x=>Tb (by rw[cH kbr];rfl);have r2:∀ x,(wr.alloc x).cell? ⟨w.heap.size+1+1,2,none⟩=some (.string ⟨#[]⟩):=fun x=>Tb (by rw[cH kbr];rfl);have fr:∀ x j,(wr.alloc x).frozen? ⟨w.heap.size+1+1,j,none⟩=false:=fun x j=>fH (by rw[Lib.alloc_old _ _ _ (by omega)];exact kbr) j;(have hR:w.heap.size<=w.heap.size+1+1:=by omega);have hwA:∀ x,Below w.heap.size w (wr.alloc x):=fun x=>hw.alloc hw.size _;clear kbr hbr hw
    go_wp2_with (go_at_call 30;refine(Cy s.name _ hnk).mono ?_;rintro e w9 ⟨rfl,rfl⟩;rw[hnb])
    exact bR (v:=.agg #[.slice none 0 0,.slice none 0 0,.string ⟨#[]⟩]) (by simp[results,Tryz.results11,go_sem,r0,r1,r2]) rfl ⟨(((hwA _).setCell (p:=⟨w.heap.size+1+1,0,none⟩) hR _).setCell (p:=⟨w.heap.size+1+1,1,none⟩) hR _).setCell (p:=⟨w.heap.size+1+1,2,none⟩) hR _,Or.inr ⟨⟨k,hlt,by rw[ES.o];exact hno⟩,rfl⟩⟩
  ·have ek:k=ls.length:=by omega
   subst ek;obtain⟨c0,c1,c2⟩:=HN.o.cell;obtain⟨ys,hys,hfy⟩:=HN.o.own;have kbr:wr.heap[w.heap.size+1+1]?=some (.cells #[.slice none 0 0,.slice none 0 0,.string ⟨#[]⟩] 52 (0,0)):=by rw[hbr.block _ hwP];exact KB5.o
   have r0:wr.cell? ⟨w.heap.size+1+1,0,none⟩=some (.slice none 0 0):=by rw[cH kbr];rfl
   have r1:wr.cell? ⟨w.heap.size+1+1,1,none⟩=some (.slice none 0 0):=by rw[cH kbr];rfl
   have r2:wr.cell? ⟨w.heap.size+1+1,2,none⟩=some (.string ⟨#[]⟩):=by rw[cH kbr];rfl
   have fr:∀ j,wr.frozen? ⟨w.heap.size+1+1,j,none⟩=false:=fun j=>fH kbr j;have hR:w.heap.size<=w.heap.size+1+1:=by omega
   have o1:wr.ownsRow w.heap.size 106 3 (.slice (some ⟨g,0,none⟩) is.length cp) is.length (Hz is):=by
    refine⟨HO5.o.1,?_⟩
    rcases HO5.o.2 with ⟨h2,_⟩|⟨g',cap,cur,hv,hg,hh,r⟩
    ·cases h2
    ·cases hv;exact Or.inr ⟨g,cp,cur,rfl,hg,by rw[hbr.block g hgP];exact hh,r⟩
   have HO1:Hd (wr.ownsRow w.heap.size 106 3 (.slice (some ⟨g,0,none⟩) is.length cp) is.length (Hz is)):=o1;have HYS:Hd (wr.ownsRow w.heap.size 85 3 v ls.length ys):=Co hys (by omega);have HV:Hd (∀ b,v.ownBlock=some b->b≠w.heap.size+1+1):=fun b hb=>by have:=(hys.lt b hb).1;omega
   have HFY:Hd (Fe (ls.map (Hg n)) ls.length ys):=hfy
   obtain⟨va,vn,vc,rfl⟩:∃ va vn vc,v=.slice va vn vc:=by
    rcases Ho hys with ⟨h,_⟩|⟨g',c',h⟩
    ·exact⟨_,_,_,h⟩
    ·exact⟨_,_,_,h⟩
   clear kbr hbr o1 hys hfy HN;go_wp2;refine bR (v:=.agg #[.slice (some ⟨g,0,none⟩) is.length cp,.slice va vn vc,.string sm]) (by simp[results,Tryz.results11,go_sem,r0,r1,r2]) rfl ⟨((hw.setCell (p:=⟨w.heap.size+1+1,0,none⟩) hR _).setCell (p:=⟨w.heap.size+1+1,1,none⟩) hR _).setCell (p:=⟨w.heap.size+1+1,2,none⟩) hR _,Or.inl ⟨HA.o,_,_,by rw[ESM.o],Hz is,ys,?_,Mb is,?_,by rw[List.length_map];exact HFY.o⟩⟩
   ·(have hne:∀ b,(Value.slice (some ⟨g,0,none⟩) is.length cp).ownBlock=some b->b≠w.heap.size+1+1:=fun b hb=>by cases hb;show g≠_;omega);exact Jc (Jc (Jc HO1.o hne _) hne _) hne _
   ·rw[List.length_map];exact Jc (Jc (Jc HYS.o HV.o _) HV.o _) HV.o _
theorem Wk (a la ca:Option Addr) (ac lc cc:Nat) (is:List I3) (ls:List G3) (c:Int) (t:ByteArray) (nc:Nat) (n:Int) (out:ByteArray) (w:World) (hT:Jr w) (hr:Dr w a is) (hlr:Ks w la ls) (hl:is.length<=1048576) (hx:∀ i,(ix is i).text.size<=9223372036854775807) (hls:ls.length<=1048576)
  (HF:∀(a:Option Addr) (cap:Nat) (w:World),Calls Tryz.prog 12 #[.agg #[.int .i64 c,.string t,.slice a nc cap]] w fun e w'=>e=.returned (.string out)/\Below w.heap.size w w')
  (hos:out.size<=2002) (hsd:∀ i,i<ls.length->(gx ls i).sum.size<=1048576) (hnm:∀ i,(gx ls i).name.size<=9223372036854775807) :
  Calls Tryz.prog 11 #[.agg #[.slice a is.length ac],.slice la ls.length lc,.agg #[.int .i64 c,.string t,.slice ca nc cc],.int .i64 n] w fun e w'=>Below w.heap.size w w'/\∃ is' gs o,NoteP is ls n out is' gs o/\NoteOut w.heap.size w' e is' gs o:=by
 by_cases hg:Ah is=true/\1<=n/\n<=8/\ls.length<=200/\out≠⟨#[]⟩
 ·obtain⟨g1,g2,g3,g4,g5⟩:=hg;obtain⟨m,rfl⟩:=Int.eq_ofNat_of_zero_le (show 0<=n by omega);refine(Ue a la ca ac lc cc is ls c t nc m out w hT hr hlr hl hx g4 HF g1 (by omega) (by omega) g5 hos hsd hnm).mono ?_;rintro e w' ⟨hb,⟨hn,v1,v2,he,ho⟩|⟨⟨i,hi,hn⟩,he⟩⟩
  ·exact⟨hb,_,_,_,Or.inl ⟨⟨g1,g2,g3,g4,g5,hn⟩,rfl,rfl,rfl⟩,v1,v2,he,ho⟩
  ·exact⟨hb,_,_,_,Or.inr ⟨fun h=>hn (h.2.2.2.2.2 i hi),rfl,rfl,rfl⟩,_,_,he,Qr _ _⟩
 ·have hbad:Ah is=false\/(Ah is=true/\(n<1\/8<n))\/(Ah is=true/\1<=n/\n<=8/\200<ls.length)\/(Ah is=true/\1<=n/\n<=8/\ls.length<=200/\out=⟨#[]⟩):=by
   rcases Bool.eq_false_or_eq_true (Ah is) with h1|h1
   ·rcases Decidable.em (1<=n/\n<=8) with h2|h2
    ·rcases Nat.lt_or_ge 200 ls.length with h3|h3
     ·exact Or.inr (Or.inr (Or.inl ⟨h1,h2.1,h2.2,h3⟩))
     ·exact Or.inr (Or.inr (Or.inr ⟨h1,h2.1,h2.2,h3,Classical.byContradiction fun h4=>hg ⟨h1,h2.1,h2.2,h3,h4⟩⟩))
    ·exact Or.inr (Or.inl ⟨h1,by omega⟩)
   ·exact Or.inl h1
  refine(Wj a la ca ac lc cc is ls c t nc n out w hT hr hl hx hls HF hbad).mono ?_;rintro e w' ⟨hb,he⟩;exact⟨hb,_,_,_,Or.inr ⟨fun h=>hg ⟨h.1,h.2.1,h.2.2.1,h.2.2.2.1,h.2.2.2.2.1⟩,rfl,rfl,rfl⟩,_,_,he,Qr _ _⟩
end Go.Proofs.YtjlnkepkkdefdaaGreatDoor
