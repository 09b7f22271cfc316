import Derived.Test.YtjlnkepkkdefdaaGreatDoorTNLookS
import Derived.Deep.AppendLies
import Derived.Deep.RegionHeld3
import Derived.Deep.RegionLaw
import Derived.Laws.AppendOwnNone
namespace Go.Proofs.YtjlnkepkkdefdaaGreatDoor
open Go.RowKit
set_option linter.unusedVariables false
set_option maxHeartbeats 8000000
set_option maxRecDepth 100000
set_option linter.unusedSimpArgs false
section
open Go.Deep
theorem Qx {w w2:World} {o:Obj} {ob:Option Nat} (hgrow:(w.alloc o).drew.grownBy w2 ob) (HO:∀(b:Nat) (cs:Array Value) (T:Nat),T≠9->w.heap[b]?=some (.cells cs T (0,0))->some b≠ob):∀(b:Nat) (cs:Array Value) (T:Nat),T≠9->w.heap[b]?=some (.cells cs T (0,0))->w2.heap[b]?=some (.cells cs T (0,0)):=by
 intro b cs T hT hb
 have hl:=Af hb
 rw[hgrow.block b (by simp;omega) (HO b cs T hT hb)]
 exact(Lib.alloc_old w o b hl).trans hb
theorem Ur {x:Operand} {W:World} {ops:Array Oper} {o:Oper} {a:Act} {K:Act->World->Prop} {Q:Exit->Act->World->Prop} {E:Prop} (hgd:o.guard=none)
  (ho:o.op=.call { callee:=.value (.func 108),args:=#[x],argTypes:=#[4] }) (b:Bool) (f:ByteArray) (hf:Cw b=f) (hx:a.eval x=.bool b) (h:K (a.put o.dst (.string f)) W) :
  if Region.wanted o (yielded ops a.tmps)=true then Oper.wp Tryz.prog o a W K Q else E:=by
 have hw:Region.wanted o (yielded ops a.tmps)=true:=by simp[Region.wanted,hgd]
 have hrun:(execOp a.eval o).run Tryz.prog W=.ok (.enter 108 #[.bool b]) W:=by
  unfold execOp;rw[ho];simp[go_sem]
  cases x with
  | tmp t=>simpa [Act.eval] using hx
  | const v=>simpa [Act.eval] using hx
  | «global» g=>simp[Act.eval] at hx
  | func f=>simp[Act.eval] at hx
 rw[if_pos hw]
 unfold Oper.wp
 rw[hrun,Oper.upon_enter]
 refine(Sk b W).mono ?_
 rintro e w' ⟨rfl,rfl⟩
 rw[hf]
 exact h
theorem step_appS {s x:Operand} {W:World} {ops:Array Oper} {o:Oper} {a:Act} {K:Act->World->Prop} {Q:Exit->Act->World->Prop} {E:Prop} (hgd:o.guard=none)
  (ho:o.op=.call { callee:=.builtin .append,args:=#[s,x],argTypes:=#[30,30] }) (B:Nat) (sa:Option Addr) (nn cap:Nat) (xs:List Value)
  (hs:a.eval s=.slice sa nn cap) (hown:W.ownsRow B 9 1 (.slice sa nn cap) nn xs) (d:Nat) (tx:ByteArray) (hx:a.eval x=.slice (some ⟨d,0,none⟩) 1 1) (hc:W.cell? ⟨d,0,none⟩=some (.string tx)) (hB:B<=W.heap.size) (hn:nn<=50)
  (h:∀ g' cap' w',w'.ownsRow B 9 1 (.slice (some ⟨g',0,none⟩) (nn+1) cap') (nn+1) (xs++[.string tx])->W.grownBy w' (Value.slice sa nn cap).ownBlock->K (a.put o.dst (.slice (some ⟨g',0,none⟩) (nn+1) cap')) w') :
  if Region.wanted o (yielded ops a.tmps)=true then Oper.wp Tryz.prog o a W K Q else E:=by
 obtain⟨i0,hi,hz0,hz1,hz2⟩:=info_parts Tryz.info9b
 refine step_append_lies (w:=W) hgd s x 30 ho B 9 i0 (.string ⟨#[]⟩) 1 16 Tryz.underlying30 hi hz0 hz1 hz2 rfl (by decide) _ nn xs hs hown ⟨d,0,none⟩ 1 1 [.string tx] hx rfl
  (fun j u hu=>by
   have hj:j=0:=by rcases j with _|j;rfl;simp at hu
   subst hj;rw[Addr.add_lit,Nat.zero_add];simp at hu;subst hu;exact hc) (by intro u hu;simp at hu;subst hu;rfl) (by omega) (by unfold maxLen;omega) (by omega) hB W.heap.size rfl ?_
 intro g' cap' w' h1 h2 h3 h4
 exact h g' cap' w' h1 h2
variable (B:Nat) (o:Nat) (t:ByteArray) (n:Nat) (pl:Nat) (sa:Option Addr) (cp:Nat) (stack:List ByteArray) (st lk:Nat) (nm place:ByteArray) (ra:Option Addr) (rcap:Nat) (ys:List R3) (w:World)
theorem look_flag (hB:B<=w.heap.size) (hnm:nm.size<=2000) (hpl:pl<=201) (hst:st<=2000) (hlk:lk<=200) (hn:Aq nm) (hl:lk≠200) (hy:lk<ys.length) (hyl:ys.length<=200) (hr:Nx w ra ys) (hown:Pn B w sa cp stack) (h50:stack.length<50) :
  Calls Tryz.prog 144 #[.agg #[.int .i64 13,.string t,.int .i64 n],Ds pl (.slice sa stack.length cp) st lk,.string nm,.string place,.slice ra ys.length rcap] w fun e w'=>Below B w w'/\∃ a' cp',e=.returned (Ds pl (.slice a' (stack.length+1) cp') st ((lk:Int)+1))/\Pn B w' a' cp' (stack++[Cw (rx ys lk).has]):=by
 have hnb:=Dn hn
 have d1:((lk:Int) == 200)=false:=by simp;omega
 have hyI:(lk:Int)<(ys.length:Int):=by omega
 obtain⟨b,off,rfl,e1,e2,e3⟩:=hr lk hy
 generalize rx ys lk=y at *
 clear hr hn hl
 have hal:∀(x y z:Obj) (p:Addr) (v:Value),w.cell? p=some v->(((w.alloc x).alloc y).alloc z).cell? p=some v:=fun x y z p v h=>by
  have hb:=World.block_lt_of_cell? _ _ h;rw[World.cell?_alloc_lt _ _ _ (by simp;omega),World.cell?_alloc_lt _ _ _ (by simp;omega),World.cell?_alloc_lt _ _ _ hb];exact h
 have a1:=fun x y z=>hal x y z _ _ e1
 have a2:=fun x y z=>hal x y z _ _ e2
 have a3:=fun x y z=>hal x y z _ _ e3
 clear hal
 have hb0:Below w.heap.size w ((((w.alloc (.cells #[.int .i64 13,.string t,.int .i64 n] 106)).alloc (.cells #[.int .i64 pl,.slice sa stack.length cp,.int .i64 st,.int .i64 ((lk:Int)+1),.bool false,.int .i64 0,.string ⟨#[]⟩,.bool false,.string ⟨#[]⟩,.bool false] 193)).alloc (.cells #[.int .i64 0,.slice none 0 0,.int .i64 0,.int .i64 0,.bool false,.int .i64 0,.string ⟨#[]⟩,.bool false,.string ⟨#[]⟩,.bool false] 193)).alloc (.cells #[.bool y.has,.int .i64 y.code,.string y.text] 122)):=(((aN _ _).alloc (by simp) _).alloc (by simp;omega) _).alloc (by simp;omega) _
 have hR2:B<=w.heap.size+1+1:=by omega
 have hR1:B<=w.heap.size+1:=by omega
 have hz:=blk4 w (.cells #[.int .i64 13,.string t,.int .i64 n] 106) (.cells #[.int .i64 pl,.slice sa stack.length cp,.int .i64 st,.int .i64 ((lk:Int)+1),.bool false,.int .i64 0,.string ⟨#[]⟩,.bool false,.string ⟨#[]⟩,.bool false] 193) (.cells #[.int .i64 0,.slice none 0 0,.int .i64 0,.int .i64 0,.bool false,.int .i64 0,.string ⟨#[]⟩,.bool false,.string ⟨#[]⟩,.bool false] 193) (.cells #[.bool y.has,.int .i64 y.code,.string y.text] 122)
 have hzr:((((w.alloc (.cells #[.int .i64 13,.string t,.int .i64 n] 106)).alloc (.cells #[.int .i64 pl,.slice sa stack.length cp,.int .i64 st,.int .i64 ((lk:Int)+1),.bool false,.int .i64 0,.string ⟨#[]⟩,.bool false,.string ⟨#[]⟩,.bool false] 193)).alloc (.cells #[.int .i64 0,.slice none 0 0,.int .i64 0,.int .i64 0,.bool false,.int .i64 0,.string ⟨#[]⟩,.bool false,.string ⟨#[]⟩,.bool false] 193)).alloc (.cells #[.bool y.has,.int .i64 y.code,.string y.text] 122)).heap[w.heap.size+1+1+1]?=some (.cells #[.bool y.has,.int .i64 y.code,.string y.text] 122 (0,0)):=by
  have h:=Aj (((w.alloc (.cells #[.int .i64 13,.string t,.int .i64 n] 106)).alloc (.cells #[.int .i64 pl,.slice sa stack.length cp,.int .i64 st,.int .i64 ((lk:Int)+1),.bool false,.int .i64 0,.string ⟨#[]⟩,.bool false,.string ⟨#[]⟩,.bool false] 193)).alloc (.cells #[.int .i64 0,.slice none 0 0,.int .i64 0,.int .i64 0,.bool false,.int .i64 0,.string ⟨#[]⟩,.bool false,.string ⟨#[]⟩,.bool false] 193)) (.cells #[.bool y.has,.int .i64 y.code,.string y.text] 122);rw[show (((w.alloc (.cells #[.int .i64 13,.string t,.int .i64 n] 106)).alloc (.cells #[.int .i64 pl,.slice sa stack.length cp,.int .i64 st,.int .i64 ((lk:Int)+1),.bool false,.int .i64 0,.string ⟨#[]⟩,.bool false,.string ⟨#[]⟩,.bool false] 193)).alloc (.cells #[.int .i64 0,.slice none 0 0,.int .i64 0,.int .i64 0,.bool false,.int .i64 0,.string ⟨#[]⟩,.bool false,.string ⟨#[]⟩,.bool false] 193)).heap.size=w.heap.size+1+1+1 from by simp] at h;exact h
 obtain⟨f,ef⟩:∃ f,Cw y.has=f:=⟨_,rfl⟩
 have EF:Hd (Cw y.has=f):=ef
 clear ef
 have hown5:=((((hown.alloc (.cells #[.int .i64 13,.string t,.int .i64 n] 106)).alloc (.cells #[.int .i64 pl,.slice sa stack.length cp,.int .i64 st,.int .i64 ((lk:Int)+1),.bool false,.int .i64 0,.string ⟨#[]⟩,.bool false,.string ⟨#[]⟩,.bool false] 193)).alloc (.cells #[.int .i64 0,.slice none 0 0,.int .i64 0,.int .i64 0,.bool false,.int .i64 0,.string ⟨#[]⟩,.bool false,.string ⟨#[]⟩,.bool false] 193)).alloc (.cells #[.bool y.has,.int .i64 y.code,.string y.text] 122)).alloc (.cells #[.string f] 9)
 unfold Pn at hown
 unfold Ds
 go_enter Tryz.func144,Tryz.ntmps144
 go_wp2_with (first|(go_at_call 19;refine(Db nm _ (by omega)).mono ?_;rintro e w9 ⟨rfl,rfl⟩))
 go_region_law (first|(refine Ur rfl rfl y.has f EF.o ?_ ?_;(focus (simp[Act.eval];done)))|(refine step_appS rfl rfl B sa stack.length cp (Bf stack) ?_ ?_ (w.heap.size+1+1+1+1) f ?_ ?_ ?_ ?_ ?_;(focus (simp[Act.eval];done));(focus (exact hown5));(focus (simp[Act.eval];done));(focus (simp[go_sem];done));(focus (simp;omega));(focus omega);intro g' cap2 w2 hown' hgrow;have hq1:w2.heap[w.heap.size+1]?=some (.cells #[.int .i64 pl,.slice sa stack.length cp,.int .i64 st,.int .i64 ((lk:Int)+1),.bool false,.int .i64 0,.string ⟨#[]⟩,.bool false,.string ⟨#[]⟩,.bool false] 193 (0,0)):=(by first|exact Fl hgrow (fun b' cs' T' hT' hb'=>Hh hT' (by rw[Lib.alloc_old _ _ _ (Af hb')];exact hb') hown5) _ _ 193 (by decide) hz.2|exact Qx hgrow (fun b' cs' T' hT' hb'=>Hh hT' (by rw[Lib.alloc_old _ _ _ (Af hb')];exact hb') hown5) _ _ 193 (by decide) hz.2);have hq2:w2.heap[w.heap.size+1+1]?=some (.cells #[.int .i64 0,.slice none 0 0,.int .i64 0,.int .i64 0,.bool false,.int .i64 0,.string ⟨#[]⟩,.bool false,.string ⟨#[]⟩,.bool false] 193 (0,0)):=(by first|exact Fl hgrow (fun b' cs' T' hT' hb'=>Hh hT' (by rw[Lib.alloc_old _ _ _ (Af hb')];exact hb') hown5) _ _ 193 (by decide) hz.1|exact Qx hgrow (fun b' cs' T' hT' hb'=>Hh hT' (by rw[Lib.alloc_old _ _ _ (Af hb')];exact hb') hown5) _ _ 193 (by decide) hz.1);have hbB:Below B w w2:=(by first|exact((hb0.mono hB).drew.alloc (by simp;omega) _).grown hgrow (by simp;omega) (fun k hk=>(hown.lt k hk).1)|exact((hb0.mono hB).alloc (by simp;omega) _).drew.grown hgrow (by simp;omega) (fun k hk=>(hown.lt k hk).1));have k0:=cH hq2 0;have k1:=cH hq2 1;have k2:=cH hq2 2;have k3:=cH hq2 3;have k4:=cH hq2 4;have k5:=cH hq2 5;have k6:=cH hq2 6;have k7:=cH hq2 7;have k8:=cH hq2 8;have k9:=cH hq2 9;simp only[gA,gB,gC] at k0 k1 k2 k3 k4 k5 k6 k7 k8 k9;have m0:=cH hq1 0;have m1:=cH hq1 1;have m2:=cH hq1 2;have m3:=cH hq1 3;have m4:=cH hq1 4;have m5:=cH hq1 5;have m6:=cH hq1 6;have m7:=cH hq1 7;have m8:=cH hq1 8;have m9:=cH hq1 9;simp only[gA,gB,gC] at m0 m1 m2 m3 m4 m5 m6 m7 m8 m9;have f0:∀ j,w2.frozen? ⟨w.heap.size+1+1,j,none⟩=false:=(fun j=>fH hq2 j);have f1:∀ j,w2.frozen? ⟨w.heap.size+1,j,none⟩=false:=(fun j=>fH hq1 j);have HQ1:Hd (w2.heap[w.heap.size+1]?=some (.cells #[.int .i64 pl,.slice sa stack.length cp,.int .i64 st,.int .i64 ((lk:Int)+1),.bool false,.int .i64 0,.string ⟨#[]⟩,.bool false,.string ⟨#[]⟩,.bool false] 193 (0,0))):=hq1;have HQ2:Hd (w2.heap[w.heap.size+1+1]?=some (.cells #[.int .i64 0,.slice none 0 0,.int .i64 0,.int .i64 0,.bool false,.int .i64 0,.string ⟨#[]⟩,.bool false,.string ⟨#[]⟩,.bool false] 193 (0,0))):=hq2;have HOW:Hd (w2.ownsRow B 9 1 (.slice (some ⟨g',0,none⟩) (stack.length+1) cap2) (stack.length+1) (Bf stack++[.string f])):=hown';clear hown' hgrow a1 a2 a3))
 all_goals
  go_wp2_with fail;refine bR (v:=Ds pl (.slice (some ⟨g',0,none⟩) (stack.length+1) cap2) st ((lk:Int)+1)) (by simp[results,Tryz.results144,go_sem,Ds,k0,k1,k2,k3,k4,k5,k6,k7,k8,k9]) rfl ⟨b10 ((hbB.setCell (p:=⟨w.heap.size+1,1,none⟩) hR1 _)) hR2,_,_,rfl,?_⟩;have h1:=Eg ⟨HOW.o,_,HQ1.o⟩ 1 (.slice (some ⟨g',0,none⟩) (stack.length+1) cap2);have h2:∃ cs,(w2.setCell ⟨w.heap.size+1,1,none⟩ (.slice (some ⟨g',0,none⟩) (stack.length+1) cap2)).heap[w.heap.size+1+1]?=some (.cells cs 193 (0,0)):=⟨_,by rw[hC w2 ⟨w.heap.size+1,1,none⟩ _ _ (by simp)];exact HQ2.o⟩;have e:Bf (stack++[Cw y.has])=Bf stack++[.string f]:=by rw[EF.o];simp[Bf]
  unfold Pn;rw[e,List.length_append,List.length_singleton];exact((Eg (Eg (Eg (Eg (Eg (Eg (Eg (Eg (Eg (Eg ⟨h1.1,h2⟩ 0 _) 1 _) 2 _) 3 _) 4 _) 5 _) 6 _) 7 _) 8 _) 9 _)).1
end
def Ce (B:Nat) (is:List I3) (ys:List R3) (s:St) (w':World) (e:Ending):Prop:=
 (∃ c t n,Bk is s=.over c t n/\∃(pl:Int) (va:Option Addr) (vn vc:Nat) (lk:Int),e=.returned (Ct pl (.slice va vn vc) n lk c t))∨
 (∃ s',Bk is s=.go s'/\∃ a' cp',e=.returned (Ds s'.pl (.slice a' s'.stack.length cp') s'.steps s'.looks)/\Pn B w' a' cp' s'.stack)∨
 (∃ ask nm s',Bk is s=.look ask nm s'/\ys.length<=s.looks/\∃(pl:Int) (va:Option Addr) (vn vc:Nat) (lk:Int),e=.returned (waitV pl (.slice va vn vc) s'.steps lk ask nm))∨
 (∃ ask nm s' s'',Bk is s=.look ask nm s'/\s.looks<ys.length/\Dy ask nm (rx ys s.looks) s'=.go s''/\∃ a' cp',e=.returned (Ds s''.pl (.slice a' s''.stack.length cp') s''.steps s''.looks)/\Pn B w' a' cp' s''.stack)∨
 (∃ ask nm s' c t n,Bk is s=.look ask nm s'/\s.looks<ys.length/\Dy ask nm (rx ys s.looks) s'=.over c t n/\∃(pl:Int) (va:Option Addr) (vn vc:Nat) (lk:Int),e=.returned (Ct pl (.slice va vn vc) n lk c t))
theorem Xk (a:Option Addr) (cap:Nat) (is:List I3) (s:St) (sa:Option Addr) (cp:Nat) (ra:Option Addr) (rcap:Nat) (ys:List R3) (w:World) (hv:Ah is=true) (hs:Ec is s) (hpl:¬ s.pl<is.length) :
  Calls Tryz.prog 128 #[.agg #[.slice a is.length cap],Ds s.pl (.slice sa s.stack.length cp) s.steps s.looks,.slice ra ys.length rcap] w fun e w'=>Below w.heap.size w w'/\Ce w.heap.size is ys s w' e:=by
 have HST:Hd (Bk is s=.over 2 (Dx s.pl) s.steps):=Kk hpl
 have hplI:(is.length:Int)<=(s.pl:Int):=by omega
 have hlen:=Ed hv
 have hp200:=hs.pl
 have hst:=hs.steps
 have hlk:=hs.looks
 have hln:=hs.len
 obtain⟨hb0,hz,hr,hc⟩:=op3 w a is.length cap s.pl (.slice sa s.stack.length cp) s.steps s.looks
 have hR2:w.heap.size<=w.heap.size+1+1:=by omega
 have hR1:w.heap.size<=w.heap.size+1:=by omega
 obtain⟨q,eq⟩:∃ q,Dx s.pl=q:=⟨_,rfl⟩
 have EQ:Hd (Dx s.pl=q):=eq
 have HD:Hd _:=dcH eq (by omega)
 clear eq
 unfold Ds
 go_enter Tryz.func128,Tryz.ntmps128
 go_wp2_with fail
 refine(HD.o _).mono ?_
 rintro e w1 ⟨rfl,hb1⟩
 have hB1:Below w.heap.size w w1:=bN hb0 hb1
 have hz1:=Nt hb1 hz
 have hr1:=Nt hb1 hr
 have hc1:=Nt hb1 hc
 have x0:w1.cell? ⟨w.heap.size,0,none⟩=some (.slice a is.length cap):=by rw[cH hc1];rfl
 have r0:=cH hr1 0
 have r1:=cH hr1 1
 have r2:=cH hr1 2
 have r3:=cH hr1 3
 have r4:=cH hr1 4
 have r5:=cH hr1 5
 have r6:=cH hr1 6
 have r7:=cH hr1 7
 have r8:=cH hr1 8
 have r9:=cH hr1 9
 simp only[gA,gB,gC] at r0 r1 r2 r3 r4 r5 r6 r7 r8 r9
 have fr:∀ j,w1.frozen? ⟨w.heap.size+1,j,none⟩=false:=fun j=>fH hr1 j
 clear hz hr hc hb0 hb1 HD
 rw[EQ.o] at HST
 go_wp2_with fail
 have hl:=Ew s.pl sa s.stack.length cp s.steps s.looks 2 q
 unfold Ds at hl
 refine(hl _).mono ?_
 rintro e w2 ⟨rfl,hb2⟩
 have hB2:Below w.heap.size w w2:=bN hB1 hb2
 have hz2:=Nt hb2 hz1
 have z0:=cH hz2 0
 have z1:=cH hz2 1
 have z2:=cH hz2 2
 have z3:=cH hz2 3
 have z4:=cH hz2 4
 have z5:=cH hz2 5
 have z6:=cH hz2 6
 have z7:=cH hz2 7
 have z8:=cH hz2 8
 have z9:=cH hz2 9
 simp only[gA,gB,gC] at z0 z1 z2 z3 z4 z5 z6 z7 z8 z9
 have fz:∀ j,w2.frozen? ⟨w.heap.size+1+1,j,none⟩=false:=fun j=>fH hz2 j
 clear hz2 hb2 hl
 unfold Ct
 go_wp2_with fail
 exact bR (v:=Ct s.pl (.slice sa s.stack.length cp) s.steps s.looks 2 q) (by simp[results,Tryz.results128,go_sem,Ct,z0,z1,z2,z3,z4,z5,z6,z7,z8,z9]) rfl ⟨b10 (hB2) hR2,Or.inl ⟨2,q,s.steps,HST.o,_,_,_,_,_,rfl⟩⟩
theorem step_spent (a:Option Addr) (cap:Nat) (is:List I3) (s:St) (sa:Option Addr) (cp:Nat) (ra:Option Addr) (rcap:Nat) (ys:List R3) (w:World) (hv:Ah is=true) (hs:Ec is s) (hpl:s.pl<is.length) (hst2:s.steps=2000) :
  Calls Tryz.prog 128 #[.agg #[.slice a is.length cap],Ds s.pl (.slice sa s.stack.length cp) s.steps s.looks,.slice ra ys.length rcap] w fun e w'=>Below w.heap.size w w'/\Ce w.heap.size is ys s w' e:=by
 have HST:Hd (Bk is s=.over 3 ⟨#[]⟩ s.steps):=Je hpl hst2
 have hplI:(s.pl:Int)<(is.length:Int):=by omega
 have hst3:((s.steps:Int) == 2000)=true:=by simp;omega
 clear hst2
 have hlen:=Ed hv
 have hp200:=hs.pl
 have hst:=hs.steps
 have hlk:=hs.looks
 have hln:=hs.len
 obtain⟨hb0,hz,hr,hc⟩:=op3 w a is.length cap s.pl (.slice sa s.stack.length cp) s.steps s.looks
 have hR2:w.heap.size<=w.heap.size+1+1:=by omega
 have hR1:w.heap.size<=w.heap.size+1:=by omega
 obtain⟨q,eq⟩:∃ q,Dx s.pl=q:=⟨_,rfl⟩
 have EQ:Hd (Dx s.pl=q):=eq
 have HD:Hd _:=dcH eq (by omega)
 clear eq
 unfold Ds
 go_enter Tryz.func128,Tryz.ntmps128
 go_wp2_with fail
 refine(HD.o _).mono ?_
 rintro e w1 ⟨rfl,hb1⟩
 have hB1:Below w.heap.size w w1:=bN hb0 hb1
 have hz1:=Nt hb1 hz
 have hr1:=Nt hb1 hr
 have hc1:=Nt hb1 hc
 have x0:w1.cell? ⟨w.heap.size,0,none⟩=some (.slice a is.length cap):=by rw[cH hc1];rfl
 have r0:=cH hr1 0
 have r1:=cH hr1 1
 have r2:=cH hr1 2
 have r3:=cH hr1 3
 have r4:=cH hr1 4
 have r5:=cH hr1 5
 have r6:=cH hr1 6
 have r7:=cH hr1 7
 have r8:=cH hr1 8
 have r9:=cH hr1 9
 simp only[gA,gB,gC] at r0 r1 r2 r3 r4 r5 r6 r7 r8 r9
 have fr:∀ j,w1.frozen? ⟨w.heap.size+1,j,none⟩=false:=fun j=>fH hr1 j
 clear hz hr hc hb0 hb1 HD
 go_wp2_with fail
 have hl:=Ew s.pl sa s.stack.length cp s.steps s.looks 3 ⟨#[]⟩
 unfold Ds at hl
 refine(hl _).mono ?_
 rintro e w2 ⟨rfl,hb2⟩
 have hB2:Below w.heap.size w w2:=bN hB1 hb2
 have hz2:=Nt hb2 hz1
 have z0:=cH hz2 0
 have z1:=cH hz2 1
 have z2:=cH hz2 2
 have z3:=cH hz2 3
 have z4:=cH hz2 4
 have z5:=cH hz2 5
 have z6:=cH hz2 6
 have z7:=cH hz2 7
 have z8:=cH hz2 8
 have z9:=cH hz2 9
 simp only[gA,gB,gC] at z0 z1 z2 z3 z4 z5 z6 z7 z8 z9
 have fz:∀ j,w2.frozen? ⟨w.heap.size+1+1,j,none⟩=false:=fun j=>fH hz2 j
 clear hz2 hb2 hl
 unfold Ct
 go_wp2_with fail
 exact bR (v:=Ct s.pl (.slice sa s.stack.length cp) s.steps s.looks 3 ⟨#[]⟩) (by simp[results,Tryz.results128,go_sem,Ct,z0,z1,z2,z3,z4,z5,z6,z7,z8,z9]) rfl ⟨b10 (hB2) hR2,Or.inl ⟨3,⟨#[]⟩,s.steps,HST.o,_,_,_,_,_,rfl⟩⟩
def Jv (o:Nat):Nat:=(putsOf.getD o 0).toNat
theorem puts_eq (o:Nat) (h:o<=15):putsOf.getD o 0=((Jv o:Nat):Int):=by
 rcases (show o=0\/o=1\/o=2\/o=3\/o=4\/o=5\/o=6\/o=7\/o=8\/o=9\/o=10\/o=11\/o=12\/o=13\/o=14\/o=15 from by omega) with rfl|rfl|rfl|rfl|rfl|rfl|rfl|rfl|rfl|rfl|rfl|rfl|rfl|rfl|rfl|rfl<;>rfl
theorem tkH {o:Nat} (ho1:1<=o) (ho2:o<=15):∀ W:World,Calls Tryz.prog 143 #[.int .i64 o] W fun e w'=>e=.returned (.tuple #[.int .i64 (An o:Nat),.int .i64 (Jv o:Nat)])/\W=w':=fun W=>by rw[<- Xf o ho2,<- puts_eq o ho2];exact l2Takes_in o W ho1 ho2
theorem tp_le (o:Nat) (h:o<=15):An o<=2/\Jv o<=2:=by
 rcases (show o=0\/o=1\/o=2\/o=3\/o=4\/o=5\/o=6\/o=7\/o=8\/o=9\/o=10\/o=11\/o=12\/o=13\/o=14\/o=15 from by omega) with rfl|rfl|rfl|rfl|rfl|rfl|rfl|rfl|rfl|rfl|rfl|rfl|rfl|rfl|rfl|rfl<;>decide
theorem Yd (o:Nat) (h1:1<=o) (h:o<=11) (t:ByteArray) (n:Nat) (a b:ByteArray):(Cl o t n a b).length=Jv o:=by
 rcases (show o=1\/o=2\/o=3\/o=4\/o=5\/o=6\/o=7\/o=8\/o=9\/o=10\/o=11 from by omega) with rfl|rfl|rfl|rfl|rfl|rfl|rfl|rfl|rfl|rfl|rfl<;>rfl
theorem Rm {o:Nat} {l:List ByteArray} (h1:1<=o) (h:o<=15) (hl:l.length<=50) (hf:¬ l.length<An o) (hm:50<l.length-An o+Jv o):o<=11:=by
 rcases (show o<=11\/o=12\/o=13\/o=14\/o=15 by omega) with h|rfl|rfl|rfl|rfl
 ·exact h
 ·have e1:An 12=1:=rfl;have e2:Jv 12=1:=rfl;omega
 ·have e1:An 13=1:=rfl;have e2:Jv 13=1:=rfl;omega
 ·have e1:An 14=1:=rfl;have e2:Jv 14=0:=rfl;omega
 ·have e1:An 15=1:=rfl;have e2:Jv 15=0:=rfl;omega
section
def r10 (x0:Int) (a:Option Addr) (n c:Nat) (x2 x3:Int) (x4:Bool) (x5:Int) (x6:ByteArray) (x7:Bool) (x8:ByteArray) (x9:Bool):Value:=.agg #[.int .i64 x0,.slice a n c,.int .i64 x2,.int .i64 x3,.bool x4,.int .i64 x5,.string x6,.bool x7,.string x8,.bool x9]
theorem top_le {is:List I3} {s:St} (hs:Ec is s) (h:1<=s.stack.length):(Bq s.stack).size<=2000:=by
 apply hs.size
 unfold Bq
 rw[gG,gQ (show s.stack.length-1<s.stack.length by omega)]
 exact List.getElem_mem _
theorem sub_le {is:List I3} {s:St} (hs:Ec is s) (h:2<=s.stack.length):(Ij s.stack).size<=2000:=by
 apply hs.size
 unfold Ij
 rw[gG,gQ (show s.stack.length-2<s.stack.length by omega)]
 exact List.getElem_mem _
theorem Ce.set {B:Nat} {is:List I3} {ys:List R3} {s:St} {w:World} {e:Ending} {b:Nat} (h:Ce B is ys s w e/\∃ cs,w.heap[b]?=some (.cells cs 193 (0,0))) (j:Nat) (x:Value) :
  Ce B is ys s (w.setCell ⟨b,j,none⟩ x) e/\∃ cs,(w.setCell ⟨b,j,none⟩ x).heap[b]?=some (.cells cs 193 (0,0)):=by
 obtain⟨h,hc⟩:=h
 refine⟨?_,by obtain⟨cs,hb⟩:=hc;exact⟨_,jB hb x⟩⟩
 rcases h with h|⟨s',h1,a',cp',h2,h3⟩|h|⟨ask,nm,s',s'',h1,h2,h3,a',cp',h4,h5⟩|h
 ·exact Or.inl h
 ·exact Or.inr (Or.inl ⟨s',h1,a',cp',h2,(Eg ⟨h3,hc⟩ j x).1⟩)
 ·exact Or.inr (Or.inr (Or.inl h))
 ·exact Or.inr (Or.inr (Or.inr (Or.inl ⟨ask,nm,s',s'',h1,h2,h3,a',cp',h4,(Eg ⟨h5,hc⟩ j x).1⟩)))
 ·exact Or.inr (Or.inr (Or.inr (Or.inr h)))
variable (B:Nat) (t:ByteArray) (n:Nat) (is:List I3) (s:St) (sa:Option Addr) (cp:Nat) (rest:List ByteArray) (nm q:ByteArray) (ra:Option Addr) (rcap:Nat) (ys:List R3) (w:World)
def LookPost (B:Nat) (is:List I3) (ys:List R3) (s:St) (w w':World) (e:Ending):Prop:=
 Below B w w'/\∃ x0 a n c x2 x3 x4 x5 x6 x7 x8 x9,e=.returned (r10 x0 a n c x2 x3 x4 x5 x6 x7 x8 x9)/\Ce B is ys s w' e
theorem Yp (hB:B<=w.heap.size) (hs:Ec is s) (hpl:s.pl<is.length) (hl200:is.length<=200) (hst2:s.steps≠2000) (ei:ix is s.pl=⟨12,t,n⟩) (hfew:1<=s.stack.length) (erest:rest=Be s.stack 1) (enm:nm=Bq s.stack) (eq:q=Dx s.pl) (hyl:ys.length<=200) (hr:Nx w ra ys) (hown:Pn B w sa cp rest) (hln:rest.length<50) :
  Calls Tryz.prog 144 #[.agg #[.int .i64 12,.string t,.int .i64 n],Ds ((s.pl:Int)+1) (.slice sa rest.length cp) ((s.steps:Int)+1) s.looks,.string nm,.string q,.slice ra ys.length rcap] w fun e w'=>LookPost B is ys s w w' e:=by
 subst erest;subst enm;subst eq
 have e1:((s.pl+1:Nat):Int)=(s.pl:Int)+1:=rfl
 have e2:((s.steps+1:Nat):Int)=(s.steps:Int)+1:=rfl
 have hst:=hs.steps
 have hlk:=hs.looks
 have hp:=hs.pl
 have htk:¬ s.stack.length<An 12:=by rw[show An 12=1 from rfl];omega
 have htop:=top_le hs hfew
 have hst0:=Fj hpl hst2 (o:=12) ei
 rw[<- e1,<- e2]
 by_cases hn:Aq (Bq s.stack)
 ·by_cases hl:s.looks=200
  ·refine(look_sp B 12 t n (s.pl+1) sa cp (Be s.stack 1) (s.steps+1) s.looks (Bq s.stack) (Dx s.pl) ra rcap ys w hB htop (by omega) (by omega) hlk hn hl).mono ?_;rintro e w' ⟨hb,rfl⟩;exact⟨hb,_,_,_,_,_,_,_,_,_,_,_,_,rfl,Or.inl ⟨3,_,s.steps+1,hst0.trans (Gs htk (Or.inl rfl) hn hl),_,_,_,_,_,rfl⟩⟩
  ·have hst1:=hst0.trans (He htk (Or.inl rfl) hn hl)
   by_cases hy:ys.length<=s.looks
   ·refine(look_wt B 12 t n (s.pl+1) sa cp (Be s.stack 1) (s.steps+1) s.looks (Bq s.stack) (Dx s.pl) ra rcap ys w hB htop (by omega) (by omega) hlk hn hl hy).mono ?_;rintro e w' ⟨hb,rfl⟩;exact⟨hb,_,_,_,_,_,_,_,_,_,_,_,_,rfl,Or.inr (Or.inr (Or.inl ⟨true,_,_,hst1,hy,_,_,_,_,_,rfl⟩))⟩
   ·have hy2:s.looks<ys.length:=by omega
    cases hh:(rx ys s.looks).has with
    | false=>
     refine(look_miss B t n (s.pl+1) sa cp (Be s.stack 1) (s.steps+1) s.looks (Bq s.stack) (Dx s.pl) ra rcap ys w hB htop (by omega) (by omega) hlk hn hl hy2 hyl hr hh).mono ?_;rintro e w' ⟨hb,rfl⟩;exact⟨hb,_,_,_,_,_,_,_,_,_,_,_,_,rfl,Or.inr (Or.inr (Or.inr (Or.inr ⟨true,_,_,4,_,s.steps+1,hst1,hy2,by simp[Dy,hh],_,_,_,_,_,rfl⟩)))⟩
    | true=>
     by_cases hcd:(rx ys s.looks).code=0
     ·refine(look_text B t n (s.pl+1) sa cp (Be s.stack 1) (s.steps+1) s.looks (Bq s.stack) (Dx s.pl) ra rcap ys w hB htop (by omega) (by omega) hlk hn hl hy2 hyl hr hh hcd hown hln).mono ?_;rintro e w' ⟨hb,a',cp',rfl,ho⟩;exact⟨hb,_,_,_,_,_,_,_,_,_,_,_,_,rfl,Or.inr (Or.inr (Or.inr (Or.inl ⟨true,_,_,⟨s.pl+1,Be s.stack 1++[(rx ys s.looks).text],s.steps+1,s.looks+1⟩,hst1,hy2,by simp[Dy,hh,hcd],a',cp',by simp[List.length_append],ho⟩)))⟩
     ·refine(look_below B t n (s.pl+1) sa cp (Be s.stack 1) (s.steps+1) s.looks (Bq s.stack) (Dx s.pl) ra rcap ys w hB htop (by omega) (by omega) hlk hn hl hy2 hyl hr hh hcd).mono ?_;rintro e w' ⟨hb,rfl⟩;exact⟨hb,_,_,_,_,_,_,_,_,_,_,_,_,rfl,Or.inr (Or.inr (Or.inr (Or.inr ⟨true,_,_,5,_,s.steps+1,hst1,hy2,by simp[Dy,hh,hcd],_,_,_,_,_,rfl⟩)))⟩
 ·refine(look_no B 12 t n (s.pl+1) sa cp (Be s.stack 1) (s.steps+1) s.looks (Bq s.stack) (Dx s.pl) ra rcap ys w hB htop (by omega) (by omega) hlk hn).mono ?_;rintro e w' ⟨hb,rfl⟩;exact⟨hb,_,_,_,_,_,_,_,_,_,_,_,_,rfl,Or.inl ⟨2,_,s.steps+1,hst0.trans (Jy htk (Or.inl rfl) hn),_,_,_,_,_,rfl⟩⟩
theorem Yo (hB:B<=w.heap.size) (hs:Ec is s) (hpl:s.pl<is.length) (hl200:is.length<=200) (hst2:s.steps≠2000) (ei:ix is s.pl=⟨13,t,n⟩) (hfew:1<=s.stack.length) (erest:rest=Be s.stack 1) (enm:nm=Bq s.stack) (eq:q=Dx s.pl) (hyl:ys.length<=200) (hr:Nx w ra ys) (hown:Pn B w sa cp rest) (hln:rest.length<50) :
  Calls Tryz.prog 144 #[.agg #[.int .i64 13,.string t,.int .i64 n],Ds ((s.pl:Int)+1) (.slice sa rest.length cp) ((s.steps:Int)+1) s.looks,.string nm,.string q,.slice ra ys.length rcap] w fun e w'=>LookPost B is ys s w w' e:=by
 subst erest;subst enm;subst eq
 have e1:((s.pl+1:Nat):Int)=(s.pl:Int)+1:=rfl
 have e2:((s.steps+1:Nat):Int)=(s.steps:Int)+1:=rfl
 have hst:=hs.steps
 have hlk:=hs.looks
 have hp:=hs.pl
 have htk:¬ s.stack.length<An 13:=by rw[show An 13=1 from rfl];omega
 have htop:=top_le hs hfew
 have hst0:=Fj hpl hst2 (o:=13) ei
 rw[<- e1,<- e2]
 by_cases hn:Aq (Bq s.stack)
 ·by_cases hl:s.looks=200
  ·refine(look_sp B 13 t n (s.pl+1) sa cp (Be s.stack 1) (s.steps+1) s.looks (Bq s.stack) (Dx s.pl) ra rcap ys w hB htop (by omega) (by omega) hlk hn hl).mono ?_;rintro e w' ⟨hb,rfl⟩;exact⟨hb,_,_,_,_,_,_,_,_,_,_,_,_,rfl,Or.inl ⟨3,_,s.steps+1,hst0.trans (Gs htk (Or.inr rfl) hn hl),_,_,_,_,_,rfl⟩⟩
  ·have hst1:=hst0.trans (He htk (Or.inr rfl) hn hl)
   by_cases hy:ys.length<=s.looks
   ·refine(look_wt B 13 t n (s.pl+1) sa cp (Be s.stack 1) (s.steps+1) s.looks (Bq s.stack) (Dx s.pl) ra rcap ys w hB htop (by omega) (by omega) hlk hn hl hy).mono ?_;rintro e w' ⟨hb,rfl⟩;exact⟨hb,_,_,_,_,_,_,_,_,_,_,_,_,rfl,Or.inr (Or.inr (Or.inl ⟨false,_,_,hst1,hy,_,_,_,_,_,rfl⟩))⟩
   ·(have hy2:s.looks<ys.length:=by omega);refine(look_flag B t n (s.pl+1) sa cp (Be s.stack 1) (s.steps+1) s.looks (Bq s.stack) (Dx s.pl) ra rcap ys w hB htop (by omega) (by omega) hlk hn hl hy2 hyl hr hown hln).mono ?_;rintro e w' ⟨hb,a',cp',rfl,ho⟩;exact⟨hb,_,_,_,_,_,_,_,_,_,_,_,_,rfl,Or.inr (Or.inr (Or.inr (Or.inl ⟨false,_,_,⟨s.pl+1,Be s.stack 1++[Cw (rx ys s.looks).has],s.steps+1,s.looks+1⟩,hst1,hy2,by simp[Dy],a',cp',by simp[List.length_append],ho⟩)))⟩
 ·refine(look_no B 13 t n (s.pl+1) sa cp (Be s.stack 1) (s.steps+1) s.looks (Bq s.stack) (Dx s.pl) ra rcap ys w hB htop (by omega) (by omega) hlk hn).mono ?_;rintro e w' ⟨hb,rfl⟩;exact⟨hb,_,_,_,_,_,_,_,_,_,_,_,_,rfl,Or.inl ⟨2,_,s.steps+1,hst0.trans (Jy htk (Or.inr rfl) hn),_,_,_,_,_,rfl⟩⟩
end
theorem own_out {w:World} {B:Nat} {v':Value} {n m:Nat} {ss:List ByteArray} {xs:List Value} {g0:Addr} {n0 c0:Nat} (h:w.ownsRow B 9 1 v' (n+m) (xs++ss.map .string)) (hn:v'=.slice none 0 0↔(Value.slice (some g0) n0 c0)=.slice none 0 0/\m=0) (e0:n=0:=by rfl) (e1:xs=[]:=by rfl):∃ g cp,v'=.slice (some ⟨g,0,none⟩) m cp/\w.ownsRow B 9 1 (.slice (some ⟨g,0,none⟩) m cp) m (Bf ss):=by
 subst e0;subst e1
 rw[Nat.zero_add,List.nil_append] at h
 rcases h.2 with ⟨hv,_⟩|⟨g,cap,cur,hv,r⟩
 ·have:=(hn.mp hv).1;cases this
 ·subst hv;exact⟨g,cap,rfl,h⟩
theorem own_add {w:World} {B:Nat} {v':Value} {m:Nat} {ss:List ByteArray} {x:ByteArray} (h:w.ownsRow B 9 1 v' (m+1) (Bf ss++[.string x])):∃ g cp,v'=.slice (some ⟨g,0,none⟩) (m+1) cp/\w.ownsRow B 9 1 (.slice (some ⟨g,0,none⟩) (m+1) cp) (m+1) (Bf (ss++[x])):=by
 rcases h.2 with ⟨hv,h0⟩|⟨g,cap,cur,hv,r⟩
 ·omega
 ·subst hv;refine⟨g,cap,rfl,?_⟩;rw[show Bf (ss++[x])=Bf ss++[.string x] from by simp[Bf]];exact h
theorem Pn.mono {B B':Nat} {w:World} {a:Option Addr} {cp:Nat} {ss:List ByteArray} (h:Pn B w a cp ss) (hB:B'<=B):Pn B' w a cp ss:=by
 refine⟨h.1,?_⟩
 rcases h.2 with h|⟨g,cap,cur,hv,hg,r⟩
 ·exact Or.inl h
 ·exact Or.inr ⟨g,cap,cur,hv,Nat.le_trans hB hg,r⟩
theorem Ce.mono {B B':Nat} {is:List I3} {ys:List R3} {s:St} {w:World} {e:Ending} (h:Ce B is ys s w e) (hB:B'<=B):Ce B' is ys s w e:=by
 rcases h with h|⟨s',h1,a',cp',h2,h3⟩|h|⟨ask,nm,s',s'',h1,h2,h3,a',cp',h4,h5⟩|h
 ·exact Or.inl h
 ·exact Or.inr (Or.inl ⟨s',h1,a',cp',h2,h3.mono hB⟩)
 ·exact Or.inr (Or.inr (Or.inl h))
 ·exact Or.inr (Or.inr (Or.inr (Or.inl ⟨ask,nm,s',s'',h1,h2,h3,a',cp',h4,h5.mono hB⟩)))
 ·exact Or.inr (Or.inr (Or.inr (Or.inr h)))
theorem Np {B:Nat} {is:List I3} {ys:List R3} {s:St} {w:World} {e:Ending} {b:Nat} (h:Ce B is ys s w e) (hc:∃ cs,w.heap[b]?=some (.cells cs 193 (0,0))) (v0 v1 v2 v3 v4 v5 v6 v7 v8 v9:Value) :
  Ce B is ys s ((((((((((w.setCell ⟨b,0,none⟩ v0).setCell ⟨b,1,none⟩ v1).setCell ⟨b,2,none⟩ v2).setCell ⟨b,3,none⟩ v3).setCell ⟨b,4,none⟩ v4).setCell ⟨b,5,none⟩ v5).setCell ⟨b,6,none⟩ v6).setCell ⟨b,7,none⟩ v7).setCell ⟨b,8,none⟩ v8).setCell ⟨b,9,none⟩ v9) e:=
 (Ce.set (Ce.set (Ce.set (Ce.set (Ce.set (Ce.set (Ce.set (Ce.set (Ce.set (Ce.set ⟨h,hc⟩ 0 v0) 1 v1) 2 v2) 3 v3) 4 v4) 5 v5) 6 v6) 7 v7) 8 v8) 9 v9).1
theorem step_go {is:List I3} {s:St} {o:Nat} {t:ByteArray} {n:Nat} (hpl:s.pl<is.length) (hst2:s.steps≠2000) (e:ix is s.pl=⟨o,t,n⟩) (ho:o<=11) {m:Nat} (em:s.stack.length=m+An o) {outs:List ByteArray} (eo:Cl o t n (Bq s.stack) (Ij s.stack)=outs) (hm:m+outs.length<=50) (hx:∀ x∈outs,x.size<=2000) {npl:Nat} (en:Eu o n s.pl (Bq s.stack)=npl) :
  Bk is s=.go ⟨npl,s.stack.take m++outs,s.steps+1,s.looks⟩:=by
 have er:Be s.stack (An o)=s.stack.take m:=by unfold Be;rw[em,Nat.add_sub_cancel]
 have h:=(Fj hpl hst2 e).trans (Ma (by omega) ho (by
  unfold Pp;rw[eo,er,List.length_take];rintro (h|⟨x,h1,h2⟩)
  ·omega
  ·have:=hx x h1;omega))
 rw[h,eo,er,en]
theorem go_post {B:Nat} {is:List I3} {ys:List R3} {s:St} {w':World} {npl:Nat} {stk:List ByteArray} {a':Option Addr} {cp' k:Nat} {pI:Int} (h:Bk is s=.go ⟨npl,stk,s.steps+1,s.looks⟩) (hk:stk.length=k) (hp:pI=(npl:Int)) (ho:w'.ownsRow B 9 1 (.slice a' k cp') k (Bf stk)) :
  Ce B is ys s w' (.returned (Ds pI (.slice a' k cp') ((s.steps:Int)+1) s.looks)):=by
 subst hk
 subst hp
 exact Or.inr (Or.inl ⟨_,h,a',cp',rfl,ho⟩)
end Go.Proofs.YtjlnkepkkdefdaaGreatDoor
