import Derived.Test.YtfgoholldpeabaaGreatDoorTNLookS
namespace Go.Proofs.YtfgoholldpeabaaGreatDoor
open _root_.Go.Proofs.Tryz Go.RowKit
set_option linter.unusedVariables false
set_option maxHeartbeats 8000000
set_option maxRecDepth 100000
set_option linter.unusedSimpArgs false
variable {w w' W W':World} {B n m B' cp b npl k i1 cap kx cx b':Nat} {v' v0 v1 v2 sv v u0 u1 u2 cd:Value} {ss:List By} {xs:List Value} {a ax:Option Addr} {is:List I3} {ys:List R3} {s:St} {e:Ending} {t tt x6 x8 nm:By} {T:TypeId} {pl st x0 x2 x3 x5:Int} {x4 x7 x9 ask:Bool}
section
open Go.Deep
theorem Re {w w2:World} {o:Obj} {ob:Option Nat} (ae:(w.alloc o).drew.grownBy w2 ob) (HO:∀(b:Nat) (cs:Array Value) (T:Nat),T≠9->w.heap[b]?=some (.cells cs T (0,0))->some b≠ob):∀(b:Nat) (cs:Array Value) (T:Nat),T≠9->w.heap[b]?=some (.cells cs T (0,0))->w2.heap[b]?=some (.cells cs T (0,0)):=by
 intro b cs T hT hb
 have hl:=Af hb
 rw[ae.block b qh (HO b cs T hT hb)]
 exact(Lib.alloc_old w o b hl).trans hb
theorem step_flag {x:Operand} {W:World} {ops:Array Oper} {o:Oper} {a:Act} {K:Act->World->Prop} {Q:Exit->Act->World->Prop} {E:Prop} (se:o.guard=none)
  (ho:o.op=.call { callee:=.value (.func 92),args:=#[x],argTypes:=#[4] }) (b:Bool) (f:By) (hf:Co b=f) (hx:a.eval x=.bool b) (h:K (a.put o.dst (.string f)) W) :
  if Region.wanted o (yielded ops a.tmps)=true then Oper.wp prog o a W K Q else E:=by
 have hw:Region.wanted o (yielded ops a.tmps)=true:=qbz
 have li:(execOp a.eval o).run prog W=.ok (.enter 92 #[.bool b]) W:=by
  unfold execOp;rw[ho];simp[go_sem]
  cases x with
  | tmp t=>simpa [Act.eval] using hx
  | const v=>simpa [Act.eval] using hx
  | «global» g=>simp[Act.eval] at hx
  | func f=>simp[Act.eval] at hx
 rw[if_pos hw]
 unfold Oper.wp
 rw[li,Oper.upon_enter]
 refine(Lc b W).mono ?_
 rintro e w' ⟨rfl,rfl⟩
 rw[hf]
 exact h
theorem step_appS {s x:Operand} {W:World} {ops:Array Oper} {o:Oper} {a:Act} {K:Act->World->Prop} {Q:Exit->Act->World->Prop} {E:Prop} (se:o.guard=none)
  (ho:o.op=.call { callee:=.builtin .append,args:=#[s,x],argTypes:=#[22,22] }) (B:Nat) (sa:Option Addr) (nn cap:Nat) (xs:List Value)
  (hs:a.eval s=.slice sa nn cap) (ah:W.ownsRow B 9 1 (.slice sa nn cap) nn xs) (d:Nat) (tx:By) (hx:a.eval x=.slice (p_ d) 1 1) (hc:W.cell? ⟨d,0,none⟩=some (.string tx)) (hB:B<=W.heap.size) (hn:nn<=50)
  (h:∀ g' ai w',w'.ownsRow B 9 1 (.slice (p_ g') (nn+1) ai) (nn+1) (xs++[.string tx])->W.grownBy w' (Value.slice sa nn cap).ownBlock->K (a.put o.dst (.slice (p_ g') (nn+1) ai)) w') :
  if Region.wanted o (yielded ops a.tmps)=true then Oper.wp prog o a W K Q else E:=by
 obtain⟨i0,hi,bp,bh,bv⟩:=info_parts Tryz.info9b
 refine step_append_lies (w:=W) se s x 22 ho B 9 i0 ze 1 16 underlying22 hi bp bh bv rfl qd _ nn xs hs ah ⟨d,0,none⟩ 1 1 [.string tx] hx rfl
  (fun j u hu=>by
   have hj:j=0:=by rcases j with _|j;rfl;simp at hu
   subst hj;rw[Addr.add_lit,Nat.zero_add];simp at hu;subst hu;exact hc) qaf qb qm qb hB W.heap.size rfl ?_
 exact qdk
variable (B:Nat) (o:Nat) (t:By) (n:Nat) (pl:Nat) (sa:Option Addr) (cp:Nat) (stack:List By) (st lk:Nat) (nm place:By) (ra:Option Addr) (rcap:Nat) (ys:List R3) (w:World)
theorem look_flag (hB:B<=w.heap.size) (cr:nm.size<=2000) (dy:pl<=201) (cz:st<=2000) (pc:lk<=200) (hn:Am nm) (hl:lk≠200) (hy:lk<ys.length) (G9:ys.length<=200) (hr:Qu w ra ys) (ah:Rp B w sa cp stack) (t6:stack.length<50) :
  Calls prog 135 #[.agg #[I 13,.string t,I n],Dt pl (.slice sa stack.length cp) st lk,.string nm,.string place,.slice ra ys.length rcap] w fun e w'=>Below B w w'/\∃ a' om,e=.returned (Dt pl (.slice a' (stack.length+1) om) st ((lk:Int)+1))/\Rp B w' a' om (stack++[Co (rx ys lk).has]):=by
 have ip:=Cu hn
 have d1:((lk:Int) == 200)=false:=qh
 have hyI:(lk:Int)<(ys.length:Int):=qb
 obtain⟨b,off,rfl,e1,e2,e3⟩:=hr lk hy
 generalize rx ys lk=y at *
 clear hr hn hl
 have me:∀(x y z:Obj) (p:Addr) (v:Value),w.cell? p=some v->(((w.alloc x).alloc y).alloc z).cell? p=some v:=fun x y z p v h=>by
  exact qda
 have a1:=fun x y z=>me x y z _ _ e1
 have a2:=fun x y z=>me x y z _ _ e2
 have a3:=fun x y z=>me x y z _ _ e3
 clear me
 have ak:Bw w ((((w.alloc (.cells #[I 13,.string t,I n] 128)).alloc (.cells #[I pl,.slice sa stack.length cp,I st,I ((lk:Int)+1),.bool false,I 0,ze,.bool false,ze,.bool false] 195)).alloc (.cells #[I 0,nS,I 0,I 0,.bool false,I 0,ze,.bool false,ze,.bool false] 195)).alloc (.cells #[.bool y.has,I y.code,.string y.text] 169)):=(((aN _ _).alloc qg _).alloc qh _).alloc qh _
 have th:B<=w.heap.size+1+1:=qb
 have hR1:B<=w.heap.size+1:=qb
 have hz:=blk4 w (.cells #[I 13,.string t,I n] 128) (.cells #[I pl,.slice sa stack.length cp,I st,I ((lk:Int)+1),.bool false,I 0,ze,.bool false,ze,.bool false] 195) (.cells #[I 0,nS,I 0,I 0,.bool false,I 0,ze,.bool false,ze,.bool false] 195) (.cells #[.bool y.has,I y.code,.string y.text] 169)
 have hzr:((((w.alloc (.cells #[I 13,.string t,I n] 128)).alloc (.cells #[I pl,.slice sa stack.length cp,I st,I ((lk:Int)+1),.bool false,I 0,ze,.bool false,ze,.bool false] 195)).alloc (.cells #[I 0,nS,I 0,I 0,.bool false,I 0,ze,.bool false,ze,.bool false] 195)).alloc (.cells #[.bool y.has,I y.code,.string y.text] 169)).heap[w.heap.size+1+1+1]?=some (.cells #[.bool y.has,I y.code,.string y.text] 169 (0,0)):=by
  have h:=Be (((w.alloc (.cells #[I 13,.string t,I n] 128)).alloc (.cells #[I pl,.slice sa stack.length cp,I st,I ((lk:Int)+1),.bool false,I 0,ze,.bool false,ze,.bool false] 195)).alloc (.cells #[I 0,nS,I 0,I 0,.bool false,I 0,ze,.bool false,ze,.bool false] 195)) (.cells #[.bool y.has,I y.code,.string y.text] 169);rw[show (((w.alloc (.cells #[I 13,.string t,I n] 128)).alloc (.cells #[I pl,.slice sa stack.length cp,I st,I ((lk:Int)+1),.bool false,I 0,ze,.bool false,ze,.bool false] 195)).alloc (.cells #[I 0,nS,I 0,I 0,.bool false,I 0,ze,.bool false,ze,.bool false] 195)).heap.size=w.heap.size+1+1+1 from qg] at h;exact h
 obtain⟨f,ef⟩:=Ai (Co y.has)
 have EF:=hid ef
 clear ef
 have ke:=((((ah.alloc (.cells #[I 13,.string t,I n] 128)).alloc (.cells #[I pl,.slice sa stack.length cp,I st,I ((lk:Int)+1),.bool false,I 0,ze,.bool false,ze,.bool false] 195)).alloc (.cells #[I 0,nS,I 0,I 0,.bool false,I 0,ze,.bool false,ze,.bool false] 195)).alloc (.cells #[.bool y.has,I y.code,.string y.text] 169)).alloc (.cells #[.string f] 9)
 unfold Rp at ah
 unfold Dt
 go_enter func135,ntmps135
 go_wp2_with (first|(go_at_call 23;refine(Bx nm _ qb).mono ?_;rintro e w9 ⟨rfl,rfl⟩))
 go_region_law (first|(refine step_flag rfl rfl y.has f EF.o ?_ ?_;(focus (simp[Act.eval];done)))|(refine step_appS rfl rfl B sa stack.length cp (Ax stack) ?_ ?_ (w.heap.size+1+1+1+1) f ?_ ?_ ?_ ?_ ?_;(focus (simp[Act.eval];done));(focus (exact ke));(focus (simp[Act.eval];done));(focus (simp[go_sem];done));(focus (simp;omega));(focus omega);intro g' nr w2 ba ae;have ll:w2.heap[w.heap.size+1]?=some (.cells #[I pl,.slice sa stack.length cp,I st,I ((lk:Int)+1),.bool false,I 0,ze,.bool false,ze,.bool false] 195 (0,0)):=(by first|exact Ff ae (fun b' cs' T' I7 F3=>Gv I7 qbe ke) _ _ 195 qd hz.2|exact Re ae (fun b' cs' T' I7 F3=>Gv I7 qbe ke) _ _ 195 qd hz.2);have ox:w2.heap[w.heap.size+1+1]?=some (.cells #[I 0,nS,I 0,I 0,.bool false,I 0,ze,.bool false,ze,.bool false] 195 (0,0)):=(by first|exact Ff ae (fun b' cs' T' I7 F3=>Gv I7 qbe ke) _ _ 195 qd hz.1|exact Re ae (fun b' cs' T' I7 F3=>Gv I7 qbe ke) _ _ 195 qd hz.1);have fg:Below B w w2:=(by first|exact((ak.mono hB).drew.alloc qh _).grown ae qh (fun k hk=>(ah.lt k hk).1)|exact((ak.mono hB).alloc qh _).drew.grown ae qh (fun k hk=>(ah.lt k hk).1));have k0:=cH ox 0;have k1:=cH ox 1;have k2:=cH ox 2;have k3:=cH ox 3;have k4:=cH ox 4;have k5:=cH ox 5;have k6:=cH ox 6;have k7:=cH ox 7;have k8:=cH ox 8;have k9:=cH ox 9;simp only[gA,gB,gC] at k0 k1 k2 k3 k4 k5 k6 k7 k8 k9;have m0:=cH ll 0;have m1:=cH ll 1;have m2:=cH ll 2;have m3:=cH ll 3;have m4:=cH ll 4;have m5:=cH ll 5;have m6:=cH ll 6;have m7:=cH ll 7;have m8:=cH ll 8;have m9:=cH ll 9;simp only[gA,gB,gC] at m0 m1 m2 m3 m4 m5 m6 m7 m8 m9;have f0:∀ j,w2.frozen? ⟨w.heap.size+1+1,j,none⟩=false:=(fun j=>fH ox j);have f1:∀ j,w2.frozen? ⟨w.heap.size+1,j,none⟩=false:=(fun j=>fH ll j);have lz:Hd (w2.heap[w.heap.size+1]?=some (.cells #[I pl,.slice sa stack.length cp,I st,I ((lk:Int)+1),.bool false,I 0,ze,.bool false,ze,.bool false] 195 (0,0))):=ll;have F9:Hd (w2.heap[w.heap.size+1+1]?=some (.cells #[I 0,nS,I 0,I 0,.bool false,I 0,ze,.bool false,ze,.bool false] 195 (0,0))):=ox;have J4:Hd (w2.ownsRow B 9 1 (.slice (p_ g') (stack.length+1) nr) (stack.length+1) (Ax stack++[.string f])):=ba;clear ba ae a1 a2 a3))
 all_goals
  go_wp2_with fail;refine bR (v:=Dt pl (.slice (p_ g') (stack.length+1) nr) st ((lk:Int)+1)) (by simp[results,results135,go_sem,Dt,k0,k1,k2,k3,k4,k5,k6,k7,k8,k9]) rfl ⟨Pz ((fg.setCell (p:=⟨w.heap.size+1,1,none⟩) hR1 _)) th,_,_,rfl,?_⟩;have h1:=Gg ⟨J4.o,_,lz.o⟩ 1 (.slice (p_ g') (stack.length+1) nr);have h2:∃ cs,(w2.setCell ⟨w.heap.size+1,1,none⟩ (.slice (p_ g') (stack.length+1) nr)).heap[w.heap.size+1+1]?=some (.cells cs 195 (0,0)):=⟨_,by rw[hC w2 ⟨w.heap.size+1,1,none⟩ _ _ qg];exact F9.o⟩;have e:Ax (stack++[Co y.has])=Ax stack++[.string f]:=by rw[EF.o];simp[Ax]
  exact qja
end
def Bz (B:Nat) (is:List I3) (ys:List R3) (s:St) (w':World) (e:Ending):Prop:=
 (∃ c t n,Ca is s=.over c t n/\∃(pl:Int) (va:Option Addr) (vn vc:Nat) (lk:Int),e=.returned (Dx pl (.slice va vn vc) n lk c t))∨
 (∃ s',Ca is s=.go s'/\∃ a' om,e=.returned (Dt s'.pl (.slice a' s'.stack.length om) s'.steps s'.looks)/\Rp B w' a' om s'.stack)∨
 (∃ ask nm s',Ca is s=.look ask nm s'/\ys.length<=s.looks/\∃(pl:Int) (va:Option Addr) (vn vc:Nat) (lk:Int),e=.returned (waitV pl (.slice va vn vc) s'.steps lk ask nm))∨
 (∃ ask nm s' s'',Ca is s=.look ask nm s'/\s.looks<ys.length/\Em ask nm (rx ys s.looks) s'=.go s''/\∃ a' om,e=.returned (Dt s''.pl (.slice a' s''.stack.length om) s''.steps s''.looks)/\Rp B w' a' om s''.stack)∨
 (∃ ask nm s' c t n,Ca is s=.look ask nm s'/\s.looks<ys.length/\Em ask nm (rx ys s.looks) s'=.over c t n/\∃(pl:Int) (va:Option Addr) (vn vc:Nat) (lk:Int),e=.returned (Dx pl (.slice va vn vc) n lk c t))
theorem Qam (a:Option Addr) (cap:Nat) (is:List I3) (s:St) (sa:Option Addr) (cp:Nat) (ra:Option Addr) (rcap:Nat) (ys:List R3) (w:World) (hv:Au is=true) (hs:Eb is s) (dy:¬ s.pl<is.length) :
  Calls prog 114 #[.agg #[.slice a is.length cap],Dt s.pl (.slice sa s.stack.length cp) s.steps s.looks,.slice ra ys.length rcap] w fun e w'=>Bw w w'/\Bz w.heap.size is ys s w' e:=by
 have fj:=hid (Km dy)
 have hplI:(is.length:Int)<=(s.pl:Int):=qb
 have dh:=Dh hv
 have uy:=hs.pl
 have cz:=hs.steps
 have pc:=hs.looks
 have xz:=hs.len
 obtain⟨ak,hz,hr,hc⟩:=op3 w a is.length cap s.pl (.slice sa s.stack.length cp) s.steps s.looks
 have th:w.heap.size<=w.heap.size+1+1:=qb
 have hR1:w.heap.size<=w.heap.size+1:=qb
 obtain⟨q,eq⟩:=Ai (Er s.pl)
 have EQ:=hid eq
 have HD:Hd _:=dcH eq qb
 clear eq
 unfold Dt
 go_enter func114,ntmps114
 go_wp2_with fail
 refine(HD.o _).mono ?_
 rintro e w1 ⟨rfl,af⟩
 have bg:=bN ak af
 have bh:=Oo af hz
 have lj:=Oo af hr
 have hc1:=Oo af hc
 have x0:=cK hc1 0
 obtain⟨r0,r1,r2,r3,r4,r5,r6,r7,r8,r9⟩:=Fc lj
 have fr:=fZ lj
 clear hz hr hc ak af HD
 rw[EQ.o] at fj
 go_wp2_with fail
 have hl:=Eo s.pl sa s.stack.length cp s.steps s.looks 2 q
 unfold Dt at hl
 refine(hl _).mono ?_
 rintro e w2 ⟨rfl,ag⟩
 have be:=bN bg ag
 have bv:=Oo ag bh
 obtain⟨z0,z1,z2,z3,z4,z5,z6,z7,z8,z9⟩:=Fc bv
 have fz:=fZ bv
 clear bv ag hl
 unfold Dx
 go_wp2_with fail
 exact bR (v:=Dx s.pl (.slice sa s.stack.length cp) s.steps s.looks 2 q) qbo rfl ⟨Pz (be) th,Or.inl ⟨2,q,s.steps,fj.o,_,_,_,_,_,rfl⟩⟩
theorem step_spent (a:Option Addr) (cap:Nat) (is:List I3) (s:St) (sa:Option Addr) (cp:Nat) (ra:Option Addr) (rcap:Nat) (ys:List R3) (w:World) (hv:Au is=true) (hs:Eb is s) (dy:s.pl<is.length) (fm:s.steps=2000) :
  Calls prog 114 #[.agg #[.slice a is.length cap],Dt s.pl (.slice sa s.stack.length cp) s.steps s.looks,.slice ra ys.length rcap] w fun e w'=>Bw w w'/\Bz w.heap.size is ys s w' e:=by
 have fj:=hid (Jf dy fm)
 have hplI:(s.pl:Int)<(is.length:Int):=qb
 have hst3:((s.steps:Int) == 2000)=true:=qh
 clear fm
 have dh:=Dh hv
 have uy:=hs.pl
 have cz:=hs.steps
 have pc:=hs.looks
 have xz:=hs.len
 obtain⟨ak,hz,hr,hc⟩:=op3 w a is.length cap s.pl (.slice sa s.stack.length cp) s.steps s.looks
 have th:w.heap.size<=w.heap.size+1+1:=qb
 have hR1:w.heap.size<=w.heap.size+1:=qb
 obtain⟨q,eq⟩:=Ai (Er s.pl)
 have EQ:=hid eq
 have HD:Hd _:=dcH eq qb
 clear eq
 unfold Dt
 go_enter func114,ntmps114
 go_wp2_with fail
 refine(HD.o _).mono ?_
 rintro e w1 ⟨rfl,af⟩
 have bg:=bN ak af
 have bh:=Oo af hz
 have lj:=Oo af hr
 have hc1:=Oo af hc
 have x0:=cK hc1 0
 obtain⟨r0,r1,r2,r3,r4,r5,r6,r7,r8,r9⟩:=Fc lj
 have fr:=fZ lj
 clear hz hr hc ak af HD
 go_wp2_with fail
 have hl:=Eo s.pl sa s.stack.length cp s.steps s.looks 3 ⟨#[]⟩
 unfold Dt at hl
 refine(hl _).mono ?_
 rintro e w2 ⟨rfl,ag⟩
 have be:=bN bg ag
 have bv:=Oo ag bh
 obtain⟨z0,z1,z2,z3,z4,z5,z6,z7,z8,z9⟩:=Fc bv
 have fz:=fZ bv
 clear bv ag hl
 unfold Dx
 go_wp2_with fail
 exact bR (v:=Dx s.pl (.slice sa s.stack.length cp) s.steps s.looks 3 ⟨#[]⟩) qbo rfl ⟨Pz (be) th,Or.inl ⟨3,⟨#[]⟩,s.steps,fj.o,_,_,_,_,_,rfl⟩⟩
def Jx (o:Nat):Nat:=(putsOf.getD o 0).toNat
theorem puts_eq (o:Nat) (h:o<=15):putsOf.getD o 0=((Jx o:Nat):Int):=by
 exact qes
theorem tkH {o:Nat} (ku:1<=o) (nj:o<=15):∀ W:World,Calls prog 134 #[I o] W fun e w'=>e=.returned (.tuple #[I (Av o:Nat),I (Jx o:Nat)])/\W=w':=fun W=>by rw[<- Qah o nj,<- puts_eq o nj];exact l2Takes_in o W ku nj
theorem tp_le (o:Nat) (h:o<=15):Av o<=2/\Jx o<=2:=by
 rcases (show o=0\/o=1\/o=2\/o=3\/o=4\/o=5\/o=6\/o=7\/o=8\/o=9\/o=10\/o=11\/o=12\/o=13\/o=14\/o=15 from qb) with rfl|rfl|rfl|rfl|rfl|rfl|rfl|rfl|rfl|rfl|rfl|rfl|rfl|rfl|rfl|rfl<;>decide
theorem Qas (o:Nat) (h1:1<=o) (h:o<=11) (t:By) (n:Nat) (a b:By):(Ct o t n a b).length=Jx o:=by
 exact qeu
theorem Ti {o:Nat} {l:List By} (h1:1<=o) (h:o<=15) (hl:l.length<=50) (hf:¬ l.length<Av o) (hm:50<l.length-Av o+Jx o):o<=11:=by
 rcases (show o<=11\/o=12\/o=13\/o=14\/o=15 from qb) with h|rfl|rfl|rfl|rfl
 ·exact h
 ·have e1:Av 12=1:=rfl;have e2:Jx 12=1:=rfl;omega
 ·have e1:Av 13=1:=rfl;have e2:Jx 13=1:=rfl;omega
 ·have e1:Av 14=1:=rfl;have e2:Jx 14=0:=rfl;omega
 ·have e1:Av 15=1:=rfl;have e2:Jx 15=0:=rfl;omega
section
def r10 (x0:Int) (a:Option Addr) (n c:Nat) (x2 x3:Int) (x4:Bool) (x5:Int) (x6:By) (x7:Bool) (x8:By) (x9:Bool):Value:=.agg #[I x0,.slice a n c,I x2,I x3,.bool x4,I x5,.string x6,.bool x7,.string x8,.bool x9]
theorem top_le {is:List I3} {s:St} (hs:Eb is s) (h:1<=s.stack.length):(Bp s.stack).size<=2000:=by
 apply hs.size
 unfold Bp
 rw[gG,Iu (show s.stack.length-1<s.stack.length from qb)]
 exact List.getElem_mem _
theorem sub_le {is:List I3} {s:St} (hs:Eb is s) (h:2<=s.stack.length):(Ij s.stack).size<=2000:=by
 apply hs.size
 unfold Ij
 rw[gG,Iu (show s.stack.length-2<s.stack.length from qb)]
 exact List.getElem_mem _
theorem Bz.set {B:Nat} {is:List I3} {ys:List R3} {s:St} {w:World} {e:Ending} {b:Nat} (h:Bz B is ys s w e/\∃ cs,w.heap[b]?=some (.cells cs 195 (0,0))) (j:Nat) (x:Value) :
  Bz B is ys s (w.setCell ⟨b,j,none⟩ x) e/\∃ cs,(w.setCell ⟨b,j,none⟩ x).heap[b]?=some (.cells cs 195 (0,0)):=by
 obtain⟨h,hc⟩:=h
 refine⟨?_,by obtain⟨cs,hb⟩:=hc;exact⟨_,jB hb x⟩⟩
 rcases h with h|⟨s',h1,a',om,h2,h3⟩|h|⟨ask,nm,s',s'',h1,h2,h3,a',om,h4,h5⟩|h
 ·exact Or.inl h
 ·exact Or.inr (Or.inl ⟨s',h1,a',om,h2,(Gg ⟨h3,hc⟩ j x).1⟩)
 ·exact Or.inr (Or.inr (Or.inl h))
 ·exact Or.inr (Or.inr (Or.inr (Or.inl ⟨ask,nm,s',s'',h1,h2,h3,a',om,h4,(Gg ⟨h5,hc⟩ j x).1⟩)))
 ·exact Or.inr (Or.inr (Or.inr (Or.inr h)))
variable (B:Nat) (t:By) (n:Nat) (is:List I3) (s:St) (sa:Option Addr) (cp:Nat) (rest:List By) (nm q:By) (ra:Option Addr) (rcap:Nat) (ys:List R3) (w:World)
def Qcl (B:Nat) (is:List I3) (ys:List R3) (s:St) (w w':World) (e:Ending):Prop:=
 Below B w w'/\∃ x0 a n c x2 x3 x4 x5 x6 x7 x8 x9,e=.returned (r10 x0 a n c x2 x3 x4 x5 x6 x7 x8 x9)/\Bz B is ys s w' e
theorem Qbe (hB:B<=w.heap.size) (hs:Eb is s) (dy:s.pl<is.length) (hl200:is.length<=200) (fm:s.steps≠2000) (ei:ix is s.pl=⟨12,t,n⟩) (hfew:1<=s.stack.length) (erest:rest=Bh s.stack 1) (enm:nm=Bp s.stack) (eq:q=Er s.pl) (G9:ys.length<=200) (hr:Qu w ra ys) (ah:Rp B w sa cp rest) (xz:rest.length<50) :
  Calls prog 135 #[.agg #[I 12,.string t,I n],Dt ((s.pl:Int)+1) (.slice sa rest.length cp) ((s.steps:Int)+1) s.looks,.string nm,.string q,.slice ra ys.length rcap] w fun e w'=>Qcl B is ys s w w' e:=by
 subst erest;subst enm;subst eq
 have e1:((s.pl+1:Nat):Int)=(s.pl:Int)+1:=rfl
 have e2:((s.steps+1:Nat):Int)=(s.steps:Int)+1:=rfl
 have cz:=hs.steps
 have pc:=hs.looks
 have hp:=hs.pl
 have ff:¬ s.stack.length<Av 12:=by rw[show Av 12=1 from rfl];omega
 have pn:=top_le hs hfew
 have xv:=Hg dy fm (o:=12) ei
 rw[<- e1,<- e2]
 by_cases hn:Am (Bp s.stack)
 ·by_cases hl:s.looks=200
  ·refine(look_sp B 12 t n (s.pl+1) sa cp (Bh s.stack 1) (s.steps+1) s.looks (Bp s.stack) (Er s.pl) ra rcap ys w hB pn qb qb pc hn hl).mono ?_;rintro e w' ⟨hb,rfl⟩;exact⟨hb,_,_,_,_,_,_,_,_,_,_,_,_,rfl,Or.inl ⟨3,_,s.steps+1,xv.trans (Hi ff (Or.inl rfl) hn hl),_,_,_,_,_,rfl⟩⟩
  ·have xu:=xv.trans (Jm ff (Or.inl rfl) hn hl)
   by_cases hy:ys.length<=s.looks
   ·refine(look_wt B 12 t n (s.pl+1) sa cp (Bh s.stack 1) (s.steps+1) s.looks (Bp s.stack) (Er s.pl) ra rcap ys w hB pn qb qb pc hn hl hy).mono ?_;rintro e w' ⟨hb,rfl⟩;exact⟨hb,_,_,_,_,_,_,_,_,_,_,_,_,rfl,Or.inr (Or.inr (Or.inl ⟨true,_,_,xu,hy,_,_,_,_,_,rfl⟩))⟩
   ·have hy2:s.looks<ys.length:=qb
    cases hh:(rx ys s.looks).has with
    | false=>
     refine(look_miss B t n (s.pl+1) sa cp (Bh s.stack 1) (s.steps+1) s.looks (Bp s.stack) (Er s.pl) ra rcap ys w hB pn qb qb pc hn hl hy2 G9 hr hh).mono ?_;rintro e w' ⟨hb,rfl⟩;exact⟨hb,_,_,_,_,_,_,_,_,_,_,_,_,rfl,Or.inr (Or.inr (Or.inr (Or.inr ⟨true,_,_,4,_,s.steps+1,xu,hy2,by simp[Em,hh],_,_,_,_,_,rfl⟩)))⟩
    | true=>
     by_cases hcd:(rx ys s.looks).code=0
     ·refine(look_text B t n (s.pl+1) sa cp (Bh s.stack 1) (s.steps+1) s.looks (Bp s.stack) (Er s.pl) ra rcap ys w hB pn qb qb pc hn hl hy2 G9 hr hh hcd ah xz).mono ?_;rintro e w' ⟨hb,a',om,rfl,ho⟩;exact⟨hb,_,_,_,_,_,_,_,_,_,_,_,_,rfl,Or.inr (Or.inr (Or.inr (Or.inl ⟨true,_,_,⟨s.pl+1,Bh s.stack 1++[(rx ys s.looks).text],s.steps+1,s.looks+1⟩,xu,hy2,by simp[Em,hh,hcd],a',om,by simp[List.length_append],ho⟩)))⟩
     ·refine(look_below B t n (s.pl+1) sa cp (Bh s.stack 1) (s.steps+1) s.looks (Bp s.stack) (Er s.pl) ra rcap ys w hB pn qb qb pc hn hl hy2 G9 hr hh hcd).mono ?_;rintro e w' ⟨hb,rfl⟩;exact⟨hb,_,_,_,_,_,_,_,_,_,_,_,_,rfl,Or.inr (Or.inr (Or.inr (Or.inr ⟨true,_,_,5,_,s.steps+1,xu,hy2,by simp[Em,hh,hcd],_,_,_,_,_,rfl⟩)))⟩
 ·refine(look_no B 12 t n (s.pl+1) sa cp (Bh s.stack 1) (s.steps+1) s.looks (Bp s.stack) (Er s.pl) ra rcap ys w hB pn qb qb pc hn).mono ?_;rintro e w' ⟨hb,rfl⟩;exact⟨hb,_,_,_,_,_,_,_,_,_,_,_,_,rfl,Or.inl ⟨2,_,s.steps+1,xv.trans (Ld ff (Or.inl rfl) hn),_,_,_,_,_,rfl⟩⟩
theorem Qbd (hB:B<=w.heap.size) (hs:Eb is s) (dy:s.pl<is.length) (hl200:is.length<=200) (fm:s.steps≠2000) (ei:ix is s.pl=⟨13,t,n⟩) (hfew:1<=s.stack.length) (erest:rest=Bh s.stack 1) (enm:nm=Bp s.stack) (eq:q=Er s.pl) (G9:ys.length<=200) (hr:Qu w ra ys) (ah:Rp B w sa cp rest) (xz:rest.length<50) :
  Calls prog 135 #[.agg #[I 13,.string t,I n],Dt ((s.pl:Int)+1) (.slice sa rest.length cp) ((s.steps:Int)+1) s.looks,.string nm,.string q,.slice ra ys.length rcap] w fun e w'=>Qcl B is ys s w w' e:=by
 subst erest;subst enm;subst eq
 have e1:((s.pl+1:Nat):Int)=(s.pl:Int)+1:=rfl
 have e2:((s.steps+1:Nat):Int)=(s.steps:Int)+1:=rfl
 have cz:=hs.steps
 have pc:=hs.looks
 have hp:=hs.pl
 have ff:¬ s.stack.length<Av 13:=by rw[show Av 13=1 from rfl];omega
 have pn:=top_le hs hfew
 have xv:=Hg dy fm (o:=13) ei
 rw[<- e1,<- e2]
 by_cases hn:Am (Bp s.stack)
 ·by_cases hl:s.looks=200
  ·refine(look_sp B 13 t n (s.pl+1) sa cp (Bh s.stack 1) (s.steps+1) s.looks (Bp s.stack) (Er s.pl) ra rcap ys w hB pn qb qb pc hn hl).mono ?_;rintro e w' ⟨hb,rfl⟩;exact⟨hb,_,_,_,_,_,_,_,_,_,_,_,_,rfl,Or.inl ⟨3,_,s.steps+1,xv.trans (Hi ff (Or.inr rfl) hn hl),_,_,_,_,_,rfl⟩⟩
  ·have xu:=xv.trans (Jm ff (Or.inr rfl) hn hl)
   by_cases hy:ys.length<=s.looks
   ·refine(look_wt B 13 t n (s.pl+1) sa cp (Bh s.stack 1) (s.steps+1) s.looks (Bp s.stack) (Er s.pl) ra rcap ys w hB pn qb qb pc hn hl hy).mono ?_;rintro e w' ⟨hb,rfl⟩;exact⟨hb,_,_,_,_,_,_,_,_,_,_,_,_,rfl,Or.inr (Or.inr (Or.inl ⟨false,_,_,xu,hy,_,_,_,_,_,rfl⟩))⟩
   ·have hy2:s.looks<ys.length:=qb;refine(look_flag B t n (s.pl+1) sa cp (Bh s.stack 1) (s.steps+1) s.looks (Bp s.stack) (Er s.pl) ra rcap ys w hB pn qb qb pc hn hl hy2 G9 hr ah xz).mono ?_;rintro e w' ⟨hb,a',om,rfl,ho⟩;exact⟨hb,_,_,_,_,_,_,_,_,_,_,_,_,rfl,Or.inr (Or.inr (Or.inr (Or.inl ⟨false,_,_,⟨s.pl+1,Bh s.stack 1++[Co (rx ys s.looks).has],s.steps+1,s.looks+1⟩,xu,hy2,by simp[Em],a',om,by simp[List.length_append],ho⟩)))⟩
 ·refine(look_no B 13 t n (s.pl+1) sa cp (Bh s.stack 1) (s.steps+1) s.looks (Bp s.stack) (Er s.pl) ra rcap ys w hB pn qb qb pc hn).mono ?_;rintro e w' ⟨hb,rfl⟩;exact⟨hb,_,_,_,_,_,_,_,_,_,_,_,_,rfl,Or.inl ⟨2,_,s.steps+1,xv.trans (Ld ff (Or.inr rfl) hn),_,_,_,_,_,rfl⟩⟩
end
theorem own_out {g0:Addr} {n0 c0:Nat} (h:w.ownsRow B 9 1 v' (n+m) (xs++ss.map .string)) (hn:v'=nS↔(Value.slice (some g0) n0 c0)=nS/\m=0) (e0:n=0:=by rfl) (e1:xs=[]:=by rfl):∃ g cp,v'=.slice (p_ g) m cp/\w.ownsRow B 9 1 (.slice (p_ g) m cp) m (Ax ss):=by
 subst e0;subst e1
 rw[Nat.zero_add,List.nil_append] at h
 rcases h.2 with ⟨hv,_⟩|⟨g,cap,cur,hv,r⟩
 ·have:=(hn.mp hv).1;cases this
 ·subst hv;exact⟨g,cap,rfl,h⟩
theorem own_add {x:By} (h:w.ownsRow B 9 1 v' (m+1) (Ax ss++[.string x])):∃ g cp,v'=.slice (p_ g) (m+1) cp/\w.ownsRow B 9 1 (.slice (p_ g) (m+1) cp) (m+1) (Ax (ss++[x])):=by
 rcases h.2 with ⟨hv,h0⟩|⟨g,cap,cur,hv,r⟩
 ·omega
 ·subst hv;refine⟨g,cap,rfl,?_⟩;rw[show Ax (ss++[x])=Ax ss++[.string x] from qai];exact h
theorem Rp.mono (h:Rp B w a cp ss) (hB:B'<=B):Rp B' w a cp ss:=by
 exact qkk
theorem Bz.mono (h:Bz B is ys s w e) (hB:B'<=B):Bz B' is ys s w e:=by
 rcases h with h|⟨s',h1,a',om,h2,h3⟩|h|⟨ask,nm,s',s'',h1,h2,h3,a',om,h4,h5⟩|h
 ·exact Or.inl h
 ·exact Or.inr (Or.inl ⟨s',h1,a',om,h2,h3.mono hB⟩)
 ·exact Or.inr (Or.inr (Or.inl h))
 ·exact Or.inr (Or.inr (Or.inr (Or.inl ⟨ask,nm,s',s'',h1,h2,h3,a',om,h4,h5.mono hB⟩)))
 ·exact Or.inr (Or.inr (Or.inr (Or.inr h)))
theorem Tt (h:Bz B is ys s w e) (hc:∃ cs,w.heap[b]?=some (.cells cs 195 (0,0))) (v0 v1 v2 v3 v4 v5 v6 v7 v8 v9:Value) :
  Bz B is ys s ((((((((((w.setCell ⟨b,0,none⟩ v0).setCell ⟨b,1,none⟩ v1).setCell ⟨b,2,none⟩ v2).setCell ⟨b,3,none⟩ v3).setCell ⟨b,4,none⟩ v4).setCell ⟨b,5,none⟩ v5).setCell ⟨b,6,none⟩ v6).setCell ⟨b,7,none⟩ v7).setCell ⟨b,8,none⟩ v8).setCell ⟨b,9,none⟩ v9) e:=
 (Bz.set (Bz.set (Bz.set (Bz.set (Bz.set (Bz.set (Bz.set (Bz.set (Bz.set (Bz.set ⟨h,hc⟩ 0 v0) 1 v1) 2 v2) 3 v3) 4 v4) 5 v5) 6 v6) 7 v7) 8 v8) 9 v9).1
theorem step_go {o:Nat} (dy:s.pl<is.length) (fm:s.steps≠2000) (e:ix is s.pl=⟨o,t,n⟩) (ho:o<=11) (em:s.stack.length=m+Av o) {outs:List By} (eo:Ct o t n (Bp s.stack) (Ij s.stack)=outs) (hm:m+outs.length<=50) (hx:∀ x∈outs,x.size<=2000) (en:Ex o n s.pl (Bp s.stack)=npl) :
  Ca is s=.go ⟨npl,s.stack.take m++outs,s.steps+1,s.looks⟩:=by
 have er:Bh s.stack (Av o)=s.stack.take m:=by unfold Bh;rw[em,Nat.add_sub_cancel]
 have h:=(Hg dy fm e).trans (Qm qb ho (by
  unfold Ta;rw[eo,er,List.length_take];rintro (h|⟨x,h1,h2⟩)
  ·omega
  ·have:=hx x h1;omega))
 rw[h,eo,er,en]
theorem go_post {stk:List By} {a':Option Addr} {om:Nat} {pI:Int} (h:Ca is s=.go ⟨npl,stk,s.steps+1,s.looks⟩) (hk:stk.length=k) (hp:pI=(npl:Int)) (ho:w'.ownsRow B 9 1 (.slice a' k om) k (Ax stk)) :
  Bz B is ys s w' (.returned (Dt pI (.slice a' k om) ((s.steps:Int)+1) s.looks)):=by
 subst hk
 subst hp
 exact Or.inr (Or.inl ⟨_,h,a',om,rfl,ho⟩)
theorem Mw {v3 v4 v5 v6 v7 v8 v9:Value} (h:w.heap[b]?=some (.cells #[v0,v1,v2,v3,v4,v5,v6,v7,v8,v9] T (0,0))):w.cell? ⟨b,0,none⟩=some v0/\w.cell? ⟨b,1,none⟩=some v1/\w.cell? ⟨b,2,none⟩=some v2/\w.cell? ⟨b,3,none⟩=some v3/\w.cell? ⟨b,4,none⟩=some v4/\w.cell? ⟨b,5,none⟩=some v5/\w.cell? ⟨b,6,none⟩=some v6/\w.cell? ⟨b,7,none⟩=some v7/\w.cell? ⟨b,8,none⟩=some v8/\w.cell? ⟨b,9,none⟩=some v9:=by
 exact qna
abbrev rV (p:Int) (sv:Value) (s:Int) (l:Nat):Obj:=.cells #[I p,sv,I s,I l,.bool false,I 0,ze,.bool false,ze,.bool false] 195 (0,0)
structure Sd (w W:World) (i1:Nat) (pl:Int) (sv:Value) (st:Int) (lk:Nat) (o:Nat) (tt:By) (n:Nat):Prop where
 b:Bw w W
 r:W.heap[w.heap.size+1]?=some (rV pl sv st lk)
 z:W.heap[w.heap.size+1+1]?=some zR
 i:W.heap[i1]?=some (.cells #[I o,.string tt,I n] 128 (0,0))
theorem Sd.bl {lk o:Nat} (h:Sd w W i1 pl sv st lk o tt n) (hb:Bw W W'):Sd w W' i1 pl sv st lk o tt n:=⟨bN h.b hb,Oo hb h.r,Oo hb h.z,Oo hb h.i⟩
theorem Sd.at {lk o:Nat} (h:Sd w W i1 pl sv st lk o tt n) (hne:i1≠w.heap.size+1) (p:Int):Sd w (W.setCell ⟨w.heap.size+1,0,none⟩ (I p)) i1 p sv st lk o tt n:=
 ⟨h.b.setCell (p:=⟨w.heap.size+1,0,none⟩) (Nat.le_succ _) _,by rw[jB h.r];rfl,by rw[hC W ⟨w.heap.size+1,0,none⟩ _ _ qg];exact h.z,by rw[hC W ⟨w.heap.size+1,0,none⟩ _ _ hne];exact h.i⟩
theorem Sd.grown {lk o:Nat} {x:Obj} (h:Sd w W i1 pl sv st lk o tt n) (ho:(W.alloc x).ownsRow B 9 1 v m xs) (hB:w.heap.size<=B) (hg:(W.alloc x).grownBy W' v.ownBlock):Sd w W' i1 pl sv st lk o tt n:=by
 have HM:∀(b':Nat) (cs':Array Value) (T':Nat),T'≠9->W.heap[b']?=some (.cells cs' T' (0,0))->some b'≠v.ownBlock:=fun b' cs' T' I7 F3=>Gv I7 qbe ho
 have hs:=h.b.size
 exact⟨(h.b.alloc hs _).grown hg qh (fun k hk=>Nat.le_trans hB (ho.lt k hk).1),Ff hg HM _ _ 195 qd h.r,Ff hg HM _ _ 195 qd h.z,Ff hg HM _ _ 128 qd h.i⟩
theorem Sd.c {lk o:Nat} (h:Sd w W i1 pl sv st lk o tt n):W.cell? ⟨i1,0,none⟩=some (I o)/\W.cell? ⟨i1,1,none⟩=some (.string tt)/\W.cell? ⟨i1,2,none⟩=some (I n):=by
 refine⟨?_,?_,?_⟩<;>rw[cH h.i]<;>rfl
theorem out_tk {o:Nat} (ku:1<=o) (ho:o<=11) (tt:By) (n:Nat) (x y:By):Ct o tt n (if 0<Av o then x else ⟨#[]⟩) (if 1<Av o then y else ⟨#[]⟩)=Ct o tt n x y:=by
 exact qeu
theorem next_tk {o:Nat} (ku:1<=o) (ho:o<=11) (n p:Nat) (x:By):Ex o n p (if 0<Av o then x else ⟨#[]⟩)=Ex o n p x:=by
 exact qeu
theorem puts_pos {o:Nat} (ho:o<=11) (h:0<Jx o):o<=8:=by
 rcases (show o<=8\/o=9\/o=10\/o=11 from qb) with h|rfl|rfl|rfl
 ·exact h
 all_goals exact absurd h qd
theorem stB {w1:World} {o:Nat} (af:Below (((w.alloc (.cells #[.slice a is.length cap] 94)).alloc (rV s.pl sv s.steps s.looks)).alloc zR).heap.size (((w.alloc (.cells #[.slice a is.length cap] 94)).alloc (rV s.pl sv s.steps s.looks)).alloc zR) w1) (du:Cj w a is) (dy:s.pl<is.length) (EI:Hd (ix is s.pl=⟨o,tt,n⟩)) :
  ∃(W1:World) (b off:Nat),w1.setCell ⟨w.heap.size+1,2,none⟩ (I ((s.steps:Int)+1))=W1/\a=some ⟨b,off,none⟩/\w1.heap[w.heap.size+1]?=some (rV s.pl sv s.steps s.looks)/\w1.cell? ⟨w.heap.size,0,none⟩=some (.slice a is.length cap)/\W1.heap.size=w1.heap.size/\W1.cell? ⟨b,off+s.pl*3,none⟩=some (I o)/\W1.cell? ⟨b,off+s.pl*3+1,none⟩=some (.string tt)/\W1.cell? ⟨b,off+s.pl*3+2,none⟩=some (I n)/\W1.cell? ⟨w.heap.size,0,none⟩=some (.slice a is.length cap)/\W1.heap[w.heap.size+1]?=some (rV s.pl sv ((s.steps:Int)+1) s.looks)/\Bw w W1/\Sd w (W1.alloc (.cells #[I o,.string tt,I n] 128)) w1.heap.size s.pl sv ((s.steps:Int)+1) s.looks o tt n:=by
 obtain⟨ak,hz,hr,hc⟩:=op3 w a is.length cap s.pl sv s.steps s.looks
 have bg:=bN ak af
 have bh:=Oo af hz
 have lj:=Oo af hr
 have hc1:=Oo af hc
 obtain⟨W1,yl⟩:=Ai (w1.setCell ⟨w.heap.size+1,2,none⟩ (I ((s.steps:Int)+1)))
 have xd:Bw w W1:=by rw[<- yl];exact bg.setCell (p:=⟨w.heap.size+1,2,none⟩) (Nat.le_succ _) _
 have hzW:W1.heap[w.heap.size+1+1]?=some zR:=by rw[<- yl,hC w1 ⟨w.heap.size+1,2,none⟩ _ _ qg];exact bh
 have hrW:W1.heap[w.heap.size+1]?=some (rV s.pl sv ((s.steps:Int)+1) s.looks):=by rw[<- yl,jB lj];rfl
 have hcW:W1.heap[w.heap.size]?=some (.cells #[.slice a is.length cap] 94 (0,0)):=by rw[<- yl,hC w1 ⟨w.heap.size+1,2,none⟩ _ _ qg];exact hc1
 have wg:W1.heap.size=w1.heap.size:=by rw[<- yl];simp[go_sem]
 obtain⟨b,off,rfl,e1,e2,e3⟩:=(du.bl xd) s.pl dy
 rw[EI.o] at e1 e2 e3
 exact⟨W1,b,off,yl,rfl,lj,by rw[cH hc1];rfl,wg,e1,e2,e3,by rw[cH hcW];rfl,hrW,xd,xd.alloc xd.size _,by rw[Lib.alloc_old _ _ _ (Af hrW)];exact hrW,by rw[Lib.alloc_old _ _ _ (Af hzW)];exact hzW,by rw[<- wg];exact Be _ _⟩
theorem Qi (h:Rp B w a cp ss):(a=none/\cp=0/\ss=[])\/∃ g,a=p_ g/\ss.length<=cp:=by
 rcases h.2 with ⟨hv,h0⟩|⟨g,cap,cur,hv,_,_,hc,_⟩
 ·simp only[Value.slice.injEq] at hv;exact Or.inl ⟨hv.1,hv.2.2,List.length_eq_zero_iff.mp h0⟩
 ·simp only[Value.slice.injEq] at hv;exact Or.inr ⟨g,hv.1,qb⟩
theorem own_at {g:Nat} (h:Rp B w (p_ g) cp ss) (i:Nat) (hi:i<ss.length):w.cell? ⟨g,i,none⟩=some (.string (ss.getD i ByteArray.empty)):=by
 rw[World.ownsRow.cellAt h i qb]
 unfold Ax
 rw[List.getElem?_map,Iu hi,gG,Iu hi]
 rfl
theorem Rp.belowN (h:Rp B w a cp ss) (hb:Bw w w'):Rp B w' a cp ss:=Ac h hb
theorem step_in (a:Option Addr) (cap:Nat) (is:List I3) (s:St) (sa:Option Addr) (cp:Nat) (ra:Option Addr) (rcap:Nat) (ys:List R3) (w:World) (B0:Nat) (hv:Au is=true) (hs:Eb is s) (du:Cj w a is) (dy:s.pl<is.length) (fm:s.steps≠2000) (fx:Rp B0 w sa cp s.stack) (o:Nat) (tt:By) (n:Nat) (ei:ix is s.pl=⟨o,tt,n⟩) (ku:1<=o) (ho:o<=15) (hn:n<=2000) (G9:ys.length<=200) (A6:Qu w ra ys) :
  Calls prog 114 #[.agg #[.slice a is.length cap],Dt s.pl (.slice sa s.stack.length cp) s.steps s.looks,.slice ra ys.length rcap] w fun e w'=>Bw w w'/\Bz w.heap.size is ys s w' e:=by
 have EI:=hid ei
 clear ei
 have hplI:(s.pl:Int)<(is.length:Int):=qb
 have hst3:((s.steps:Int) == 2000)=false:=qh
 have dh:=Dh hv
 have uy:=hs.pl
 have cz:=hs.steps
 have pc:=hs.looks
 have xz:=hs.len
 obtain⟨q,eq⟩:=Ai (Er s.pl)
 have EQ:=hid eq
 have HD:Hd _:=dcH eq qb
 clear eq
 obtain⟨htk2,hpt2⟩:=tp_le o ho
 have HT0:=hid (tkH ku ho)
 have hOe:=fun h=>out_tk ku (h:o<=11) tt n (Bp s.stack) (Ij s.stack)
 have hNe:=fun h=>next_tk ku (h:o<=11) n s.pl (Bp s.stack)
 have hPp:o<=11->0<Jx o->o<=8:=puts_pos
 have uq:=fun (h:o<=11) a b=>Qas o ku h tt n a b
 have hTm:∀ {l:List By},l.length<=50->¬ l.length<Av o->50<l.length-Av o+Jx o->o<=11:=Ti ku ho
 have h1t:12<=o->Av o=1:=fun h=>by rcases (show o=12\/o=13\/o=14\/o=15 from qb) with rfl|rfl|rfl|rfl<;>rfl
 have hBad:=fun (hf:¬ s.stack.length<Av o) (hm:50<s.stack.length-Av o+Jx o)=>(Hg dy fm EI.o).trans (Hh hf (Ti ku ho hs.len hf hm) (Or.inl (by rw[Qas o ku (Ti ku ho hs.len hf hm)];unfold Bh;rw[List.length_take];omega)))
 have hFew:=fun (hf:s.stack.length<Av o)=>(Hg dy fm EI.o).trans (Nf hf)
 obtain⟨tk,etk⟩:=Ai (Av o)
 obtain⟨pt,ept⟩:=Ai (Jx o)
 rw[etk] at htk2 HT0 hOe hNe h1t hBad hFew
 rw[ept] at hpt2 HT0 hPp hBad
 have HBD:Hd (s.stack.length<tk\/(¬ s.stack.length<tk/\50<s.stack.length-tk+pt)->Ca is s=.over 2 q (s.steps+1)):=fun h=>by rw[<- EQ.o];exact h.elim hFew (fun h=>hBad h.1 h.2)
 have ET:=hid etk
 have H1T:=hid h1t
 clear hBad hFew hTm etk h1t
 unfold Dt
 go_enter func114,ntmps114
 go_wp2_with fail
 refine(HD.o _).mono ?_
 rintro e w1 ⟨rfl,af⟩
 obtain⟨W1,b,off,yl,rfl,lj,x0,wg,e1,e2,e3,xW,hrW,xd,HS⟩:=stB af du dy EI
 clear af HD
 obtain⟨W2,eW2⟩:=Ai (W1.alloc (.cells #[I o,.string tt,I n] 128))
 rw[eW2] at HS
 obtain⟨r0,r1,r2,r3,r4,r5,r6,r7,r8,r9⟩:=Mw lj
 obtain⟨y0,y1,y2,y3,y4,y5,y6,y7,y8,y9⟩:=Mw hrW
 have fr:=fZ lj
 obtain⟨b0,b1,b2,b3,b4,b5,b6,b7,b8,b9⟩:=Mw HS.r
 obtain⟨i0,i1,i2⟩:=HS.c
 have ag:=HS.b
 have HSK:=hid (fx.belowN ag)
 have cw:=hid HS
 have th:w.heap.size<=w.heap.size+1+1:=qb
 clear HS hrW lj fx
 go_upto_region 9 with (first|(go_at_call 134;refine(HT0.o _).mono ?_;rintro e w9 ⟨rfl,rfl⟩))
 by_cases sf:s.stack.length<tk\/(¬ s.stack.length<tk/\50<s.stack.length-tk+pt)
 ·have fj:=hid (HBD.o sf)
  rcases sf with h|⟨h,h'⟩
  case inl=>
   have hfI:(s.stack.length:Int)<(tk:Int):=qb;clear h;exact qhp
  case inr=>
   have hfI:(tk:Int)<=(s.stack.length:Int):=qb;have M8:50<(s.stack.length:Int)-(tk:Int)+(pt:Int):=qb;clear h h';exact qhp
 obtain⟨m,em⟩:∃ m,s.stack.length=m+tk:=⟨s.stack.length-tk,qb⟩
 have hmany:m+pt<=50:=qb
 obtain⟨A,eA⟩:=Ai ((if 0<tk then Bp s.stack else ⟨#[]⟩))
 obtain⟨Bv,eBv⟩:=Ai ((if 1<tk then Ij s.stack else ⟨#[]⟩))
 have hA:A.size<=2000:=by
  rw[<- eA];split
  ·exact top_le hs qb
  ·decide
 have hBv:Bv.size<=2000:=by
  rw[<- eBv];split
  ·exact sub_le hs qb
  ·decide
 rw[eA,eBv] at hOe
 rw[eA] at hNe
 have HP:Hd (o<=11->0<pt->∀ W:World,Calls prog 136 #[.agg #[I (o:Int),.string tt,I n],.string A,.string Bv] W fun e w'=>Bw W w'/\Lu w' e (Ct o tt n A Bv)):=fun h h' W=>plain_any tt n A Bv W o hA hBv hn ku (hPp h h')
 have hOl:=fun h=>uq h A Bv
 obtain⟨outs,eO⟩:=Ai (Ct o tt n A Bv)
 obtain⟨np,eN⟩:=Ai (Ex o n s.pl A)
 rw[ept,eO] at hOl
 rw[eO] at hOe HP
 rw[eN] at hNe
 have OL:=hid hOl
 have NE:=hid eN
 have NT:=hid hNe
 have hfI:(tk:Int)<=(s.stack.length:Int):=qb
 have M8:(s.stack.length:Int)-(tk:Int)+(pt:Int)<=50:=qb
 have EM:=hid em
 have EA:=hid eA
 have EBv:=hid eBv
 have OE:=hid hOe
 clear uq hPp eO hOl eN hNe em eA eBv hOe ept sf HBD
 go_upto_if 68 with fail
 go_cut [11] (fun x wx=>x=.string A/\wx=W2)
 case first=>
  by_cases h0I:(0:Int)<(tk:Int)
  ·rcases Qi HSK.o with ⟨_,_,h⟩|⟨d,rfl,hcp⟩
   ·have:=EM.o;rw[h] at this;simp at this;omega
   ·obtain⟨l,el⟩:∃ l,s.stack.length=l+1:=⟨s.stack.length-1,qb⟩;have hk:=own_at HSK.o l qb;(have eT:Hd (s.stack.getD l ByteArray.empty=A):=by show _=_;rw[<- EA.o,if_pos qb];unfold Bp;rw[el,Nat.add_sub_cancel]);exact qkm
  ·have hA0:(⟨#[]⟩:By)=A:=by rw[<- EA.o,if_neg qb]
   exact qli
 case rest=>
 obtain⟨rfl,rfl⟩:=hcut
 go_upto_if 78 with fail
 go_cut [12] (fun x wx=>x=.string Bv/\wx=wc)
 case first=>
  by_cases h0I:(1:Int)<(tk:Int)
  ·rcases Qi HSK.o with ⟨_,_,h⟩|⟨d,rfl,hcp⟩
   ·have:=EM.o;rw[h] at this;simp at this;omega
   ·obtain⟨l,el⟩:∃ l,s.stack.length=l+1+1:=⟨s.stack.length-2,qb⟩;have hk:=own_at HSK.o l qb;(have eT:Hd (s.stack.getD l ByteArray.empty=Bv):=by show _=_;rw[<- EBv.o,if_pos qb];unfold Ij;rw[el];rfl);exact qkm
  ·have hA0:(⟨#[]⟩:By)=Bv:=by rw[<- EBv.o,if_neg qb]
   exact qli
 case rest=>
 obtain⟨rfl,rfl⟩:=hcut
 go_upto_region 17 with fail
 obtain⟨wk,rfl⟩:∃ wk,wk=wc:=⟨_,rfl⟩
 obtain⟨k0,hi,bp,G5,G4⟩:=info_parts Tryz.info9b
 have G7:=ag.size
 have hz1s:=Af cw.o.z
 rw[EM.o] at b1
 have hmtI:(m:Int)+(tk:Int)<=50:=zo EM.o
 have dm:(wk.alloc (.cells #[] 9)).ownsRow wk.heap.size 9 1 (.slice (p_ wk.heap.size) 0 0) 0 []:=World.ownsRow_lit (base:=wk.heap.size) (e:=9) (size:=1) wk #[] 0 (Nat.le_refl _) qm qg
 go_cut [13] (fun x wx=>∃ g c:Nat,x=.slice (p_ g) m c/\Hd (Sd w wx w1.heap.size s.pl (.slice sa s.stack.length cp) ((s.steps:Int)+1) s.looks o tt n)/\Hd (wx.ownsRow wk.heap.size 9 1 (.slice (p_ g) m c) m (Ax (s.stack.take m))))
 case first=>
  rcases Qi HSK.o with ⟨rfl,rfl,h⟩|⟨d,rfl,hcp⟩
  ·have e0:s.stack.length=0:=by rw[h];rfl
   have hm0:m=0:=zo EM.o;have ht0:tk=0:=zo EM.o;subst hm0;subst ht0;have HW:=hid dm;have HSd:=hid (cw.o.bl ((Below.refl wk.heap.size wk).alloc (Nat.le_refl _) (.cells #[] 9)));have c1:∀ x,(wk.alloc x).cell? ⟨w.heap.size+1,1,none⟩=some nS:=fun x=>alK wk _ _ x b1;clear b1 h e0
   go_wp2_with (at_builtin;refine wpList_append_own_none rfl (.tmp 87) (.tmp 95) 22 rfl wk.heap.size 9 k0 1 underlying22 hi _ 0 [] rfl dm rfl ?_)
   go_meet
   case rel=>exact⟨_,_,rfl,HSd,HW⟩
  ·have c1:=fun x=>alK wk _ _ x b1;have hcp2:m+tk<=cp:=by rw[<- EM.o];exact hcp
   have lm:∀ j u,((s.stack.take m).map Value.string)[j]?=some u->(wk.alloc (.cells #[] 9)).cell? ((⟨d,0,none⟩:Addr).add j)=some u:=fun j u hu=>by
    rw[List.getElem?_map] at hu;have hlm:=EM.o
    have hj:j<m:=by
     rcases Nat.lt_or_ge j m with h|h
     ·exact h
     ·rw[List.getElem?_eq_none qh] at hu;simp at hu
    have gh:=own_at HSK.o j qb;rw[Addr.add_lit,Nat.zero_add,World.cell?_alloc_lt _ _ _ (World.block_lt_of_cell? _ _ gh),gh,<- hu,List.getElem?_take,if_pos hj,gG,Iu (show j<s.stack.length from qb)];rfl
   have hlen2:((s.stack.take m).map Value.string).length=m*1:=by have:=EM.o;simp;omega
   have HN:=hid lm;have HLN:=hid hlen2;clear lm hlen2 hcp
   go_wp2_with (at_builtin;refine wpList_append_own _ rfl (.tmp 87) (.tmp 95) 22 rfl wk.heap.size 9 k0 ze 1 16 underlying22 hi bp G5 G4 rfl qd _ 0 [] rfl dm ⟨d,0,none⟩ m cp ((s.stack.take m).map .string) rfl HLN.o HN.o (by intro u hu;obtain⟨z,_,rfl⟩:=List.mem_map.mp hu;rfl) qm qb qg ?_;intro v' w2 ba ae dp;obtain⟨g,cpn,rfl,aq⟩:=own_out ba dp;have HSd:=hid (cw.o.grown dm G7 ae);have HW:=hid aq;clear ba ae dp aq)
   go_meet
   case rel=>exact⟨_,_,rfl,HSd,HW⟩
 case rest=>
 obtain⟨g,c,rfl,HSd,HW⟩:=hcut
 clear b0 b1 b2 b3 b4 b5 b6 b7 b8 b9 i0 i1 i2 e1 e2 e3 r0 r1 r2 r3 r4 r5 r6 r7 r8 r9 y0 y1 y2 y3 y4 y5 y6 y7 y8 y9 x0 xW fr yl du eW2 wg xd dm cw HSK
 have hne:w1.heap.size≠w.heap.size+1:=fun h=>by have h1:=HSd.o.i;rw[h,HSd.o.r] at h1;cases h1
 have io:=hid (HSd.o.at hne ((s.pl:Int)+1))
 have zn:=hid (Gg ⟨HW.o,_,HSd.o.r⟩ 0 (I ((s.pl:Int)+1))).1
 obtain⟨b0,b1,b2,b3,b4,b5,b6,b7,b8,b9⟩:=Mw HSd.o.r
 have fr:=fZ HSd.o.r
 obtain⟨W5,eW5⟩:=Ai (wc.setCell ⟨w.heap.size+1,0,none⟩ (I ((s.pl:Int)+1)))
 rw[eW5] at io zn
 obtain⟨i0,i1,i2⟩:=io.o.c
 have f5:=fZ io.o.r
 obtain⟨v0,v1,v2,v3,v4,v5,v6,v7,v8,v9⟩:=Mw io.o.r
 go_upto_block 0 with fail
 go_cut [13] (fun x wx=>x=.slice (p_ g) m c/\o<=11/\Hd (Sd w wx w1.heap.size (np:Int) (.slice sa s.stack.length cp) ((s.steps:Int)+1) s.looks o tt n)/\Hd (wx.ownsRow wk.heap.size 9 1 (.slice (p_ g) m c) m (Ax (s.stack.take m))))
 case first=>
  have ks:=hid (io.o.at hne (n:Int));have S9:=hid (Gg ⟨zn.o,_,io.o.r⟩ 0 (I (n:Int))).1;have ht:∀ k:Nat,o≠k->((o:Int) == (k:Int))=false:=fun k h=>qh
  rcases (show o<=9\/o=10\/o=11\/o=12\/o=13\/o=14\/o=15 from qb) with h|h|h|h|h|h|h
  ·have t8:o<=11:=qb;have ht5:=ht 15 qb;have ht4:=ht 14 qb;have ht3:=ht 13 qb;have Q7:=ht 12 qb;have ht1:((o:Int) == 11)=false:=qh;have ht0:((o:Int) == 10)=false:=qh;have e:np=s.pl+1:=by rw[<- NE.o];unfold Ex;rw[if_neg qb,if_neg qb]
   have E:=hid e;clear e;exact qmz
  ·have t8:o<=11:=qb;have ht5:=ht 15 qb;have ht4:=ht 14 qb;have ht3:=ht 13 qb;have Q7:=ht 12 qb;have ht0:((o:Int) == 10)=true:=qh;have e:np=n:=by rw[<- NE.o];unfold Ex;rw[if_pos h]
   exact qez
  ·have t8:o<=11:=qb;have ht5:=ht 15 qb;have ht4:=ht 14 qb;have ht3:=ht 13 qb;have Q7:=ht 12 qb;have ht1:((o:Int) == 11)=true:=qh;have ht0:((o:Int) == 10)=false:=qh
   cases hx1:A.toList.isEmpty with
   | true=>
    (have e:np=n:=by rw[<- NE.o];unfold Ex;rw[if_neg qb,if_pos ⟨h,by simp[Lj,hx1]⟩]);exact qez
   | false=>
    cases hx2:A.toList == [48] with
    | true=>
     (have e:np=n:=by rw[<- NE.o];unfold Ex;rw[if_neg qb,if_pos ⟨h,by simp[Lj,hx1,hx2]⟩]);exact qez
    | false=>
     (have e:np=s.pl+1:=by rw[<- NE.o];unfold Ex;rw[if_neg qb,if_neg (by simp[Lj,hx1,hx2])]);have E:=hid e;clear e h;exact qmz
  ·have ht5:=ht 15 qb;have ht4:=ht 14 qb;have Q7:((o:Int) == 12)=true:=qh;have e1:=H1T.o qb;have Z4:(s.stack.take m).length=m:=by have:=EM.o;rw[List.length_take];omega
   obtain⟨W7,eW7⟩:=Ai (W5.setCell ⟨w.heap.size+1,1,none⟩ (.slice (p_ g) m c));have Y4:W7.heap[w.heap.size+1]?=some (rV ((s.pl:Int)+1) (.slice (p_ g) m c) ((s.steps:Int)+1) s.looks):=by rw[<- eW7,jB io.o.r];rfl
   have F5:Bw w W7:=by rw[<- eW7];exact io.o.b.setCell (p:=⟨w.heap.size+1,1,none⟩) (Nat.le_succ _) _
   have hz7:W7.heap[w.heap.size+1+1]?=some zR:=by rw[<- eW7,hC _ ⟨w.heap.size+1,1,none⟩ _ _ qg];exact io.o.z
   have hi7:W7.heap[w1.heap.size]?=some (.cells #[I o,.string tt,I n] 128 (0,0)):=by rw[<- eW7,hC _ ⟨w.heap.size+1,1,none⟩ _ _ hne];exact io.o.i
   have F7:Hd (Sd w W7 w1.heap.size ((s.pl:Int)+1) (.slice (p_ g) m c) ((s.steps:Int)+1) s.looks o tt n):=⟨F5,Y4,hz7,hi7⟩;have ho7:=(Gg ⟨zn.o,_,io.o.r⟩ 1 (.slice (p_ g) m c)).1;rw[eW7] at ho7;have d7:Rp wk.heap.size W7 (p_ g) c (s.stack.take m):=by unfold Rp;rw[Z4];exact ho7
   have hsz7:wk.heap.size<=W7.heap.size:=zo ((ho7.lt g rfl));have hl:=Qbe wk.heap.size tt n is s (p_ g) c (s.stack.take m) A q ra rcap ys W7 hsz7 hs dy qb fm (by rw[EI.o,h];rfl) (zo EM.o) (by unfold Bh;rw[EM.o,e1,Nat.add_sub_cancel]) (by rw[<- EA.o,if_pos qb]) EQ.o.symm G9 (A6.bl F5) d7 (zo EM.o);unfold Dt at hl;rw[Z4,show ((12:Int))=(o:Int) from by rw[h];rfl] at hl;exact qhe
  ·have ht5:=ht 15 qb;have ht4:=ht 14 qb;have Q7:=ht 12 qb;have ht3:((o:Int) == 13)=true:=qh;have e1:=H1T.o qb;have Z4:(s.stack.take m).length=m:=by have:=EM.o;rw[List.length_take];omega
   obtain⟨W7,eW7⟩:=Ai (W5.setCell ⟨w.heap.size+1,1,none⟩ (.slice (p_ g) m c));have Y4:W7.heap[w.heap.size+1]?=some (rV ((s.pl:Int)+1) (.slice (p_ g) m c) ((s.steps:Int)+1) s.looks):=by rw[<- eW7,jB io.o.r];rfl
   have F5:Bw w W7:=by rw[<- eW7];exact io.o.b.setCell (p:=⟨w.heap.size+1,1,none⟩) (Nat.le_succ _) _
   have hz7:W7.heap[w.heap.size+1+1]?=some zR:=by rw[<- eW7,hC _ ⟨w.heap.size+1,1,none⟩ _ _ qg];exact io.o.z
   have hi7:W7.heap[w1.heap.size]?=some (.cells #[I o,.string tt,I n] 128 (0,0)):=by rw[<- eW7,hC _ ⟨w.heap.size+1,1,none⟩ _ _ hne];exact io.o.i
   have F7:Hd (Sd w W7 w1.heap.size ((s.pl:Int)+1) (.slice (p_ g) m c) ((s.steps:Int)+1) s.looks o tt n):=⟨F5,Y4,hz7,hi7⟩;have ho7:=(Gg ⟨zn.o,_,io.o.r⟩ 1 (.slice (p_ g) m c)).1;rw[eW7] at ho7;have d7:Rp wk.heap.size W7 (p_ g) c (s.stack.take m):=by unfold Rp;rw[Z4];exact ho7
   have hsz7:wk.heap.size<=W7.heap.size:=zo ((ho7.lt g rfl));have hl:=Qbd wk.heap.size tt n is s (p_ g) c (s.stack.take m) A q ra rcap ys W7 hsz7 hs dy qb fm (by rw[EI.o,h];rfl) (zo EM.o) (by unfold Bh;rw[EM.o,e1,Nat.add_sub_cancel]) (by rw[<- EA.o,if_pos qb]) EQ.o.symm G9 (A6.bl F5) d7 (zo EM.o);unfold Dt at hl;rw[Z4,show ((13:Int))=(o:Int) from by rw[h];rfl] at hl;exact qhe
  ·have ht5:=ht 15 qb;have ht4:((o:Int) == 14)=true:=qh;have e1:=H1T.o qb
   have fj:Hd (Ca is s=.over 1 A (s.steps+1)):=by
    show _=_;rw[<- EA.o,if_pos qb];exact(Hg dy fm EI.o).trans (Ku (by rw[ET.o];have:=EM.o;omega) h)
   clear e1 h;go_wp2_with fail;have hl:=Eo ((s.pl:Int)+1) sa s.stack.length cp ((s.steps:Int)+1) s.looks 1 A;unfold Dt at hl;refine(hl _).mono ?_;rintro e w4 ⟨rfl,cj⟩;have ib:=hid (io.o.bl cj);obtain⟨z0,z1,z2,z3,z4,z5,z6,z7,z8,z9⟩:=Mw ib.o.z;have fz:=fZ ib.o.z;clear hl cj;unfold Dx;go_wp2_with fail;exact bR (v:=Dx ((s.pl:Int)+1) (.slice sa s.stack.length cp) ((s.steps:Int)+1) s.looks 1 A) qbo rfl ⟨Pz ib.o.b th,Or.inl ⟨1,A,s.steps+1,fj.o,_,_,_,_,_,rfl⟩⟩
  ·have ht5:((o:Int) == 15)=true:=qh;have e1:=H1T.o qb
   have fj:Hd (Ca is s=.over 0 A (s.steps+1)):=by
    show _=_;rw[<- EA.o,if_pos qb];exact(Hg dy fm EI.o).trans (Ng (by rw[ET.o];have:=EM.o;omega) h)
   clear e1 h;go_wp2_with fail;have hl:=Eo ((s.pl:Int)+1) sa s.stack.length cp ((s.steps:Int)+1) s.looks 0 A;unfold Dt at hl;refine(hl _).mono ?_;rintro e w4 ⟨rfl,cj⟩;have ib:=hid (io.o.bl cj);obtain⟨z0,z1,z2,z3,z4,z5,z6,z7,z8,z9⟩:=Mw ib.o.z;have fz:=fZ ib.o.z;clear hl cj;unfold Dx;go_wp2_with fail;exact bR (v:=Dx ((s.pl:Int)+1) (.slice sa s.stack.length cp) ((s.steps:Int)+1) s.looks 0 A) qbo rfl ⟨Pz ib.o.b th,Or.inl ⟨0,A,s.steps+1,fj.o,_,_,_,_,_,rfl⟩⟩
 case rest=>
 obtain⟨rfl,t8,F7,HW7⟩:=hcut
 replace OE:=hid (OE.o t8)
 replace OL:=hid (OL.o t8)
 replace NT:=hid (NT.o t8)
 replace HP:=hid (HP.o t8)
 clear b0 b1 b2 b3 b4 b5 b6 b7 b8 b9 i0 i1 i2 v0 v1 v2 v3 v4 v5 v6 v7 v8 v9 f5 fr eW5 io zn HSd HW
 obtain⟨wl,rfl⟩:∃ wl,wl=wc:=⟨_,rfl⟩
 go_wp2_with fail
 go_loopw [13,14] (fun x k wr=>∃(j g c:Nat),j<=pt/\k=I j/\x=.slice (p_ g) (m+j) c/\Hd (Sd w wr w1.heap.size (np:Int) (.slice sa s.stack.length cp) ((s.steps:Int)+1) s.looks o tt n)/\Hd (wr.ownsRow wk.heap.size 9 1 (.slice (p_ g) (m+j) c) (m+j) (Ax (s.stack.take m++outs.take j)))/\Hd (∀ i,i<j->(outs.getD i ByteArray.empty).size<=2000)) (fun _ k _=>pt-(intOf k).toNat)
 case atStart=>exact⟨0,g,c,Nat.zero_le _,rfl,rfl,F7,by rw[List.take_zero,List.append_nil];exact HW7,fun i hi=>absurd hi (Nat.not_lt_zero _)⟩
 case round=>
  obtain⟨j,g',c',hj,rfl,rfl,HS,HW,HX⟩:=hrel;clear F7 HW7
  by_cases aj:(j:Int)<(pt:Int)
  ·obtain⟨i0,i1,i2⟩:=HS.o.c;go_wp2_with fail;refine(HP.o qb _).mono ?_;rintro e w3 ⟨aw,g3,c3,rfl,hx⟩;have hxj:=hx j (by rw[OL.o];omega);rw[OL.o];obtain⟨x,ex⟩:=Ai (outs.getD j ByteArray.empty);rw[ex] at hxj;have EX:=hid ex;have mh:=hid (HS.o.bl aw);have HW3:=hid (Ac HW.o aw);clear i0 i1 i2 hx aw HS HW ex
   by_cases de:(x.size:Int)<=2000
   ·have hown6:=HW3.o.alloc (.cells #[.string x] 9);have hw3:wk.heap.size<=w3.heap.size:=zo (HW3.o.lt g' rfl)
    go_wp2_with (at_builtin;refine wpList_append_own _ rfl (.tmp 158) (.tmp 163) 22 rfl wk.heap.size 9 k0 ze 1 16 underlying22 hi bp G5 G4 rfl qd _ _ _ rfl hown6 ⟨w3.heap.size,0,none⟩ 1 1 [.string x] rfl rfl ?_ qaf qm qb qh ?_;(focus (have:=cell_one_new w3 (.string x) 9;simpa using this));intro v6 w6 d7 M2 hnil6;obtain⟨g6,c6,rfl,hown8⟩:=own_add d7;have ks:=hid (mh.o.grown hown6 G7 M2);have S9:=hid hown8;clear hnil6 d7 M2 hown8)
    have hpI:(j:Int)+1<=2:=qb;go_roundw
    case rel=>
     refine⟨j+1,g6,c6,qb,qj,rfl,ks,?_,fun i hi=>?_⟩
     ·(have hjl:j<outs.length:=by rw[OL.o];omega);rw[List.take_add_one,Iu hjl,<- List.append_assoc];(have e:outs[j]=x:=by rw[<- EX.o,gG,Iu hjl];rfl);rw[e];exact S9
     ·rcases Nat.lt_or_ge i j with h|h
      ·exact HX.o i h
      ·obtain rfl:i=j:=qb;rw[EX.o];omega
    case measure=>simp[intOf];omega
   ·have fj:Hd (Ca is s=.over 2 q (s.steps+1)):=by
     (have hjl:j<outs.length:=by rw[OL.o];omega);(have e:outs[j]=x:=by rw[<- EX.o,gG,Iu hjl];rfl);show _=_;rw[<- EQ.o];exact(Hg dy fm EI.o).trans (Hh (by rw[ET.o,EM.o];omega) t8 (Or.inr ⟨x,by rw[<- OE.o,<- e];exact List.getElem_mem _,qb⟩))
    obtain⟨b0,b1,b2,b3,b4,b5,b6,b7,b8,b9⟩:=Mw mh.o.r;go_wp2_with fail;have hl:=Eo (np:Int) sa s.stack.length cp ((s.steps:Int)+1) s.looks 2 q;unfold Dt at hl;refine(hl _).mono ?_;rintro e w4 ⟨rfl,cj⟩;have ib:=hid (mh.o.bl cj);obtain⟨z0,z1,z2,z3,z4,z5,z6,z7,z8,z9⟩:=Mw ib.o.z;have fz:=fZ ib.o.z;clear hl cj mh HW3 b0 b1 b2 b3 b4 b5 b6 b7 b8 b9;unfold Dx;go_wp2_with fail;exact bR (v:=Dx np (.slice sa s.stack.length cp) ((s.steps:Int)+1) s.looks 2 q) qbo rfl ⟨Pz ib.o.b th,Or.inl ⟨2,q,s.steps+1,fj.o,_,_,_,_,_,rfl⟩⟩
  ·obtain rfl:j=pt:=qb
   have HSTEP:Hd (Ca is s=.go ⟨np,s.stack.take m++outs,s.steps+1,s.looks⟩):=step_go dy fm EI.o t8 (by rw[ET.o];exact EM.o) (outs:=outs) OE.o.symm (by rw[OL.o];exact hmany) (fun x hx=>by
    obtain⟨i,hi,rfl⟩:=List.getElem_of_mem hx;have:=HX.o i (by rw[<- OL.o];exact hi);rw[gG,Iu hi] at this;exact this) NT.o.symm
   have J4:Hd (wr.ownsRow wk.heap.size 9 1 (.slice (p_ g') (m+j) c') (m+j) (Ax (s.stack.take m++outs))):=by
    have h:=HW.o;rw[List.take_of_length_le (Nat.le_of_eq OL.o)] at h;exact h
   obtain⟨b0,b1,b2,b3,b4,b5,b6,b7,b8,b9⟩:=Mw HS.o.r;have fp:=fZ HS.o.r;obtain⟨z0,z1,z2,z3,z4,z5,z6,z7,z8,z9⟩:=Mw HS.o.z;have fz:=fZ HS.o.z;clear HW;go_wp2_with fail;exact bR (v:=Dt (np:Int) (.slice (p_ g') (m+j) c') ((s.steps:Int)+1) s.looks) (by simp[results,results114,go_sem,Dt,z0,z1,z2,z3,z4,z5,z6,z7,z8,z9]) rfl ⟨Pz ((HS.o.b.setCell (p:=⟨w.heap.size+1,1,none⟩) (Nat.le_succ _) _)) th,(Tt (go_post HSTEP.o (by have:=OL.o;have:=EM.o;simp;omega) rfl (Gg ⟨J4.o,_,HS.o.r⟩ 1 _).1) ⟨_,by rw[hC _ ⟨w.heap.size+1,1,none⟩ _ _ qg];exact HS.o.z⟩ _ _ _ _ _ _ _ _ _ _).mono G7⟩
theorem l2Step_any (a:Option Addr) (cap:Nat) (is:List I3) (s:St) (sa:Option Addr) (cp:Nat) (ra:Option Addr) (rcap:Nat) (ys:List R3) (w:World) (B0:Nat) (hv:Au is=true) (hs:Eb is s) (du:Cj w a is) (fx:Rp B0 w sa cp s.stack) (G9:ys.length<=200) (hr:Qu w ra ys) :
  Calls prog 114 #[.agg #[.slice a is.length cap],Dt s.pl (.slice sa s.stack.length cp) s.steps s.looks,.slice ra ys.length rcap] w fun e w'=>Bw w w'/\Bz w.heap.size is ys s w' e:=by
 by_cases dy:s.pl<is.length
 ·by_cases fm:s.steps=2000
  ·exact step_spent a cap is s sa cp ra rcap ys w hv hs dy fm
  ·obtain⟨o,tt,n,ei,ku,nj,ht,hn,V7⟩:=Ks hv dy;exact step_in a cap is s sa cp ra rcap ys w B0 hv hs du dy fm fx o tt n ei ku nj hn G9 hr
 ·exact Qam a cap is s sa cp ra rcap ys w hv hs dy
theorem reps_size (h:Og ys=true) (hk:k<ys.length):(rx ys k).text.size<=2000:=by
 simp only[Og,Bool.and_eq_true,decide_eq_true_eq] at h
 have:=h.2 k hk
 simp only[Kn,Bool.and_eq_true,decide_eq_true_eq] at this
 omega
def Gi (is:List I3) (ys:List R3) (B:Nat) (w:World) (kx:Nat) (x0:Int) (ax:Option Addr) (nx cx:Nat) (x2 x3:Int) (x4:Bool) (x5:Int) (x6:By) (x7:Bool) (x8:By) (x9:Bool):Prop:=
 (∃ s,Eb is s/\(∀ r,Ce is ys s r->Ce is ys Ma r)/\Rp B w ax cx s.stack/\2002-s.steps<=kx/\x0=s.pl/\nx=s.stack.length/\x2=s.steps/\x3=s.looks/\x4=false/\x5=0/\x6=⟨#[]⟩/\x7=false/\x8=⟨#[]⟩/\x9=false)∨
 (∃ n:Nat,Ce is ys Ma (.over x5 x6 n)/\x2=n/\x4=true/\x9=false)∨
 (∃ n:Nat,Ce is ys Ma (.wait x7 x8 n)/\x2=n/\x4=false/\x9=true)
theorem Qan {s':St} (hv:Au is=true) (hs:Eb is s) (h:Ca is s=.go s'):s'.steps=s.steps+1:=by
 by_cases hp:s.pl<is.length
 ·by_cases h2:s.steps=2000
  ·rw[Jf hp h2] at h;cases h
  ·obtain⟨o,t,n,e,h3,h4,h5,h6,h7⟩:=Ks hv hp;rw[Hg hp h2 e] at h
   by_cases hf:s.stack.length<Av o
   ·rw[Nf hf] at h;cases h
   ·rcases (show o<=11\/(o=12\/o=13)\/o=14\/o=15 from qb) with ho|ho|ho|ho
    ·by_cases hb:Ta o t n s.stack
     ·rw[Hh hf ho hb] at h;cases h
     ·rw[Qm hf ho hb] at h;cases h;rfl
    ·exact qjg
    ·rw[Ku hf ho] at h;cases h
    ·rw[Ng hf ho] at h;cases h
 ·rw[Km hp] at h;cases h
theorem stand_step (hv:Au is=true) (hs:Eb is s) (hrep:Og ys=true) (hF:∀ r,Ce is ys s r->Ce is ys Ma r) (h:Bz B is ys s w' e) :
  ∃ x0 ax nx cx x2 x3 x4 x5 x6 x7 x8 x9,e=.returned (r10 x0 ax nx cx x2 x3 x4 x5 x6 x7 x8 x9)/\Gi is ys B w' (2001-s.steps) x0 ax nx cx x2 x3 x4 x5 x6 x7 x8 x9:=by
 have hl:=Dh hv
 rcases h with ⟨c,t,n,h,pl,va,vn,vc,lk,rfl⟩|⟨s',h,a',om,rfl,ho⟩|⟨ask,nm,s',h,hy,pl,va,vn,vc,lk,rfl⟩|⟨ask,nm,s',s'',h,hy,ha,a',om,rfl,ho⟩|⟨ask,nm,s',c,t,n,h,hy,ha,pl,va,vn,vc,lk,rfl⟩
 ·exact⟨_,_,_,_,_,_,_,_,_,_,_,_,rfl,Or.inr (Or.inl ⟨n,hF _ (.over h),rfl,rfl,rfl⟩)⟩
 ·have h1:=Oz hv hs h;have h2:=Qan hv hs h;exact⟨_,_,_,_,_,_,_,_,_,_,_,_,rfl,Or.inl ⟨s',h1.1,fun r hr=>hF r (.go h hr),ho,qb,rfl,rfl,rfl,rfl,rfl,rfl,rfl,rfl,rfl,rfl⟩⟩
 ·exact⟨_,_,_,_,_,_,_,_,_,_,_,_,rfl,Or.inr (Or.inr ⟨s'.steps,hF _ (.wait h hy),rfl,rfl,rfl⟩)⟩
 ·obtain⟨q1,q2,q3,q4,q5,q6,q7,q8⟩:=Hf h
  have fm:s.steps≠2000:=by
   intro h2;rw[Jf q5 h2] at h;cases h
  have H7:Eb is s':=by
   have h1:=Td hs fm q4
   have e:s'=⟨s.pl,Bh s.stack 1,s.steps+1,s.looks+1⟩:=by
    cases s'
    simp only[St.mk.injEq];exact⟨q2,q7,q3,q1⟩
   rw[e];exact h1
  have t6:s'.stack.length<50:=by rw[q7,Bf];have:=hs.len;omega
  have Q8:Eb is s''/\s''.steps=s'.steps:=by
   unfold Em at ha
   split at ha
   ·cases ha;exact⟨Kk H7 hl.2 qb t6 qcs,rfl⟩
   ·split at ha
    ·cases ha
    ·split at ha
     ·cases ha
     ·cases ha;exact⟨Kk H7 hl.2 qb t6 (reps_size hrep hy),rfl⟩
  exact⟨_,_,_,_,_,_,_,_,_,_,_,_,rfl,Or.inl ⟨s'',Q8.1,fun r hr=>hF r (.ans h hy ha hr),ho,qb,rfl,rfl,rfl,rfl,rfl,rfl,rfl,rfl,rfl,rfl⟩⟩
 ·exact⟨_,_,_,_,_,_,_,_,_,_,_,_,rfl,Or.inr (Or.inl ⟨n,hF _ (.end h hy ha),rfl,rfl,rfl⟩)⟩
theorem Gi.set {nx:Nat} (h:Gi is ys B w kx x0 ax nx cx x2 x3 x4 x5 x6 x7 x8 x9/\∃ cs,w.heap[b]?=some (.cells cs 195 (0,0))) (j:Nat) (x:Value) :
  Gi is ys B (w.setCell ⟨b,j,none⟩ x) kx x0 ax nx cx x2 x3 x4 x5 x6 x7 x8 x9/\∃ cs,(w.setCell ⟨b,j,none⟩ x).heap[b]?=some (.cells cs 195 (0,0)):=by
 obtain⟨h,hc⟩:=h
 refine⟨?_,by obtain⟨cs,hb⟩:=hc;exact⟨_,jB hb x⟩⟩
 rcases h with ⟨s,h1,h2,h3,h4⟩|h
 ·exact Or.inl ⟨s,h1,h2,(Gg ⟨h3,hc⟩ j x).1,h4⟩
 ·exact Or.inr h
theorem Gi.mono {nx:Nat} (h:Gi is ys B w kx x0 ax nx cx x2 x3 x4 x5 x6 x7 x8 x9) (hB:B'<=B):Gi is ys B' w kx x0 ax nx cx x2 x3 x4 x5 x6 x7 x8 x9:=by
 rcases h with ⟨s,h1,h2,h3,h4⟩|h
 ·exact Or.inl ⟨s,h1,h2,h3.mono hB,h4⟩
 ·exact Or.inr h
theorem Qao {nx:Nat} (h:Gi is ys B w kx x0 ax nx cx x2 x3 x4 x5 x6 x7 x8 x9) (hc:∃ cs,w.heap[b]?=some (.cells cs 195 (0,0))) (v0 v1 v2 v3 v4 v5 v6 v7 v8 v9:Value) :
  Gi is ys B ((((((((((w.setCell ⟨b,0,none⟩ v0).setCell ⟨b,1,none⟩ v1).setCell ⟨b,2,none⟩ v2).setCell ⟨b,3,none⟩ v3).setCell ⟨b,4,none⟩ v4).setCell ⟨b,5,none⟩ v5).setCell ⟨b,6,none⟩ v6).setCell ⟨b,7,none⟩ v7).setCell ⟨b,8,none⟩ v8).setCell ⟨b,9,none⟩ v9) kx x0 ax nx cx x2 x3 x4 x5 x6 x7 x8 x9:=(Gi.set (Gi.set (Gi.set (Gi.set (Gi.set (Gi.set (Gi.set (Gi.set (Gi.set (Gi.set ⟨h,hc⟩ 0 v0) 1 v1) 2 v2) 3 v3) 4 v4) 5 v5) 6 v6) 7 v7) 8 v8) 9 v9).1
theorem Qch {u3 u4 u5 u6 u7 u8 u9:Value} (h:w.heap[b]?=some (.cells #[u0,u1,u2,u3,u4,u5,u6,u7,u8,u9] 195 (0,0))) (v0 v1 v2 v3 v4 v5 v6 v7 v8 v9:Value) :
  ((((((((((w.setCell ⟨b,0,none⟩ v0).setCell ⟨b,1,none⟩ v1).setCell ⟨b,2,none⟩ v2).setCell ⟨b,3,none⟩ v3).setCell ⟨b,4,none⟩ v4).setCell ⟨b,5,none⟩ v5).setCell ⟨b,6,none⟩ v6).setCell ⟨b,7,none⟩ v7).setCell ⟨b,8,none⟩ v8).setCell ⟨b,9,none⟩ v9).heap[b]?=some (.cells #[v0,v1,v2,v3,v4,v5,v6,v7,v8,v9] 195 (0,0)):=by
 have h0:(w.setCell ⟨b,0,none⟩ v0).heap[b]?=some (.cells #[v0,u1,u2,u3,u4,u5,u6,u7,u8,u9] 195 (0,0)):=by rw[jB h];rfl
 have h1:((w.setCell ⟨b,0,none⟩ v0).setCell ⟨b,1,none⟩ v1).heap[b]?=some (.cells #[v0,v1,u2,u3,u4,u5,u6,u7,u8,u9] 195 (0,0)):=by rw[jB h0];rfl
 have h2:(((w.setCell ⟨b,0,none⟩ v0).setCell ⟨b,1,none⟩ v1).setCell ⟨b,2,none⟩ v2).heap[b]?=some (.cells #[v0,v1,v2,u3,u4,u5,u6,u7,u8,u9] 195 (0,0)):=by rw[jB h1];rfl
 have h3:((((w.setCell ⟨b,0,none⟩ v0).setCell ⟨b,1,none⟩ v1).setCell ⟨b,2,none⟩ v2).setCell ⟨b,3,none⟩ v3).heap[b]?=some (.cells #[v0,v1,v2,v3,u4,u5,u6,u7,u8,u9] 195 (0,0)):=by rw[jB h2];rfl
 have h4:(((((w.setCell ⟨b,0,none⟩ v0).setCell ⟨b,1,none⟩ v1).setCell ⟨b,2,none⟩ v2).setCell ⟨b,3,none⟩ v3).setCell ⟨b,4,none⟩ v4).heap[b]?=some (.cells #[v0,v1,v2,v3,v4,u5,u6,u7,u8,u9] 195 (0,0)):=by rw[jB h3];rfl
 have h5:((((((w.setCell ⟨b,0,none⟩ v0).setCell ⟨b,1,none⟩ v1).setCell ⟨b,2,none⟩ v2).setCell ⟨b,3,none⟩ v3).setCell ⟨b,4,none⟩ v4).setCell ⟨b,5,none⟩ v5).heap[b]?=some (.cells #[v0,v1,v2,v3,v4,v5,u6,u7,u8,u9] 195 (0,0)):=by rw[jB h4];rfl
 have h6:(((((((w.setCell ⟨b,0,none⟩ v0).setCell ⟨b,1,none⟩ v1).setCell ⟨b,2,none⟩ v2).setCell ⟨b,3,none⟩ v3).setCell ⟨b,4,none⟩ v4).setCell ⟨b,5,none⟩ v5).setCell ⟨b,6,none⟩ v6).heap[b]?=some (.cells #[v0,v1,v2,v3,v4,v5,v6,u7,u8,u9] 195 (0,0)):=by rw[jB h5];rfl
 have h7:((((((((w.setCell ⟨b,0,none⟩ v0).setCell ⟨b,1,none⟩ v1).setCell ⟨b,2,none⟩ v2).setCell ⟨b,3,none⟩ v3).setCell ⟨b,4,none⟩ v4).setCell ⟨b,5,none⟩ v5).setCell ⟨b,6,none⟩ v6).setCell ⟨b,7,none⟩ v7).heap[b]?=some (.cells #[v0,v1,v2,v3,v4,v5,v6,v7,u8,u9] 195 (0,0)):=by rw[jB h6];rfl
 have h8:(((((((((w.setCell ⟨b,0,none⟩ v0).setCell ⟨b,1,none⟩ v1).setCell ⟨b,2,none⟩ v2).setCell ⟨b,3,none⟩ v3).setCell ⟨b,4,none⟩ v4).setCell ⟨b,5,none⟩ v5).setCell ⟨b,6,none⟩ v6).setCell ⟨b,7,none⟩ v7).setCell ⟨b,8,none⟩ v8).heap[b]?=some (.cells #[v0,v1,v2,v3,v4,v5,v6,v7,v8,u9] 195 (0,0)):=by rw[jB h7];rfl
 have h9:((((((((((w.setCell ⟨b,0,none⟩ v0).setCell ⟨b,1,none⟩ v1).setCell ⟨b,2,none⟩ v2).setCell ⟨b,3,none⟩ v3).setCell ⟨b,4,none⟩ v4).setCell ⟨b,5,none⟩ v5).setCell ⟨b,6,none⟩ v6).setCell ⟨b,7,none⟩ v7).setCell ⟨b,8,none⟩ v8).setCell ⟨b,9,none⟩ v9).heap[b]?=some (.cells #[v0,v1,v2,v3,v4,v5,v6,v7,v8,v9] 195 (0,0)):=by rw[jB h8];rfl
 exact h9
theorem Yh (a ra:Option Addr) (cap rcap:Nat) (is:List I3) (ys:List R3) (w:World) (hc:Cj w a is) (hr:Qu w ra ys) (hl:is.length<=1048576) (hs:∀ i,(ix is i).text.size<=9223372036854775807) (gp:∀ i,(rx ys i).text.size<=9223372036854775807) (V5:Au is=true) (V4:Og ys=true) :
  Calls prog 89 #[.agg #[.slice a is.length cap],.slice ra ys.length rcap] w fun e w'=>Bw w w'/\∃ r,Ce is ys Ma r/\e=.returned (resT r):=by
 have ak:Bw w ((w.alloc (.cells #[.slice a is.length cap] 94)).alloc (.cells #[.bool false,I 0,ze,.bool false,ze,I 0] 165)):=(aN _ _).alloc qg _
 have hk:((w.alloc (.cells #[.slice a is.length cap] 94)).alloc (.cells #[.bool false,I 0,ze,.bool false,ze,I 0] 165)).heap[w.heap.size+1]?=some (.cells #[.bool false,I 0,ze,.bool false,ze,I 0] 165 (0,0)):=by
  exact qil
 have F1:((w.alloc (.cells #[.slice a is.length cap] 94)).alloc (.cells #[.bool false,I 0,ze,.bool false,ze,I 0] 165)).cell? ⟨w.heap.size,0,none⟩=some (.slice a is.length cap):=qk
 have hv2':=V4
 simp only[Og,Bool.and_eq_true,decide_eq_true_eq] at hv2'
 have dh:=hv2'.1
 have HV1:=hid V5
 have HV2:=hid V4
 have yp:=hid hv2'.2
 have HC:=hid hc
 have HR:=hid hr
 clear hv2' V4
 go_enter func89,ntmps89
 go_wp2_with fail
 refine(Ht a cap is _ (HC.o.bl ak) hl hs).mono ?_
 rintro e w1 ⟨af,rfl⟩
 have bg:=bN ak af
 have ce:=Oo af hk
 have hbx1:=Aa af F1
 rw[V5]
 clear ak af hk F1 V5 hc hr
 have d2:decide ((200:Int)<(ys.length:Int))=false:=qh
 have d6:=hid ce
 have fw:=hid bg
 have HX1:=hid hbx1
 have hR1:=Af ce
 clear ce bg hbx1
 go_wp2_with fail
 go_loopw [5] (fun i wr=>∃ k:Nat,k<=ys.length/\i=I k/\w1=wr) (fun i _=>ys.length-(intOf i).toNat)
 case atStart=>exact⟨0,Nat.zero_le _,rfl,rfl⟩
 case round=>
  obtain⟨k,hk,rfl,rfl⟩:=hrel
  by_cases aj:k<ys.length
  ·obtain⟨b,off,rfl,c1,c2,c3⟩:=(HR.o.bl fw.o) k aj;have fx:=gp k;have ft:=yp.o k aj;clear gp HR yp;generalize rx ys k=r at *;have d1:decide ((2000:Int)<(r.text.size:Int))=false:=qfw;have d3:decide (r.code<0)=false:=qfw;have d4:decide (7<r.code)=false:=qfw;clear ft;go_wp2_with fail;go_roundw
   case rel=>exact⟨k+1,qb,qj,trivial⟩
   case measure=>simp[intOf];omega
  ·have je:¬ (k:Int)<(ys.length:Int):=qb;go_wp2_with fail
   go_loopg [] 2002 (fun kx wr=>∃(x0:Int) (ax:Option Addr) (nx cx:Nat) (x2 x3:Int) (x4:Bool) (x5:Int) (x6:By) (x7:Bool) (x8:By) (x9:Bool),Hd (wr.heap[w1.heap.size]?=some (.cells #[I x0,.slice ax nx cx,I x2,I x3,.bool x4,I x5,.string x6,.bool x7,.string x8,.bool x9] 195 (0,0)))/\Hd (Gi is ys w1.heap.size wr kx x0 ax nx cx x2 x3 x4 x5 x6 x7 x8 x9)/\Hd (Bw w1 wr))
   case atStart=>exact⟨0,none,0,0,0,0,false,0,⟨#[]⟩,false,⟨#[]⟩,false,Be _ _,Or.inl ⟨Ma,Tp is,fun r h=>h,⟨rfl,Or.inl ⟨rfl,rfl⟩⟩,qbh,rfl,rfl,rfl,rfl,rfl,rfl,rfl,rfl,rfl,rfl⟩,aN _ _⟩
   case round=>
    obtain⟨x0,ax,nx,cx,x2,x3,x4,x5,x6,x7,x8,x9,kh,fj,vk⟩:=hrel;(have hxw:wr.cell? ⟨w.heap.size,0,none⟩=some (.slice a is.length cap):=by rw[vk.o.cell (p:=⟨w.heap.size,0,none⟩) qh];exact HX1.o);(have hkw:wr.heap[w.heap.size+1]?=some (.cells #[.bool false,I 0,ze,.bool false,ze,I 0] 165 (0,0)):=by rw[vk.o.block _ hR1];exact d6.o);have fy:Bw w wr:=fw.o.trans (vk.o.mono qb);have E7:=kh.o
    rcases fj.o with ⟨s,h1,h2,h3,h4,rfl,rfl,rfl,rfl,rfl,rfl,rfl,rfl,rfl,rfl⟩|⟨n,h1,rfl,rfl,rfl⟩|⟨n,h1,rfl,rfl,rfl⟩
    ·have HS:Hd (Eb is s):=h1;have HF:=hid h2;have J4:=hid h3;have cz:=h1.steps;have hlr:=Af E7;obtain⟨p0,p1,p2,p3,p4,p5,p6,p7,p8,p9⟩:=Fc E7;have fp:=fZ E7;clear h1 h2 h3 E7 fj;go_wp2_with fail;have V8:=l2Step_any a cap is s ax cx ra rcap ys wr w1.heap.size HV1.o HS.o (HC.o.bl fy) J4.o dh (HR.o.bl fy);unfold Dt at V8;refine V8.mono ?_;rintro e w3 ⟨aw,gj⟩;obtain⟨y0,ay,ny,cy,y2,y3,y4,y5,y6,y7,y8,y9,rfl,M3⟩:=stand_step HV1.o HS.o HV2.o HF.o gj;(have wf:w3.heap[w1.heap.size]?=some (.cells #[I s.pl,.slice ax s.stack.length cx,I s.steps,I s.looks,.bool false,I 0,ze,.bool false,ze,.bool false] 195 (0,0)):=by rw[aw.block _ hlr];exact kh.o);have HSD:=hid M3;have ig:=hid wf;have ij:Bw w1 w3:=vk.o.trans (aw.mono qb);clear p0 p1 p2 p3 p4 p5 p6 p7 p8 p9 fp;obtain⟨p0,p1,p2,p3,p4,p5,p6,p7,p8,p9⟩:=Fc wf;have fp:=fZ wf;clear wf M3 gj V8 aw;unfold r10;go_wp2_with fail
     go_roundg (2001-s.steps)
     case rel=>exact⟨y0,ay,ny,cy,y2,y3,y4,y5,y6,y7,y8,y9,Qch ig.o _ _ _ _ _ _ _ _ _ _,(Qao HSD.o ⟨_,ig.o⟩ _ _ _ _ _ _ _ _ _ _).mono qb,((((((((((ij).setCell (p:=⟨w1.heap.size,0,none⟩) (Nat.le_refl _) _).setCell (p:=⟨w1.heap.size,1,none⟩) (Nat.le_refl _) _).setCell (p:=⟨w1.heap.size,2,none⟩) (Nat.le_refl _) _).setCell (p:=⟨w1.heap.size,3,none⟩) (Nat.le_refl _) _).setCell (p:=⟨w1.heap.size,4,none⟩) (Nat.le_refl _) _).setCell (p:=⟨w1.heap.size,5,none⟩) (Nat.le_refl _) _).setCell (p:=⟨w1.heap.size,6,none⟩) (Nat.le_refl _) _).setCell (p:=⟨w1.heap.size,7,none⟩) (Nat.le_refl _) _).setCell (p:=⟨w1.heap.size,8,none⟩) (Nat.le_refl _) _).setCell (p:=⟨w1.heap.size,9,none⟩) (Nat.le_refl _) _⟩
     case measure=>omega
    ·have HF:Hd (Ce is ys Ma (.over x5 x6 n)):=h1;obtain⟨p0,p1,p2,p3,p4,p5,p6,p7,p8,p9⟩:=Fc E7;have fp:=fZ E7;obtain⟨k0,k1,k2,k3,k4,k5⟩:=Zo hkw;have f0:=fZ hkw;clear h1 E7 hkw fj;go_wp2_with fail;exact bR (v:=Az true x5 x6 false ⟨#[]⟩ n) (by simp[results,results89,go_sem,Az,k0,k1,k2,k3,k4,k5]) rfl ⟨((((((fy).setCell (p:=⟨w.heap.size+1,0,none⟩) qg _).setCell (p:=⟨w.heap.size+1,1,none⟩) qg _).setCell (p:=⟨w.heap.size+1,2,none⟩) qg _).setCell (p:=⟨w.heap.size+1,3,none⟩) qg _).setCell (p:=⟨w.heap.size+1,4,none⟩) qg _).setCell (p:=⟨w.heap.size+1,5,none⟩) qg _,_,HF.o,rfl⟩
    ·have HF:Hd (Ce is ys Ma (.wait x7 x8 n)):=h1;obtain⟨p0,p1,p2,p3,p4,p5,p6,p7,p8,p9⟩:=Fc E7;have fp:=fZ E7;obtain⟨k0,k1,k2,k3,k4,k5⟩:=Zo hkw;have f0:=fZ hkw;clear h1 E7 hkw fj;go_wp2_with fail;exact bR (v:=Az false 0 ⟨#[]⟩ x7 x8 n) (by simp[results,results89,go_sem,Az,k0,k1,k2,k3,k4,k5]) rfl ⟨((((((fy).setCell (p:=⟨w.heap.size+1,0,none⟩) qg _).setCell (p:=⟨w.heap.size+1,1,none⟩) qg _).setCell (p:=⟨w.heap.size+1,2,none⟩) qg _).setCell (p:=⟨w.heap.size+1,3,none⟩) qg _).setCell (p:=⟨w.heap.size+1,4,none⟩) qg _).setCell (p:=⟨w.heap.size+1,5,none⟩) qg _,_,HF.o,rfl⟩
theorem Ea (h:w.heap[b]?=some (.cells #[v0,v1,v2] T (0,0))):w.cell? ⟨b,0,none⟩=some v0/\w.cell? ⟨b,1,none⟩=some v1/\w.cell? ⟨b,2,none⟩=some v2/\∀ j,w.frozen? ⟨b,j,none⟩=false:=by
 refine⟨?_,?_,?_,fun j=>fH h j⟩<;>rw[cH h]<;>rfl
theorem Ab {cs:Array Value} (hb:Bw w w') (h:w.heap[b]?=some (.cells cs T (0,0))):w'.heap[b]?=some (.cells cs T (0,0)):=by
 rw[hb.block _ (Af h)];exact h
theorem Bi (h:w.heap[b]?=some (.cells #[u0,u1,u2] T (0,0))) (v0 v1 v2:Value):(((w.setCell ⟨b,0,none⟩ v0).setCell ⟨b,1,none⟩ v1).setCell ⟨b,2,none⟩ v2).heap[b]?=some (.cells #[v0,v1,v2] T (0,0)):=by
 rw[jB (jB (jB h v0) v1) v2]
 rfl
theorem Gc (hb:Below B w w') (h:B<=b) (v0 v1 v2:Value):Below B w (((w'.setCell ⟨b,0,none⟩ v0).setCell ⟨b,1,none⟩ v1).setCell ⟨b,2,none⟩ v2):=
 ((hb.setCell (p:=⟨b,0,none⟩) h _).setCell (p:=⟨b,1,none⟩) h _).setCell (p:=⟨b,2,none⟩) h _
def Dv:List R3->List Value
 | []=>[]
 | y :: ys=>.bool y.has :: I y.code :: .string y.text :: Dv ys
theorem Nw (ys:List R3) (y:R3):Dv (ys++[y])=Dv ys++[.bool y.has,I y.code,.string y.text]:=by
 induction ys with
 | nil=>rfl
 | cons x xs ih=>simp only[List.cons_append,Dv,ih]
theorem Pf:∀(ys:List R3) (i:Nat),i<ys.length->(Dv ys)[i*3]?=some (.bool (rx ys i).has)/\(Dv ys)[i*3+1]?=some (I (rx ys i).code)/\(Dv ys)[i*3+2]?=some (.string (rx ys i).text)
 | [],i,h=>by simp at h
 | y :: ys,0,h=>by simp[Dv,rx]
 | y :: ys,i+1,h=>by
  have:=Pf ys i qas;rw[show (i+1)*3=i*3+1+1+1 from qb];simpa [Dv,rx] using this
theorem rowR_of (h:w.ownsRow B 169 3 (.slice a ys.length cap) ys.length (Dv ys)):Qu w a ys:=by
 intro i hi
 rcases h.2 with ⟨hv,h0⟩|⟨g,ai,cur,hv,_⟩
 ·omega
 ·simp only[Value.slice.injEq] at hv;obtain⟨rfl,_,_⟩:=hv;obtain⟨k1,k2,k3⟩:=Pf ys i hi;exact⟨g,0,rfl,by rw[Nat.zero_add,h.cellAt _ qb];exact k1,by rw[Nat.zero_add,h.cellAt _ qb];exact k2,by rw[Nat.zero_add,h.cellAt _ qb];exact k3⟩
theorem Om (w:World) (v0 v1 v2:Value) (ty:TypeId):∀ j u,[v0,v1,v2][j]?=some u->(w.alloc (.cells #[v0,v1,v2] ty)).cell? ((⟨w.heap.size,0,none⟩:Addr).add j)=some u:=by
 intro j u hu
 match j with
 | 0=>simp at hu;subst hu;simp[go_sem,Addr.add]
 | 1=>simp at hu;subst hu;simp[go_sem,Addr.add]
 | 2=>simp at hu;subst hu;simp[go_sem,Addr.add]
 | j+3=>simp at hu
def lenV:Value->Nat
 | .slice _ n _=>n
 | _=>0
theorem reps_of {gs:List G3} (h:∀ i,i<ys.length->Kn (rx ys i)=true) (hk:ys.length<=200):Og ys=true:=by
 simp only[Og,Bool.and_eq_true,decide_eq_true_eq]
 exact⟨hk,h⟩
theorem rx_any (h:∀ i,i<ys.length->Kn (rx ys i)=true):∀ i,(rx ys i).text.size<=9223372036854775807:=fun i=>by
 rcases Nat.lt_or_ge i ys.length with h1|h1
 ·have:=Tr h i h1;omega
 ·unfold rx;rw[gG,List.getElem?_eq_none h1];decide
def Ou:List G3->List Value
 | []=>[]
 | g :: gs=>.string g.name :: .bool g.ask :: .string g.sum :: Ou gs
theorem gC_snoc (gs:List G3) (g:G3):Ou (gs++[g])=Ou gs++[.string g.name,.bool g.ask,.string g.sum]:=by
 induction gs with
 | nil=>rfl
 | cons x xs ih=>simp only[List.cons_append,Ou,ih]
theorem gC_get:∀(gs:List G3) (i:Nat),i<gs.length->(Ou gs)[i*3]?=some (.string (gx gs i).name)/\(Ou gs)[i*3+1]?=some (.bool (gx gs i).ask)/\(Ou gs)[i*3+2]?=some (.string (gx gs i).sum)
 | [],i,h=>by simp at h
 | y :: ys,0,h=>by simp[Ou,gx]
 | y :: ys,i+1,h=>by
  have:=gC_get ys i qas;rw[show (i+1)*3=i*3+1+1+1 from qb];simpa [Ou,gx] using this
theorem Ah {e sz:Nat} (h:w.ownsRow B e sz v n xs) (hB:B'<=B):w.ownsRow B' e sz v n xs:=by
 exact qkp
theorem looks_of {gs:List G3} (h:w.ownsRow B 172 3 v gs.length (Ou gs)) (hB:B'<=B):Ln w B' v gs:=⟨Ou gs,Ah h hB,fun i hi=>gC_get gs i hi⟩
theorem Mj (c:Int) (t:By) (w:World) (h0:0<=c) (h5:c<=5) (ht:t.size<=2000):Calls prog 93 #[.agg #[I c,.string t,nS]] w fun e w'=>e=.returned (.string (Bk c t))/\Bw w w':=by
 obtain⟨m,rfl⟩:=Int.eq_ofNat_of_zero_le h0
 exact Pb m t none 0 w qb ht
structure Ir (W0:World) (sa ta:Option Addr) (ss:List S2) (ts:List T2):Prop where
 rs:Jv W0 sa ss
 rt:Ju W0 ta ts
 v:SpV ss ts
 l1:ss.length<=200
 l2:ts.length<=200
 xc:∀ i j,(ix (tx ts i).code j).text.size<=9223372036854775807
theorem Pw {o:Obj} (h:w.heap[b']?=some o) (hne:b'≠b) (v0 v1 v2:Value):(((w.setCell ⟨b,0,none⟩ v0).setCell ⟨b,1,none⟩ v1).setCell ⟨b,2,none⟩ v2).heap[b']?=some o:=by
 rw[hC _ ⟨b,2,none⟩ _ b' hne,hC _ ⟨b,1,none⟩ _ b' hne,hC _ ⟨b,0,none⟩ _ b' hne]
 exact h
section
open Go.Deep
end
section
open Go.Deep
end
section
open Go.Deep
end
section
open Go.Deep
end
section
open Go.Deep
section
variable {B h mb k:Nat} {sv tv fv:Value} {w:World} {ms:Ms} {st al:List By} {av kv:Value} {vs:By->Value}
end
end
section
open Go.Deep
end
section
open Go.Deep
theorem Ew (h:b'≠b) (v0 v1 v2:Value):(((w.setCell ⟨b,0,none⟩ v0).setCell ⟨b,1,none⟩ v1).setCell ⟨b,2,none⟩ v2).heap[b']?=w.heap[b']?:=by
 rw[hC _ ⟨b,2,none⟩ _ b' h,hC _ ⟨b,1,none⟩ _ b' h,hC _ ⟨b,0,none⟩ _ b' h]
theorem thing_of {ss:List S2} {ts:List T2} {b:Bool} (h:b=true↔(Ec (Aq ss) nm\/Ec (Ao ts) nm)):b=Cb ss ts nm:=by
 unfold Cb Xj
 by_cases q:Ec (Aq ss) nm\/Ec (Ao ts) nm
 ·rw[h.mpr q];simp[q]
 ·cases b with
  | false=>simp[q]
  | true=>exact absurd (h.mp rfl) q
theorem Qag (sa ta:Option Addr) (c1 c2:Nat) (ss:List S2) (ts:List T2) (nm:By) (W0 w:World) (hE:Ir W0 sa ta ss ts) (hW:Bw W0 w):Calls prog 163 #[.agg #[.slice sa ss.length c1,.slice ta ts.length c2],.string nm] w fun e w'=>Bw w w'/\e=.returned (.bool (Cb ss ts nm)):=by
 have:=hE.l1
 have:=hE.l2
 refine(Qbl sa ta c1 c2 ss ts nm w (hE.rs.bl hW) (hE.rt.bl hW) qb qb hE.v.ascS hE.v.ascT).mono ?_
 rintro e w' ⟨hb,b,rfl,hbi⟩
 exact⟨hb,by rw[thing_of hbi]⟩
end
section
open Go.Deep
theorem De {j:Nat} (h:w'.heap[m]?=w.heap[m]?):w'.cell? ⟨m,j,none⟩=w.cell? ⟨m,j,none⟩:=by simp only[World.cell?,h]
theorem Cd.kept {lk:Int} (hM:Cd B w m ss cd pl st lk) (hm:w'.heap[m]?=w.heap[m]?) (hk:∀ v b,w.cell? ⟨m,0,none⟩=some v->v.ownBlock=some b->w'.heap[b]?=w.heap[b]?):Cd B w' m ss cd pl st lk:=by
 obtain⟨hB,v,h1,h2⟩:=hM
 have c0:w.cell? ⟨m,0,none⟩=some v:=by
  unfold Fj at h1;rw[cH h1];rfl
 exact⟨hB,v,by unfold Fj at *;rw[hm];exact h1,Aj h2 (fun b q=>hk v b c0 q)⟩
theorem Gn.kept {T:Nat} {ov:Bool} {c:Int} (h:Gn is ys B m T cd ov c t ask nm st w) (hT:w'.heap[T]?=w.heap[T]?) (hm:w'.heap[m]?=w.heap[m]?) (hs:w.heap.size<=w'.heap.size) (hk:∀ v b,w.cell? ⟨m,0,none⟩=some v->v.ownBlock=some b->w'.heap[b]?=w.heap[b]?):Gn is ys B m T cd ov c t ask nm st w':=
 ⟨by rw[hT];exact h.1,h.2.1,h.2.2.1,Nat.lt_of_lt_of_le h.2.2.2.1 hs,h.2.2.2.2.mono (fun _ _ _ _ k=>k.kept hm hk)⟩
theorem Gn.mach {T:Nat} {c:Int} (h:Gn is ys B m T cd false c t ask nm st w):B<=m/\∃ v cs,w.heap[m]?=some (.cells cs 243 (0,0))/\w.cell? ⟨m,0,none⟩=some v/\∀ b,v.ownBlock=some b->B<=b/\b<w.heap.size/\∃ cur,w.heap[b]?=some (.cells cur 9 (0,0)):=by
 rcases h.2.2.2.2 with ⟨q,_⟩|⟨_,_,_,s1,s',_,_,_,_,_,hB,v,h1,h2⟩
 ·cases q
 ·unfold Fj at h1;refine⟨hB,v,_,h1,by rw[cH h1];rfl,fun b hb=>?_⟩;obtain⟨k1,cur,k2⟩:=Dr h2 hb;exact⟨k1,(h2.lt b hb).2,cur,k2⟩
section
variable {W0:World} {h mb:Nat} {sv tv fv cd:Value} {ss:List S2} {ts:List T2} {is:List I3} {w:World} {ms:Ms} {st:List By} {av kv:Value} {vs:By->Value} {Bm m T X R:Nat}
 {ys:List R3} {ls:List G3} {m1:Ms} {av1 kv1:Value} {vs1:By->Value} {lv:Value} {ov:Bool} {c:Int} {t:By} {ask:Bool} {nm:By} {stp:Int} {wr:World}
end
end
end Go.Proofs.YtfgoholldpeabaaGreatDoor
