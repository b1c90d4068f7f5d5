import Derived.Test.YthfdkonhjpdflaaGreatDoorPkE
import Derived.Test.YthfdkonhjpdflaaGreatDoorLow2
import Derived.Laws.ResultCell
namespace Go.Proofs.YthfdkonhjpdflaaGreatDoor
open Go.RowKit Go.Proofs.Tryz
set_option linter.unusedVariables false
set_option maxRecDepth 100000
set_option linter.unusedSimpArgs false
set_option maxHeartbeats 8000000
theorem F5 {P:Program} (w w':World) {ops:Array Oper} {rest:List Oper} {o:Oper} {a:Act} {Q:Exit→Act→World→Prop} (hgd:o.guard=none) (t:TypeId) (ho:o.op= .alloc t)
 (zs:Array Value) (hz:(P.info? t).bind (·.zero)=some (.agg zs)) (hw:w.alloc (.cells zs t)=w') (h:wpList P ops Q rest (a.put o.dst (.pointer (some ⟨w.heap.size,0,none⟩))) w'):wpList P ops Q (o::rest) a w:=by
 subst hw
 cases hi:P.info? t with
 |none=>rw[hi] at hz;cases hz
 |some i=>
  rw[hi] at hz
  have hz':i.zero=some (.agg zs):=hz
  refine wpList_plain hgd fun K hK=> ?_
  have hK':=hK _ _ h
  unfold Oper.wp execOp
  simp only[ho]
  simpa[Instr.alloc,zeroValue,typeInfo,hi,hz',newVar,newRow,Value.cells,go_sem] using hK'
theorem U5 {P:Program} {fn:Func} {p u:Tmp} {ty:TypeId} (h:fn.results= #[.cell p ty,.tmp u]) (tmps:Array Value) (w:World) (g:Nat) (t:TypeId) (cs:Array Value) (fr:Nat × Nat) (d:TypeDesc)
 (hp:tmps.getD p undef= .pointer (some ⟨g,0,none⟩)) (hg:w.heap[g]? =some (.cells cs t fr))
 (hu:P.underlying ty=some d) (hd:(match d with| .struct _| .array _ _=>true|_=>false)=true) (hi:(P.info? ty).map (·.size)=some cs.size):
 (results fn tmps).run P w= .ok (.tuple #[.agg cs,tmps.getD u undef]) w:=by
 rw[results_cell_tmp h,hp]
 simp[asAddr,run_loadVar_row w g t ty cs fr d hg hu hd hi]
def eL {α:Type} (E:Int) (x z:α):α:=if E=0 then x else z
theorem fQ {α:Type} {E:Int} (x z:α) (h:E=0):eL E x z=x:=by unfold eL;rw[if_pos h]
theorem VI {α:Type} {E:Int} (x z:α) (h:E≠0):eL E x z=z:=by unfold eL;rw[if_neg h]
def zA (e:Int) (ok:Bool):Int:=if e=0 then (if ok then 0 else 4) else e
def G9:PK:=⟨0,0,0,0,0,0,false,I7,l8,V7,[],[]⟩
theorem j6:I7.name.length=32:=by rw[show I7.name=List.replicate 32 0 from rfl,List.length_replicate]
theorem F6:l8.name.length=32:=by rw[show l8.name=List.replicate 32 0 from rfl,List.length_replicate]
theorem nI:(prog.info? 26).bind (·.zero)=some (.agg (U8 I7 I4).toArray):=by kernel_rfl
theorem vK:(prog.info? 28).bind (·.zero)=some (.agg (x9 l8 I4).toArray):=by kernel_rfl
theorem kJ:(prog.info? 31).bind (·.zero)=some (.agg (bA V7 I4).toArray):=by kernel_rfl
theorem KE:(prog.info? 34).bind (·.zero)=some (.agg (q8 G9 I4 I4 I4 I4 I4).toArray):=by kernel_rfl
theorem uJ:(U8 I7 I4).length=37:=O8 j6
theorem IL:(x9 l8 I4).length=38:=y9 F6
theorem IC:(q8 G9 I4 I4 I4 I4 I4).length=87:=G8 j6 F6
theorem rQ:∀ v∈U8 I7 I4,v.oneCell'=true:=fB I7 rfl
theorem TP:∀ v∈x9 l8 I4,v.oneCell'=true:=IB l8 rfl
theorem ZP:∀ v∈bA V7 I4,v.oneCell'=true:=by intro v hv;simp only[bA,List.mem_cons,List.not_mem_nil,or_false] at hv;rcases hv with rfl|rfl|rfl<;>rfl
theorem mM:∀ v∈q8 G9 I4 I4 I4 I4 I4,v.oneCell'=true:=yA rfl rfl rfl rfl rfl
theorem MC (c:CF) {cv:Value} (h:cv.oneCell'=true):∀ v∈bA c cv,v.oneCell'=true:=by
 intro v hv;simp only[bA,List.mem_cons,List.not_mem_nil,or_false] at hv;rcases hv with rfl|rfl|rfl
 ·rfl
 ·rfl
 ·exact h
theorem ZL (F:List Nat) (p g:Nat) (r:RS) (q:RQ) (ev:Value) (w:World) (hr:ME w p g r) (hq:dH w F q ev):
 Calls prog 105 #[.pointer (some ⟨p,0,none⟩),.agg (U8 q ev).toArray,.func (.func 20) #[] #[]] w fun e w'=>e= .returned (.tuple #[.agg (eL (zA r.end_ q.ok) (U8 q ev) (U8 I7 I4)).toArray,.int .i64 (zA r.end_ q.ok)])∧U1 [] w w':=by
 have hqz:(U8 q ev).length=37:=O8 hq.1
 have hqo:∀ v∈U8 q ev,v.oneCell'=true:=fB q hq.2.one
 obtain⟨X,hX⟩:∃ X,U8 q ev=X:=⟨_,rfl⟩
 obtain⟨Z,hZ⟩:∃ Z,U8 I7 I4=Z:=⟨_,rfl⟩
 have zv:=nI
 have zl:=uJ
 have zo:=rQ
 have hcall:=fun w1 (k:U1 [] w w1)=>fD F q ev w1 ⟨hq.1,hq.2.keep k (by simp)⟩
 rw[hZ] at zv zl zo ⊢
 rw[hX] at hqz hqo hcall ⊢
 obtain⟨wA,hwA⟩:∃ wA,w.alloc (.cells X.toArray 26)=wA:=⟨_,rfl⟩
 obtain⟨wB,hwB⟩:∃ wB,wA.alloc (.cells Z.toArray 26)=wB:=⟨_,rfl⟩
 obtain⟨w3,hw3⟩:∃ w3,wB.alloc (.cells Z.toArray 26)=w3:=⟨_,rfl⟩
 have rA:=l5.new w 26 X.toArray
 have rB:=l5.new wA 26 Z.toArray
 have r3:=l5.new wB 26 Z.toArray
 have kA:=(U1.refl [] w).alloc (.cells X.toArray 26)
 have kB:=(U1.refl [] wA).alloc (.cells Z.toArray 26)
 have k3:=(U1.refl [] wB).alloc (.cells Z.toArray 26)
 rw[hwA] at rA kA
 rw[hwB] at rB kB
 rw[hw3] at r3 k3
 have rA3:=k3.row (kB.row rA (by simp)) (by simp)
 have rB3:=k3.row rB (by simp)
 have kk:=(kA.then kB (by simp)).then k3 (by simp)
 have hI:(prog.info? 26).map (·.size)=some X.length:=by rw[hqz];exact D9
 have hJ:(prog.info? 26).map (·.size)=some Z.length:=by rw[zl];exact D9
 have hlB:w.heap.size≤wA.heap.size:=kA.size
 have hne:wA.heap.size≠w.heap.size:=by have:=rA.lt;omega
 have hne2:wA.heap.size≠wB.heap.size:=by have:=rB.lt;omega
 have HW:=U0 (U2 hwA (U2 hwB (U2 hw3 zv)))
 have HR:=U0 (U2 rA3 (U2 rB3 (U2 r3 (U2 kk (U2 hI (U2 hJ (U2 hqo (U2 zo (U2 hqz (U2 zl (hr.keep kk (by simp) (by simp))))))))))))
 have HC:=U0 (hcall w3 kk)
 have HN:=U0 (U2 hne (U2 hne2 hlB))
 clear hwA hwB hw3 zv rA rB r3 kA kB k3 rA3 rB3 kk hI hJ hqo zo hqz zl hr hcall hX hZ hq hne hne2 hlB
 by_cases he:r.end_=0
 ·cases hok:q.ok
  ·have HE:=U0 he
   have hE:V5 (zA r.end_ q.ok=4):=U0 (by unfold zA;rw[if_pos he,hok];rfl)
   clear he
   go_enter func105,ntmps105
   go_upto_region 2 with (first
    |(with_reducible refine Z4 _ _ rfl 26 (.tmp 1) rfl _ rfl HW.o.1 ?_)
    |(with_reducible refine F5 _ _ rfl 26 rfl _ HW.o.2.2.2 HW.o.2.1 ?_)
    |(with_reducible refine F5 _ _ rfl 26 rfl _ HW.o.2.2.2 HW.o.2.2.1 ?_))
   go_upto_region 3 with (go_at_call 147;refine (uD p g r _ HR.o.2.2.2.2.2.2.2.2.2.2).mono ?_;rintro e w4 ⟨rfl,rfl⟩;rw[HE.o])
   go_upto_if 19 with (first
    |(refine wpList_load_mid rfl 26 (.tmp 4) rfl w.heap.size 0 rfl X _ HR.o.1.rangeAll underlying26 rfl HR.o.2.2.2.2.1 ?_)
    |(go_at_call 20;refine (HC.o).mono ?_;rintro e w5 ⟨rfl,k5⟩;rw[hok];have RB:=U0 (k5.row HR.o.2.1 (by simp));have RS:=U0 (k5.row HR.o.2.2.1 (by simp));have KK:=U0 (HR.o.2.2.2.1.then k5 (by simp));clear k5))
   have rs:=RB.o.setL (vs:=Z) (o:=0)
   rw[F7 (by have h1:=HR.o.2.2.2.2.2.2.2.2.2.1;have h2:=HR.o.2.2.2.2.2.2.2.2.2.1;simp only[U4]<;>omega)] at rs
   have ks:=KK.o.setL (vs:=Z) (g:=wA.heap.size) (o:=0) (.inr HN.o.2.2)
   have ht:=RB.o.there (o:=0) (n:=Z.toArray.size) (by have h1:=HR.o.2.2.2.2.2.2.2.2.2.1;have h2:=HR.o.2.2.2.2.2.2.2.2.2.1;simp only[U4]<;>omega)
   have hJ:(prog.info? 26).map (·.size)=some Z.toArray.size:=by rw[U4];exact HR.o.2.2.2.2.2.1
   have HS:=U0 (U2 rs (U2 ks (U2 ht hJ)))
   have HO:=U0 (all_oneCell_toArray HR.o.2.2.2.2.2.2.2.1)
   clear rs ks ht hJ
   go_wp2_with (first
    |(refine wpList_load_mid rfl 26 (.tmp 8) rfl wB.heap.size 0 rfl Z _ RS.o.rangeAll underlying26 rfl HR.o.2.2.2.2.2.1 ?_)
    |(refine wpList_store_mid rfl 26 (.tmp 6) (.tmp 20) rfl wA.heap.size 0 Z.toArray rfl rfl HS.o.2.2.1 HS.o.2.2.2 HO.o ?_))
   refine bodyPost_ret (U5 rfl _ _ wA.heap.size 26 _ (0,0) _ rfl HS.o.1 underlying26 rfl HS.o.2.2.2) rfl ?_
   exact⟨by rw[←hok,hE.o,VI _ _ (by decide)];rfl,HS.o.2.1⟩
  ·have HE:=U0 he
   have hE:V5 (zA r.end_ q.ok=0):=U0 (by unfold zA;rw[if_pos he,hok];rfl)
   clear he
   go_enter func105,ntmps105
   go_upto_region 2 with (first
    |(with_reducible refine Z4 _ _ rfl 26 (.tmp 1) rfl _ rfl HW.o.1 ?_)
    |(with_reducible refine F5 _ _ rfl 26 rfl _ HW.o.2.2.2 HW.o.2.1 ?_)
    |(with_reducible refine F5 _ _ rfl 26 rfl _ HW.o.2.2.2 HW.o.2.2.1 ?_))
   go_upto_region 3 with (go_at_call 147;refine (uD p g r _ HR.o.2.2.2.2.2.2.2.2.2.2).mono ?_;rintro e w4 ⟨rfl,rfl⟩;rw[HE.o])
   go_upto_if 19 with (first
    |(refine wpList_load_mid rfl 26 (.tmp 4) rfl w.heap.size 0 rfl X _ HR.o.1.rangeAll underlying26 rfl HR.o.2.2.2.2.1 ?_)
    |(go_at_call 20;refine (HC.o).mono ?_;rintro e w5 ⟨rfl,k5⟩;rw[hok];have RB:=U0 (k5.row HR.o.2.1 (by simp));have RS:=U0 (k5.row HR.o.1 (by simp));have KK:=U0 (HR.o.2.2.2.1.then k5 (by simp));clear k5))
   have rs:=RB.o.setL (vs:=X) (o:=0)
   rw[F7 (by have h1:=HR.o.2.2.2.2.2.2.2.2.1;have h2:=HR.o.2.2.2.2.2.2.2.2.2.1;simp only[U4]<;>omega)] at rs
   have ks:=KK.o.setL (vs:=X) (g:=wA.heap.size) (o:=0) (.inr HN.o.2.2)
   have ht:=RB.o.there (o:=0) (n:=X.toArray.size) (by have h1:=HR.o.2.2.2.2.2.2.2.2.1;have h2:=HR.o.2.2.2.2.2.2.2.2.2.1;simp only[U4]<;>omega)
   have hJ:(prog.info? 26).map (·.size)=some X.toArray.size:=by rw[U4];exact HR.o.2.2.2.2.1
   have HS:=U0 (U2 rs (U2 ks (U2 ht hJ)))
   have HO:=U0 (all_oneCell_toArray HR.o.2.2.2.2.2.2.1)
   clear rs ks ht hJ
   go_wp2_with (first
    |(refine wpList_load_mid rfl 26 (.tmp 4) rfl w.heap.size 0 rfl X _ RS.o.rangeAll underlying26 rfl HR.o.2.2.2.2.1 ?_)
    |(refine wpList_store_mid rfl 26 (.tmp 6) (.tmp 21) rfl wA.heap.size 0 X.toArray rfl rfl HS.o.2.2.1 HS.o.2.2.2 HO.o ?_))
   refine bodyPost_ret (U5 rfl _ _ wA.heap.size 26 _ (0,0) _ rfl HS.o.1 underlying26 rfl HS.o.2.2.2) rfl ?_
   exact⟨by rw[←hok,hE.o,fQ _ _ rfl];rfl,HS.o.2.1⟩
 ·have hb:(r.end_ !=0)=true:=by simp[he]
  have hE:V5 (zA r.end_ q.ok=r.end_∧r.end_≠0):=U0 ⟨by unfold zA;rw[if_neg he],he⟩
  clear he
  have RB:=U0 HR.o.2.1
  have RS:=U0 HR.o.2.2.1
  have KK:=U0 HR.o.2.2.2.1
  go_enter func105,ntmps105
  go_upto_region 2 with (first
   |(with_reducible refine Z4 _ _ rfl 26 (.tmp 1) rfl _ rfl HW.o.1 ?_)
   |(with_reducible refine F5 _ _ rfl 26 rfl _ HW.o.2.2.2 HW.o.2.1 ?_)
   |(with_reducible refine F5 _ _ rfl 26 rfl _ HW.o.2.2.2 HW.o.2.2.1 ?_))
  go_upto_region 3 with (go_at_call 147;refine (uD p g r _ HR.o.2.2.2.2.2.2.2.2.2.2).mono ?_;rintro e w4 ⟨rfl,rfl⟩)
  have rs:=RB.o.setL (vs:=Z) (o:=0)
  rw[F7 (by have h1:=HR.o.2.2.2.2.2.2.2.2.2.1;have h2:=HR.o.2.2.2.2.2.2.2.2.2.1;simp only[U4]<;>omega)] at rs
  have ks:=KK.o.setL (vs:=Z) (g:=wA.heap.size) (o:=0) (.inr HN.o.2.2)
  have ht:=RB.o.there (o:=0) (n:=Z.toArray.size) (by have h1:=HR.o.2.2.2.2.2.2.2.2.2.1;have h2:=HR.o.2.2.2.2.2.2.2.2.2.1;simp only[U4]<;>omega)
  have hJ:(prog.info? 26).map (·.size)=some Z.toArray.size:=by rw[U4];exact HR.o.2.2.2.2.2.1
  have HS:=U0 (U2 rs (U2 ks (U2 ht hJ)))
  have HO:=U0 (all_oneCell_toArray HR.o.2.2.2.2.2.2.2.1)
  clear rs ks ht hJ
  go_wp2_with (first
   |(refine wpList_load_mid rfl 26 (.tmp 8) rfl wB.heap.size 0 rfl Z _ RS.o.rangeAll underlying26 rfl HR.o.2.2.2.2.2.1 ?_)
   |(refine wpList_store_mid rfl 26 (.tmp 6) (.tmp 14) rfl wA.heap.size 0 Z.toArray rfl rfl HS.o.2.2.1 HS.o.2.2.2 HO.o ?_))
  refine bodyPost_ret (U5 rfl _ _ wA.heap.size 26 _ (0,0) _ rfl HS.o.1 underlying26 rfl HS.o.2.2.2) rfl ?_
  exact⟨by rw[hE.o.1,VI _ _ hE.o.2];rfl,HS.o.2.1⟩
theorem YL (F:List Nat) (p g:Nat) (r:RS) (q:AN) (ev:Value) (w:World) (hr:ME w p g r) (hq:BH w F q ev):
 Calls prog 111 #[.pointer (some ⟨p,0,none⟩),.agg (x9 q ev).toArray,.func (.func 21) #[] #[]] w fun e w'=>e= .returned (.tuple #[.agg (eL (zA r.end_ q.ok) (x9 q ev) (x9 l8 I4)).toArray,.int .i64 (zA r.end_ q.ok)])∧U1 [] w w':=by
 have hqz:(x9 q ev).length=38:=y9 hq.1
 have hqo:∀ v∈x9 q ev,v.oneCell'=true:=IB q hq.2.one
 obtain⟨X,hX⟩:∃ X,x9 q ev=X:=⟨_,rfl⟩
 obtain⟨Z,hZ⟩:∃ Z,x9 l8 I4=Z:=⟨_,rfl⟩
 have zv:=vK
 have zl:=IL
 have zo:=TP
 have hcall:=fun w1 (k:U1 [] w w1)=>LD F q ev w1 ⟨hq.1,hq.2.keep k (by simp)⟩
 rw[hZ] at zv zl zo ⊢
 rw[hX] at hqz hqo hcall ⊢
 obtain⟨wA,hwA⟩:∃ wA,w.alloc (.cells X.toArray 28)=wA:=⟨_,rfl⟩
 obtain⟨wB,hwB⟩:∃ wB,wA.alloc (.cells Z.toArray 28)=wB:=⟨_,rfl⟩
 obtain⟨w3,hw3⟩:∃ w3,wB.alloc (.cells Z.toArray 28)=w3:=⟨_,rfl⟩
 have rA:=l5.new w 28 X.toArray
 have rB:=l5.new wA 28 Z.toArray
 have r3:=l5.new wB 28 Z.toArray
 have kA:=(U1.refl [] w).alloc (.cells X.toArray 28)
 have kB:=(U1.refl [] wA).alloc (.cells Z.toArray 28)
 have k3:=(U1.refl [] wB).alloc (.cells Z.toArray 28)
 rw[hwA] at rA kA
 rw[hwB] at rB kB
 rw[hw3] at r3 k3
 have rA3:=k3.row (kB.row rA (by simp)) (by simp)
 have rB3:=k3.row rB (by simp)
 have kk:=(kA.then kB (by simp)).then k3 (by simp)
 have hI:(prog.info? 28).map (·.size)=some X.length:=by rw[hqz];exact Q9
 have hJ:(prog.info? 28).map (·.size)=some Z.length:=by rw[zl];exact Q9
 have hlB:w.heap.size≤wA.heap.size:=kA.size
 have hne:wA.heap.size≠w.heap.size:=by have:=rA.lt;omega
 have hne2:wA.heap.size≠wB.heap.size:=by have:=rB.lt;omega
 have HW:=U0 (U2 hwA (U2 hwB (U2 hw3 zv)))
 have HR:=U0 (U2 rA3 (U2 rB3 (U2 r3 (U2 kk (U2 hI (U2 hJ (U2 hqo (U2 zo (U2 hqz (U2 zl (hr.keep kk (by simp) (by simp))))))))))))
 have HC:=U0 (hcall w3 kk)
 have HN:=U0 (U2 hne (U2 hne2 hlB))
 clear hwA hwB hw3 zv rA rB r3 kA kB k3 rA3 rB3 kk hI hJ hqo zo hqz zl hr hcall hX hZ hq hne hne2 hlB
 by_cases he:r.end_=0
 ·cases hok:q.ok
  ·have HE:=U0 he
   have hE:V5 (zA r.end_ q.ok=4):=U0 (by unfold zA;rw[if_pos he,hok];rfl)
   clear he
   go_enter func111,ntmps111
   go_upto_region 2 with (first
    |(with_reducible refine Z4 _ _ rfl 28 (.tmp 1) rfl _ rfl HW.o.1 ?_)
    |(with_reducible refine F5 _ _ rfl 28 rfl _ HW.o.2.2.2 HW.o.2.1 ?_)
    |(with_reducible refine F5 _ _ rfl 28 rfl _ HW.o.2.2.2 HW.o.2.2.1 ?_))
   go_upto_region 3 with (go_at_call 147;refine (uD p g r _ HR.o.2.2.2.2.2.2.2.2.2.2).mono ?_;rintro e w4 ⟨rfl,rfl⟩;rw[HE.o])
   go_upto_if 19 with (first
    |(refine wpList_load_mid rfl 28 (.tmp 4) rfl w.heap.size 0 rfl X _ HR.o.1.rangeAll underlying28 rfl HR.o.2.2.2.2.1 ?_)
    |(go_at_call 21;refine (HC.o).mono ?_;rintro e w5 ⟨rfl,k5⟩;rw[hok];have RB:=U0 (k5.row HR.o.2.1 (by simp));have RS:=U0 (k5.row HR.o.2.2.1 (by simp));have KK:=U0 (HR.o.2.2.2.1.then k5 (by simp));clear k5))
   have rs:=RB.o.setL (vs:=Z) (o:=0)
   rw[F7 (by have h1:=HR.o.2.2.2.2.2.2.2.2.2.1;have h2:=HR.o.2.2.2.2.2.2.2.2.2.1;simp only[U4]<;>omega)] at rs
   have ks:=KK.o.setL (vs:=Z) (g:=wA.heap.size) (o:=0) (.inr HN.o.2.2)
   have ht:=RB.o.there (o:=0) (n:=Z.toArray.size) (by have h1:=HR.o.2.2.2.2.2.2.2.2.2.1;have h2:=HR.o.2.2.2.2.2.2.2.2.2.1;simp only[U4]<;>omega)
   have hJ:(prog.info? 28).map (·.size)=some Z.toArray.size:=by rw[U4];exact HR.o.2.2.2.2.2.1
   have HS:=U0 (U2 rs (U2 ks (U2 ht hJ)))
   have HO:=U0 (all_oneCell_toArray HR.o.2.2.2.2.2.2.2.1)
   clear rs ks ht hJ
   go_wp2_with (first
    |(refine wpList_load_mid rfl 28 (.tmp 8) rfl wB.heap.size 0 rfl Z _ RS.o.rangeAll underlying28 rfl HR.o.2.2.2.2.2.1 ?_)
    |(refine wpList_store_mid rfl 28 (.tmp 6) (.tmp 20) rfl wA.heap.size 0 Z.toArray rfl rfl HS.o.2.2.1 HS.o.2.2.2 HO.o ?_))
   refine bodyPost_ret (U5 rfl _ _ wA.heap.size 28 _ (0,0) _ rfl HS.o.1 underlying28 rfl HS.o.2.2.2) rfl ?_
   exact⟨by rw[←hok,hE.o,VI _ _ (by decide)];rfl,HS.o.2.1⟩
  ·have HE:=U0 he
   have hE:V5 (zA r.end_ q.ok=0):=U0 (by unfold zA;rw[if_pos he,hok];rfl)
   clear he
   go_enter func111,ntmps111
   go_upto_region 2 with (first
    |(with_reducible refine Z4 _ _ rfl 28 (.tmp 1) rfl _ rfl HW.o.1 ?_)
    |(with_reducible refine F5 _ _ rfl 28 rfl _ HW.o.2.2.2 HW.o.2.1 ?_)
    |(with_reducible refine F5 _ _ rfl 28 rfl _ HW.o.2.2.2 HW.o.2.2.1 ?_))
   go_upto_region 3 with (go_at_call 147;refine (uD p g r _ HR.o.2.2.2.2.2.2.2.2.2.2).mono ?_;rintro e w4 ⟨rfl,rfl⟩;rw[HE.o])
   go_upto_if 19 with (first
    |(refine wpList_load_mid rfl 28 (.tmp 4) rfl w.heap.size 0 rfl X _ HR.o.1.rangeAll underlying28 rfl HR.o.2.2.2.2.1 ?_)
    |(go_at_call 21;refine (HC.o).mono ?_;rintro e w5 ⟨rfl,k5⟩;rw[hok];have RB:=U0 (k5.row HR.o.2.1 (by simp));have RS:=U0 (k5.row HR.o.1 (by simp));have KK:=U0 (HR.o.2.2.2.1.then k5 (by simp));clear k5))
   have rs:=RB.o.setL (vs:=X) (o:=0)
   rw[F7 (by have h1:=HR.o.2.2.2.2.2.2.2.2.1;have h2:=HR.o.2.2.2.2.2.2.2.2.2.1;simp only[U4]<;>omega)] at rs
   have ks:=KK.o.setL (vs:=X) (g:=wA.heap.size) (o:=0) (.inr HN.o.2.2)
   have ht:=RB.o.there (o:=0) (n:=X.toArray.size) (by have h1:=HR.o.2.2.2.2.2.2.2.2.1;have h2:=HR.o.2.2.2.2.2.2.2.2.2.1;simp only[U4]<;>omega)
   have hJ:(prog.info? 28).map (·.size)=some X.toArray.size:=by rw[U4];exact HR.o.2.2.2.2.1
   have HS:=U0 (U2 rs (U2 ks (U2 ht hJ)))
   have HO:=U0 (all_oneCell_toArray HR.o.2.2.2.2.2.2.1)
   clear rs ks ht hJ
   go_wp2_with (first
    |(refine wpList_load_mid rfl 28 (.tmp 4) rfl w.heap.size 0 rfl X _ RS.o.rangeAll underlying28 rfl HR.o.2.2.2.2.1 ?_)
    |(refine wpList_store_mid rfl 28 (.tmp 6) (.tmp 21) rfl wA.heap.size 0 X.toArray rfl rfl HS.o.2.2.1 HS.o.2.2.2 HO.o ?_))
   refine bodyPost_ret (U5 rfl _ _ wA.heap.size 28 _ (0,0) _ rfl HS.o.1 underlying28 rfl HS.o.2.2.2) rfl ?_
   exact⟨by rw[←hok,hE.o,fQ _ _ rfl];rfl,HS.o.2.1⟩
 ·have hb:(r.end_ !=0)=true:=by simp[he]
  have hE:V5 (zA r.end_ q.ok=r.end_∧r.end_≠0):=U0 ⟨by unfold zA;rw[if_neg he],he⟩
  clear he
  have RB:=U0 HR.o.2.1
  have RS:=U0 HR.o.2.2.1
  have KK:=U0 HR.o.2.2.2.1
  go_enter func111,ntmps111
  go_upto_region 2 with (first
   |(with_reducible refine Z4 _ _ rfl 28 (.tmp 1) rfl _ rfl HW.o.1 ?_)
   |(with_reducible refine F5 _ _ rfl 28 rfl _ HW.o.2.2.2 HW.o.2.1 ?_)
   |(with_reducible refine F5 _ _ rfl 28 rfl _ HW.o.2.2.2 HW.o.2.2.1 ?_))
  go_upto_region 3 with (go_at_call 147;refine (uD p g r _ HR.o.2.2.2.2.2.2.2.2.2.2).mono ?_;rintro e w4 ⟨rfl,rfl⟩)
  have rs:=RB.o.setL (vs:=Z) (o:=0)
  rw[F7 (by have h1:=HR.o.2.2.2.2.2.2.2.2.2.1;have h2:=HR.o.2.2.2.2.2.2.2.2.2.1;simp only[U4]<;>omega)] at rs
  have ks:=KK.o.setL (vs:=Z) (g:=wA.heap.size) (o:=0) (.inr HN.o.2.2)
  have ht:=RB.o.there (o:=0) (n:=Z.toArray.size) (by have h1:=HR.o.2.2.2.2.2.2.2.2.2.1;have h2:=HR.o.2.2.2.2.2.2.2.2.2.1;simp only[U4]<;>omega)
  have hJ:(prog.info? 28).map (·.size)=some Z.toArray.size:=by rw[U4];exact HR.o.2.2.2.2.2.1
  have HS:=U0 (U2 rs (U2 ks (U2 ht hJ)))
  have HO:=U0 (all_oneCell_toArray HR.o.2.2.2.2.2.2.2.1)
  clear rs ks ht hJ
  go_wp2_with (first
   |(refine wpList_load_mid rfl 28 (.tmp 8) rfl wB.heap.size 0 rfl Z _ RS.o.rangeAll underlying28 rfl HR.o.2.2.2.2.2.1 ?_)
   |(refine wpList_store_mid rfl 28 (.tmp 6) (.tmp 14) rfl wA.heap.size 0 Z.toArray rfl rfl HS.o.2.2.1 HS.o.2.2.2 HO.o ?_))
  refine bodyPost_ret (U5 rfl _ _ wA.heap.size 28 _ (0,0) _ rfl HS.o.1 underlying28 rfl HS.o.2.2.2) rfl ?_
  exact⟨by rw[hE.o.1,VI _ _ hE.o.2];rfl,HS.o.2.1⟩
theorem yK (F:List Nat) (p g:Nat) (r:RS) (q:CF) (ev:Value) (w:World) (hr:ME w p g r) (hq:F8 w F ev q.chain):
 Calls prog 112 #[.pointer (some ⟨p,0,none⟩),.agg (bA q ev).toArray,.func (.func 22) #[] #[]] w fun e w'=>e= .returned (.tuple #[.agg (eL (zA r.end_ q.ok) (bA q ev) (bA V7 I4)).toArray,.int .i64 (zA r.end_ q.ok)])∧U1 [] w w':=by
 have hqz:(bA q ev).length=3:=rfl
 have hqo:∀ v∈bA q ev,v.oneCell'=true:=MC q hq.one
 obtain⟨X,hX⟩:∃ X,bA q ev=X:=⟨_,rfl⟩
 obtain⟨Z,hZ⟩:∃ Z,bA V7 I4=Z:=⟨_,rfl⟩
 have zv:=kJ
 have zl:=(show (bA V7 I4).length=3 from rfl)
 have zo:=ZP
 have hcall:=fun w1 (k:U1 [] w w1)=>tC F q ev w1 (hq.keep k (by simp))
 rw[hZ] at zv zl zo ⊢
 rw[hX] at hqz hqo hcall ⊢
 obtain⟨wA,hwA⟩:∃ wA,w.alloc (.cells X.toArray 31)=wA:=⟨_,rfl⟩
 obtain⟨wB,hwB⟩:∃ wB,wA.alloc (.cells Z.toArray 31)=wB:=⟨_,rfl⟩
 obtain⟨w3,hw3⟩:∃ w3,wB.alloc (.cells Z.toArray 31)=w3:=⟨_,rfl⟩
 have rA:=l5.new w 31 X.toArray
 have rB:=l5.new wA 31 Z.toArray
 have r3:=l5.new wB 31 Z.toArray
 have kA:=(U1.refl [] w).alloc (.cells X.toArray 31)
 have kB:=(U1.refl [] wA).alloc (.cells Z.toArray 31)
 have k3:=(U1.refl [] wB).alloc (.cells Z.toArray 31)
 rw[hwA] at rA kA
 rw[hwB] at rB kB
 rw[hw3] at r3 k3
 have rA3:=k3.row (kB.row rA (by simp)) (by simp)
 have rB3:=k3.row rB (by simp)
 have kk:=(kA.then kB (by simp)).then k3 (by simp)
 have hI:(prog.info? 31).map (·.size)=some X.length:=by rw[hqz];exact S9
 have hJ:(prog.info? 31).map (·.size)=some Z.length:=by rw[zl];exact S9
 have hlB:w.heap.size≤wA.heap.size:=kA.size
 have hne:wA.heap.size≠w.heap.size:=by have:=rA.lt;omega
 have hne2:wA.heap.size≠wB.heap.size:=by have:=rB.lt;omega
 have HW:=U0 (U2 hwA (U2 hwB (U2 hw3 zv)))
 have HR:=U0 (U2 rA3 (U2 rB3 (U2 r3 (U2 kk (U2 hI (U2 hJ (U2 hqo (U2 zo (U2 hqz (U2 zl (hr.keep kk (by simp) (by simp))))))))))))
 have HC:=U0 (hcall w3 kk)
 have HN:=U0 (U2 hne (U2 hne2 hlB))
 clear hwA hwB hw3 zv rA rB r3 kA kB k3 rA3 rB3 kk hI hJ hqo zo hqz zl hr hcall hX hZ hq hne hne2 hlB
 by_cases he:r.end_=0
 ·cases hok:q.ok
  ·have HE:=U0 he
   have hE:V5 (zA r.end_ q.ok=4):=U0 (by unfold zA;rw[if_pos he,hok];rfl)
   clear he
   go_enter func112,ntmps112
   go_upto_region 2 with (first
    |(with_reducible refine Z4 _ _ rfl 31 (.tmp 1) rfl _ rfl HW.o.1 ?_)
    |(with_reducible refine F5 _ _ rfl 31 rfl _ HW.o.2.2.2 HW.o.2.1 ?_)
    |(with_reducible refine F5 _ _ rfl 31 rfl _ HW.o.2.2.2 HW.o.2.2.1 ?_))
   go_upto_region 3 with (go_at_call 147;refine (uD p g r _ HR.o.2.2.2.2.2.2.2.2.2.2).mono ?_;rintro e w4 ⟨rfl,rfl⟩;rw[HE.o])
   go_upto_if 19 with (first
    |(refine wpList_load_mid rfl 31 (.tmp 4) rfl w.heap.size 0 rfl X _ HR.o.1.rangeAll underlying31 rfl HR.o.2.2.2.2.1 ?_)
    |(go_at_call 22;refine (HC.o).mono ?_;rintro e w5 ⟨rfl,k5⟩;rw[hok];have RB:=U0 (k5.row HR.o.2.1 (by simp));have RS:=U0 (k5.row HR.o.2.2.1 (by simp));have KK:=U0 (HR.o.2.2.2.1.then k5 (by simp));clear k5))
   have rs:=RB.o.setL (vs:=Z) (o:=0)
   rw[F7 (by have h1:=HR.o.2.2.2.2.2.2.2.2.2.1;have h2:=HR.o.2.2.2.2.2.2.2.2.2.1;simp only[U4]<;>omega)] at rs
   have ks:=KK.o.setL (vs:=Z) (g:=wA.heap.size) (o:=0) (.inr HN.o.2.2)
   have ht:=RB.o.there (o:=0) (n:=Z.toArray.size) (by have h1:=HR.o.2.2.2.2.2.2.2.2.2.1;have h2:=HR.o.2.2.2.2.2.2.2.2.2.1;simp only[U4]<;>omega)
   have hJ:(prog.info? 31).map (·.size)=some Z.toArray.size:=by rw[U4];exact HR.o.2.2.2.2.2.1
   have HS:=U0 (U2 rs (U2 ks (U2 ht hJ)))
   have HO:=U0 (all_oneCell_toArray HR.o.2.2.2.2.2.2.2.1)
   clear rs ks ht hJ
   go_wp2_with (first
    |(refine wpList_load_mid rfl 31 (.tmp 8) rfl wB.heap.size 0 rfl Z _ RS.o.rangeAll underlying31 rfl HR.o.2.2.2.2.2.1 ?_)
    |(refine wpList_store_mid rfl 31 (.tmp 6) (.tmp 20) rfl wA.heap.size 0 Z.toArray rfl rfl HS.o.2.2.1 HS.o.2.2.2 HO.o ?_))
   refine bodyPost_ret (U5 rfl _ _ wA.heap.size 31 _ (0,0) _ rfl HS.o.1 underlying31 rfl HS.o.2.2.2) rfl ?_
   exact⟨by rw[←hok,hE.o,VI _ _ (by decide)];rfl,HS.o.2.1⟩
  ·have HE:=U0 he
   have hE:V5 (zA r.end_ q.ok=0):=U0 (by unfold zA;rw[if_pos he,hok];rfl)
   clear he
   go_enter func112,ntmps112
   go_upto_region 2 with (first
    |(with_reducible refine Z4 _ _ rfl 31 (.tmp 1) rfl _ rfl HW.o.1 ?_)
    |(with_reducible refine F5 _ _ rfl 31 rfl _ HW.o.2.2.2 HW.o.2.1 ?_)
    |(with_reducible refine F5 _ _ rfl 31 rfl _ HW.o.2.2.2 HW.o.2.2.1 ?_))
   go_upto_region 3 with (go_at_call 147;refine (uD p g r _ HR.o.2.2.2.2.2.2.2.2.2.2).mono ?_;rintro e w4 ⟨rfl,rfl⟩;rw[HE.o])
   go_upto_if 19 with (first
    |(refine wpList_load_mid rfl 31 (.tmp 4) rfl w.heap.size 0 rfl X _ HR.o.1.rangeAll underlying31 rfl HR.o.2.2.2.2.1 ?_)
    |(go_at_call 22;refine (HC.o).mono ?_;rintro e w5 ⟨rfl,k5⟩;rw[hok];have RB:=U0 (k5.row HR.o.2.1 (by simp));have RS:=U0 (k5.row HR.o.1 (by simp));have KK:=U0 (HR.o.2.2.2.1.then k5 (by simp));clear k5))
   have rs:=RB.o.setL (vs:=X) (o:=0)
   rw[F7 (by have h1:=HR.o.2.2.2.2.2.2.2.2.1;have h2:=HR.o.2.2.2.2.2.2.2.2.2.1;simp only[U4]<;>omega)] at rs
   have ks:=KK.o.setL (vs:=X) (g:=wA.heap.size) (o:=0) (.inr HN.o.2.2)
   have ht:=RB.o.there (o:=0) (n:=X.toArray.size) (by have h1:=HR.o.2.2.2.2.2.2.2.2.1;have h2:=HR.o.2.2.2.2.2.2.2.2.2.1;simp only[U4]<;>omega)
   have hJ:(prog.info? 31).map (·.size)=some X.toArray.size:=by rw[U4];exact HR.o.2.2.2.2.1
   have HS:=U0 (U2 rs (U2 ks (U2 ht hJ)))
   have HO:=U0 (all_oneCell_toArray HR.o.2.2.2.2.2.2.1)
   clear rs ks ht hJ
   go_wp2_with (first
    |(refine wpList_load_mid rfl 31 (.tmp 4) rfl w.heap.size 0 rfl X _ RS.o.rangeAll underlying31 rfl HR.o.2.2.2.2.1 ?_)
    |(refine wpList_store_mid rfl 31 (.tmp 6) (.tmp 21) rfl wA.heap.size 0 X.toArray rfl rfl HS.o.2.2.1 HS.o.2.2.2 HO.o ?_))
   refine bodyPost_ret (U5 rfl _ _ wA.heap.size 31 _ (0,0) _ rfl HS.o.1 underlying31 rfl HS.o.2.2.2) rfl ?_
   exact⟨by rw[←hok,hE.o,fQ _ _ rfl];rfl,HS.o.2.1⟩
 ·have hb:(r.end_ !=0)=true:=by simp[he]
  have hE:V5 (zA r.end_ q.ok=r.end_∧r.end_≠0):=U0 ⟨by unfold zA;rw[if_neg he],he⟩
  clear he
  have RB:=U0 HR.o.2.1
  have RS:=U0 HR.o.2.2.1
  have KK:=U0 HR.o.2.2.2.1
  go_enter func112,ntmps112
  go_upto_region 2 with (first
   |(with_reducible refine Z4 _ _ rfl 31 (.tmp 1) rfl _ rfl HW.o.1 ?_)
   |(with_reducible refine F5 _ _ rfl 31 rfl _ HW.o.2.2.2 HW.o.2.1 ?_)
   |(with_reducible refine F5 _ _ rfl 31 rfl _ HW.o.2.2.2 HW.o.2.2.1 ?_))
  go_upto_region 3 with (go_at_call 147;refine (uD p g r _ HR.o.2.2.2.2.2.2.2.2.2.2).mono ?_;rintro e w4 ⟨rfl,rfl⟩)
  have rs:=RB.o.setL (vs:=Z) (o:=0)
  rw[F7 (by have h1:=HR.o.2.2.2.2.2.2.2.2.2.1;have h2:=HR.o.2.2.2.2.2.2.2.2.2.1;simp only[U4]<;>omega)] at rs
  have ks:=KK.o.setL (vs:=Z) (g:=wA.heap.size) (o:=0) (.inr HN.o.2.2)
  have ht:=RB.o.there (o:=0) (n:=Z.toArray.size) (by have h1:=HR.o.2.2.2.2.2.2.2.2.2.1;have h2:=HR.o.2.2.2.2.2.2.2.2.2.1;simp only[U4]<;>omega)
  have hJ:(prog.info? 31).map (·.size)=some Z.toArray.size:=by rw[U4];exact HR.o.2.2.2.2.2.1
  have HS:=U0 (U2 rs (U2 ks (U2 ht hJ)))
  have HO:=U0 (all_oneCell_toArray HR.o.2.2.2.2.2.2.2.1)
  clear rs ks ht hJ
  go_wp2_with (first
   |(refine wpList_load_mid rfl 31 (.tmp 8) rfl wB.heap.size 0 rfl Z _ RS.o.rangeAll underlying31 rfl HR.o.2.2.2.2.2.1 ?_)
   |(refine wpList_store_mid rfl 31 (.tmp 6) (.tmp 14) rfl wA.heap.size 0 Z.toArray rfl rfl HS.o.2.2.1 HS.o.2.2.2 HO.o ?_))
  refine bodyPost_ret (U5 rfl _ _ wA.heap.size 31 _ (0,0) _ rfl HS.o.1 underlying31 rfl HS.o.2.2.2) rfl ?_
  exact⟨by rw[hE.o.1,VI _ _ hE.o.2];rfl,HS.o.2.1⟩
theorem dN (F:List Nat) (p g:Nat) (r:RS) (q:PK) (ev av cv vv bw:Value) (w:World) (hr:ME w p g r) (hq:wD w F q ev av cv vv bw) (hfl:zB w) (hb1:OA q.frm) (hb2:OA q.dst):
 Calls prog 97 #[.pointer (some ⟨p,0,none⟩),.agg (q8 q ev av cv vv bw).toArray,.func (.func 9) #[] #[]] w fun e w'=>e= .returned (.tuple #[.agg (eL (zA r.end_ q.ok) (q8 q ev av cv vv bw) (q8 G9 I4 I4 I4 I4 I4)).toArray,.int .i64 (zA r.end_ q.ok)])∧U1 [] w w':=by
 have hqz:(q8 q ev av cv vv bw).length=87:=G8 hq.rn hq.an
 have hqo:∀ v∈q8 q ev av cv vv bw,v.oneCell'=true:=yA hq.re.one hq.ae.one hq.cc.one hq.vs.one hq.bs.one
 obtain⟨X,hX⟩:∃ X,q8 q ev av cv vv bw=X:=⟨_,rfl⟩
 obtain⟨Z,hZ⟩:∃ Z,q8 G9 I4 I4 I4 I4 I4=Z:=⟨_,rfl⟩
 have zv:=KE
 have zl:=IC
 have zo:=mM
 have hcall:=fun w1 (k:U1 [] w w1)=>gD F q ev av cv vv bw w1 (hq.keep k (by simp)) (hfl.keep k (by simp)) hb1 hb2
 rw[hZ] at zv zl zo ⊢
 rw[hX] at hqz hqo hcall ⊢
 obtain⟨wA,hwA⟩:∃ wA,w.alloc (.cells X.toArray 34)=wA:=⟨_,rfl⟩
 obtain⟨wB,hwB⟩:∃ wB,wA.alloc (.cells Z.toArray 34)=wB:=⟨_,rfl⟩
 obtain⟨w3,hw3⟩:∃ w3,wB.alloc (.cells Z.toArray 34)=w3:=⟨_,rfl⟩
 have rA:=l5.new w 34 X.toArray
 have rB:=l5.new wA 34 Z.toArray
 have r3:=l5.new wB 34 Z.toArray
 have kA:=(U1.refl [] w).alloc (.cells X.toArray 34)
 have kB:=(U1.refl [] wA).alloc (.cells Z.toArray 34)
 have k3:=(U1.refl [] wB).alloc (.cells Z.toArray 34)
 rw[hwA] at rA kA
 rw[hwB] at rB kB
 rw[hw3] at r3 k3
 have rA3:=k3.row (kB.row rA (by simp)) (by simp)
 have rB3:=k3.row rB (by simp)
 have kk:=(kA.then kB (by simp)).then k3 (by simp)
 have hI:(prog.info? 34).map (·.size)=some X.length:=by rw[hqz];exact I5
 have hJ:(prog.info? 34).map (·.size)=some Z.length:=by rw[zl];exact I5
 have hlB:w.heap.size≤wA.heap.size:=kA.size
 have hne:wA.heap.size≠w.heap.size:=by have:=rA.lt;omega
 have hne2:wA.heap.size≠wB.heap.size:=by have:=rB.lt;omega
 have HW:=U0 (U2 hwA (U2 hwB (U2 hw3 zv)))
 have HR:=U0 (U2 rA3 (U2 rB3 (U2 r3 (U2 kk (U2 hI (U2 hJ (U2 hqo (U2 zo (U2 hqz (U2 zl (hr.keep kk (by simp) (by simp))))))))))))
 have HC:=U0 (hcall w3 kk)
 have HN:=U0 (U2 hne (U2 hne2 hlB))
 clear hwA hwB hw3 zv rA rB r3 kA kB k3 rA3 rB3 kk hI hJ hqo zo hqz zl hr hcall hX hZ hq hne hne2 hlB
 by_cases he:r.end_=0
 ·cases hok:q.ok
  ·have HE:=U0 he
   have hE:V5 (zA r.end_ q.ok=4):=U0 (by unfold zA;rw[if_pos he,hok];rfl)
   clear he
   go_enter func97,ntmps97
   go_upto_region 2 with (first
    |(with_reducible refine Z4 _ _ rfl 34 (.tmp 1) rfl _ rfl HW.o.1 ?_)
    |(with_reducible refine F5 _ _ rfl 34 rfl _ HW.o.2.2.2 HW.o.2.1 ?_)
    |(with_reducible refine F5 _ _ rfl 34 rfl _ HW.o.2.2.2 HW.o.2.2.1 ?_))
   go_upto_region 3 with (go_at_call 147;refine (uD p g r _ HR.o.2.2.2.2.2.2.2.2.2.2).mono ?_;rintro e w4 ⟨rfl,rfl⟩;rw[HE.o])
   go_upto_if 19 with (first
    |(refine wpList_load_mid rfl 34 (.tmp 4) rfl w.heap.size 0 rfl X _ HR.o.1.rangeAll underlying34 rfl HR.o.2.2.2.2.1 ?_)
    |(go_at_call 9;refine (HC.o).mono ?_;rintro e w5 ⟨rfl,k5⟩;rw[hok];have RB:=U0 (k5.row HR.o.2.1 (by simp));have RS:=U0 (k5.row HR.o.2.2.1 (by simp));have KK:=U0 (HR.o.2.2.2.1.then k5 (by simp));clear k5))
   have rs:=RB.o.setL (vs:=Z) (o:=0)
   rw[F7 (by have h1:=HR.o.2.2.2.2.2.2.2.2.2.1;have h2:=HR.o.2.2.2.2.2.2.2.2.2.1;simp only[U4]<;>omega)] at rs
   have ks:=KK.o.setL (vs:=Z) (g:=wA.heap.size) (o:=0) (.inr HN.o.2.2)
   have ht:=RB.o.there (o:=0) (n:=Z.toArray.size) (by have h1:=HR.o.2.2.2.2.2.2.2.2.2.1;have h2:=HR.o.2.2.2.2.2.2.2.2.2.1;simp only[U4]<;>omega)
   have hJ:(prog.info? 34).map (·.size)=some Z.toArray.size:=by rw[U4];exact HR.o.2.2.2.2.2.1
   have HS:=U0 (U2 rs (U2 ks (U2 ht hJ)))
   have HO:=U0 (all_oneCell_toArray HR.o.2.2.2.2.2.2.2.1)
   clear rs ks ht hJ
   go_wp2_with (first
    |(refine wpList_load_mid rfl 34 (.tmp 8) rfl wB.heap.size 0 rfl Z _ RS.o.rangeAll underlying34 rfl HR.o.2.2.2.2.2.1 ?_)
    |(refine wpList_store_mid rfl 34 (.tmp 6) (.tmp 20) rfl wA.heap.size 0 Z.toArray rfl rfl HS.o.2.2.1 HS.o.2.2.2 HO.o ?_))
   refine bodyPost_ret (U5 rfl _ _ wA.heap.size 34 _ (0,0) _ rfl HS.o.1 underlying34 rfl HS.o.2.2.2) rfl ?_
   exact⟨by rw[←hok,hE.o,VI _ _ (by decide)];rfl,HS.o.2.1⟩
  ·have HE:=U0 he
   have hE:V5 (zA r.end_ q.ok=0):=U0 (by unfold zA;rw[if_pos he,hok];rfl)
   clear he
   go_enter func97,ntmps97
   go_upto_region 2 with (first
    |(with_reducible refine Z4 _ _ rfl 34 (.tmp 1) rfl _ rfl HW.o.1 ?_)
    |(with_reducible refine F5 _ _ rfl 34 rfl _ HW.o.2.2.2 HW.o.2.1 ?_)
    |(with_reducible refine F5 _ _ rfl 34 rfl _ HW.o.2.2.2 HW.o.2.2.1 ?_))
   go_upto_region 3 with (go_at_call 147;refine (uD p g r _ HR.o.2.2.2.2.2.2.2.2.2.2).mono ?_;rintro e w4 ⟨rfl,rfl⟩;rw[HE.o])
   go_upto_if 19 with (first
    |(refine wpList_load_mid rfl 34 (.tmp 4) rfl w.heap.size 0 rfl X _ HR.o.1.rangeAll underlying34 rfl HR.o.2.2.2.2.1 ?_)
    |(go_at_call 9;refine (HC.o).mono ?_;rintro e w5 ⟨rfl,k5⟩;rw[hok];have RB:=U0 (k5.row HR.o.2.1 (by simp));have RS:=U0 (k5.row HR.o.1 (by simp));have KK:=U0 (HR.o.2.2.2.1.then k5 (by simp));clear k5))
   have rs:=RB.o.setL (vs:=X) (o:=0)
   rw[F7 (by have h1:=HR.o.2.2.2.2.2.2.2.2.1;have h2:=HR.o.2.2.2.2.2.2.2.2.2.1;simp only[U4]<;>omega)] at rs
   have ks:=KK.o.setL (vs:=X) (g:=wA.heap.size) (o:=0) (.inr HN.o.2.2)
   have ht:=RB.o.there (o:=0) (n:=X.toArray.size) (by have h1:=HR.o.2.2.2.2.2.2.2.2.1;have h2:=HR.o.2.2.2.2.2.2.2.2.2.1;simp only[U4]<;>omega)
   have hJ:(prog.info? 34).map (·.size)=some X.toArray.size:=by rw[U4];exact HR.o.2.2.2.2.1
   have HS:=U0 (U2 rs (U2 ks (U2 ht hJ)))
   have HO:=U0 (all_oneCell_toArray HR.o.2.2.2.2.2.2.1)
   clear rs ks ht hJ
   go_wp2_with (first
    |(refine wpList_load_mid rfl 34 (.tmp 4) rfl w.heap.size 0 rfl X _ RS.o.rangeAll underlying34 rfl HR.o.2.2.2.2.1 ?_)
    |(refine wpList_store_mid rfl 34 (.tmp 6) (.tmp 21) rfl wA.heap.size 0 X.toArray rfl rfl HS.o.2.2.1 HS.o.2.2.2 HO.o ?_))
   refine bodyPost_ret (U5 rfl _ _ wA.heap.size 34 _ (0,0) _ rfl HS.o.1 underlying34 rfl HS.o.2.2.2) rfl ?_
   exact⟨by rw[←hok,hE.o,fQ _ _ rfl];rfl,HS.o.2.1⟩
 ·have hb:(r.end_ !=0)=true:=by simp[he]
  have hE:V5 (zA r.end_ q.ok=r.end_∧r.end_≠0):=U0 ⟨by unfold zA;rw[if_neg he],he⟩
  clear he
  have RB:=U0 HR.o.2.1
  have RS:=U0 HR.o.2.2.1
  have KK:=U0 HR.o.2.2.2.1
  go_enter func97,ntmps97
  go_upto_region 2 with (first
   |(with_reducible refine Z4 _ _ rfl 34 (.tmp 1) rfl _ rfl HW.o.1 ?_)
   |(with_reducible refine F5 _ _ rfl 34 rfl _ HW.o.2.2.2 HW.o.2.1 ?_)
   |(with_reducible refine F5 _ _ rfl 34 rfl _ HW.o.2.2.2 HW.o.2.2.1 ?_))
  go_upto_region 3 with (go_at_call 147;refine (uD p g r _ HR.o.2.2.2.2.2.2.2.2.2.2).mono ?_;rintro e w4 ⟨rfl,rfl⟩)
  have rs:=RB.o.setL (vs:=Z) (o:=0)
  rw[F7 (by have h1:=HR.o.2.2.2.2.2.2.2.2.2.1;have h2:=HR.o.2.2.2.2.2.2.2.2.2.1;simp only[U4]<;>omega)] at rs
  have ks:=KK.o.setL (vs:=Z) (g:=wA.heap.size) (o:=0) (.inr HN.o.2.2)
  have ht:=RB.o.there (o:=0) (n:=Z.toArray.size) (by have h1:=HR.o.2.2.2.2.2.2.2.2.2.1;have h2:=HR.o.2.2.2.2.2.2.2.2.2.1;simp only[U4]<;>omega)
  have hJ:(prog.info? 34).map (·.size)=some Z.toArray.size:=by rw[U4];exact HR.o.2.2.2.2.2.1
  have HS:=U0 (U2 rs (U2 ks (U2 ht hJ)))
  have HO:=U0 (all_oneCell_toArray HR.o.2.2.2.2.2.2.2.1)
  clear rs ks ht hJ
  go_wp2_with (first
   |(refine wpList_load_mid rfl 34 (.tmp 8) rfl wB.heap.size 0 rfl Z _ RS.o.rangeAll underlying34 rfl HR.o.2.2.2.2.2.1 ?_)
   |(refine wpList_store_mid rfl 34 (.tmp 6) (.tmp 14) rfl wA.heap.size 0 Z.toArray rfl rfl HS.o.2.2.1 HS.o.2.2.2 HO.o ?_))
  refine bodyPost_ret (U5 rfl _ _ wA.heap.size 34 _ (0,0) _ rfl HS.o.1 underlying34 rfl HS.o.2.2.2) rfl ?_
  exact⟨by rw[hE.o.1,VI _ _ hE.o.2];rfl,HS.o.2.1⟩
end Go.Proofs.YthfdkonhjpdflaaGreatDoor
