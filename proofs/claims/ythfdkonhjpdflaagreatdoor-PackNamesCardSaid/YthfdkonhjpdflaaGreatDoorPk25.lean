import Derived.Test.YthfdkonhjpdflaaGreatDoorPkE
import Derived.Test.YthfdkonhjpdflaaGreatDoorLow2
import Derived.Laws.ResultCell
namespace Go.Proofs.YthfdkonhjpdflaaGreatDoor
open Go.RowKit Go.Proofs.Tryz
set_option linter.unusedVariables false
set_option maxRecDepth 100000
set_option linter.unusedSimpArgs false
set_option maxHeartbeats 8000000
theorem aD {P:Program} (w w':World) {ops:Array Oper} {rest:List Oper} {o:Oper} {a:Act} {Q:Exit→Act→World→Prop} (hgd:o.guard=none) (t:TypeId) (ho:o.op= .alloc t)
 (zs:Array Value) (hz:(P.info? t).bind (·.zero)=some (.agg zs)) (hw:w.alloc (.cells zs t)=w') (h:wpList P ops Q rest (a.put o.dst (.pointer (some ⟨w.heap.size,0,none⟩))) w'):wpList P ops Q (o::rest) a w:=by
 subst hw
 cases hi:P.info? t with
 |none=>rw[hi] at hz;cases hz
 |some i=>
  rw[hi] at hz
  have hz':i.zero=some (.agg zs):=hz
  refine wpList_plain hgd fun K hK=> ?_
  have hK':=hK _ _ h
  unfold Oper.wp execOp
  simp only[ho]
  simpa[Instr.alloc,zeroValue,typeInfo,hi,hz',newVar,newRow,Value.cells,go_sem] using hK'
theorem aG {P:Program} {fn:Func} {p u:Tmp} {ty:TypeId} (h:fn.results= #[.cell p ty,.tmp u]) (tmps:Array Value) (w:World) (g:Nat) (t:TypeId) (cs:Array Value) (fr:Nat × Nat) (d:TypeDesc)
 (hp:tmps.getD p undef= .pointer (some ⟨g,0,none⟩)) (hg:w.heap[g]? =some (.cells cs t fr))
 (hu:P.underlying ty=some d) (hd:(match d with| .struct _| .array _ _=>true|_=>false)=true) (hi:(P.info? ty).map (·.size)=some cs.size):
 (results fn tmps).run P w= .ok (.tuple #[.agg cs,tmps.getD u undef]) w:=by
 rw[results_cell_tmp h,hp]
 simp[asAddr,run_loadVar_row w g t ty cs fr d hg hu hd hi]
def eL {α:Type} (E:Int) (x z:α):α:=if E=0 then x else z
theorem xX {α:Type} {E:Int} (x z:α) (h:E=0):eL E x z=x:=by unfold eL;rw[if_pos h]
theorem oD {α:Type} {E:Int} (x z:α) (h:E≠0):eL E x z=z:=by unfold eL;rw[if_neg h]
def dm (e:Int) (ok:Bool):Int:=if e=0 then (if ok then 0 else 4) else e
def bO:PK:=⟨0,0,0,0,0,0,false,aV,aY,aW,[],[]⟩
theorem aK:aV.name.length=32:=by rw[show aV.name=List.replicate 32 0 from rfl,List.length_replicate]
theorem aM:aY.name.length=32:=by rw[show aY.name=List.replicate 32 0 from rfl,List.length_replicate]
theorem nM:(prog.info? 26).bind (·.zero)=some (.agg (bE aV ay).toArray):=by kernel_rfl
theorem qR:(prog.info? 28).bind (·.zero)=some (.agg (bK aY ay).toArray):=by kernel_rfl
theorem oW:(prog.info? 31).bind (·.zero)=some (.agg (bZ aW ay).toArray):=by kernel_rfl
theorem jh:(prog.info? 34).bind (·.zero)=some (.agg (bz bO ay ay ay ay ay).toArray):=by kernel_rfl
theorem pJ:(bE aV ay).length=37:=bB aK
theorem sO:(bK aY ay).length=38:=bL aM
theorem fQ:(bz bO ay ay ay ay ay).length=87:=bA aK aM
theorem yo:∀ v∈bE aV ay,v.oneCell'=true:=dR aV rfl
theorem xO:∀ v∈bK aY ay,v.oneCell'=true:=eB aY rfl
theorem xS:∀ v∈bZ aW ay,v.oneCell'=true:=by intro v hv;simp only[bZ,List.mem_cons,List.not_mem_nil,or_false] at hv;rcases hv with rfl|rfl|rfl<;>rfl
theorem tV:∀ v∈bz bO ay ay ay ay ay,v.oneCell'=true:=dz rfl rfl rfl rfl rfl
theorem fM (c:CF) {cv:Value} (h:cv.oneCell'=true):∀ v∈bZ c cv,v.oneCell'=true:=by
 intro v hv;simp only[bZ,List.mem_cons,List.not_mem_nil,or_false] at hv;rcases hv with rfl|rfl|rfl
 ·rfl
 ·rfl
 ·exact h
theorem tF (F:List Nat) (p g:Nat) (r:RS) (q:RQ) (ev:Value) (w:World) (hr:jg w p g r) (hq:l5 w F q ev):
 Calls prog 105 #[.pointer (some ⟨p,0,none⟩),.agg (bE q ev).toArray,.func (.func 20) #[] #[]] w fun e w'=>e= .returned (.tuple #[.agg (eL (dm r.end_ q.ok) (bE q ev) (bE aV ay)).toArray,.int .i64 (dm r.end_ q.ok)])∧ag [] w w':=by
 have hqz:(bE q ev).length=37:=bB hq.1
 have hqo:∀ v∈bE q ev,v.oneCell'=true:=dR q hq.2.one
 obtain⟨X,hX⟩:∃ X,bE q ev=X:=⟨_,rfl⟩
 obtain⟨Z,hZ⟩:∃ Z,bE aV ay=Z:=⟨_,rfl⟩
 have zv:=nM
 have zl:=pJ
 have zo:=yo
 have hcall:=fun w1 (k:ag [] w w1)=>gH F q ev w1 ⟨hq.1,hq.2.keep k (by simp)⟩
 rw[hZ] at zv zl zo ⊢
 rw[hX] at hqz hqo hcall ⊢
 obtain⟨wA,hwA⟩:∃ wA,w.alloc (.cells X.toArray 26)=wA:=⟨_,rfl⟩
 obtain⟨wB,hwB⟩:∃ wB,wA.alloc (.cells Z.toArray 26)=wB:=⟨_,rfl⟩
 obtain⟨w3,hw3⟩:∃ w3,wB.alloc (.cells Z.toArray 26)=w3:=⟨_,rfl⟩
 have rA:=aC.new w 26 X.toArray
 have rB:=aC.new wA 26 Z.toArray
 have r3:=aC.new wB 26 Z.toArray
 have kA:=(ag.refl [] w).alloc (.cells X.toArray 26)
 have kB:=(ag.refl [] wA).alloc (.cells Z.toArray 26)
 have k3:=(ag.refl [] wB).alloc (.cells Z.toArray 26)
 rw[hwA] at rA kA
 rw[hwB] at rB kB
 rw[hw3] at r3 k3
 have rA3:=k3.row (kB.row rA (by simp)) (by simp)
 have rB3:=k3.row rB (by simp)
 have kk:=(kA.then kB (by simp)).then k3 (by simp)
 have hI:(prog.info? 26).map (·.size)=some X.length:=by rw[hqz];exact bN
 have hJ:(prog.info? 26).map (·.size)=some Z.length:=by rw[zl];exact bN
 have hlB:w.heap.size≤wA.heap.size:=kA.size
 have hne:wA.heap.size≠w.heap.size:=by have:=rA.lt;omega
 have hne2:wA.heap.size≠wB.heap.size:=by have:=rB.lt;omega
 have HW:=aa (ah hwA (ah hwB (ah hw3 zv)))
 have HR:=aa (ah rA3 (ah rB3 (ah r3 (ah kk (ah hI (ah hJ (ah hqo (ah zo (ah hqz (ah zl (hr.keep kk (by simp) (by simp))))))))))))
 have HC:=aa (hcall w3 kk)
 have HN:=aa (ah hne (ah hne2 hlB))
 clear hwA hwB hw3 zv rA rB r3 kA kB k3 rA3 rB3 kk hI hJ hqo zo hqz zl hr hcall hX hZ hq hne hne2 hlB
 by_cases he:r.end_=0
 ·cases hok:q.ok
  ·have HE:=aa he
   have hE:aH (dm r.end_ q.ok=4):=aa (by unfold dm;rw[if_pos he,hok];rfl)
   clear he
   go_enter func105,ntmps105
   go_upto_region 2 with (first
    |(with_reducible refine aA _ _ rfl 26 (.tmp 1) rfl _ rfl HW.o.1 ?_)
    |(with_reducible refine aD _ _ rfl 26 rfl _ HW.o.2.2.2 HW.o.2.1 ?_)
    |(with_reducible refine aD _ _ rfl 26 rfl _ HW.o.2.2.2 HW.o.2.2.1 ?_))
   go_upto_region 3 with (go_at_call 147;refine (gU p g r _ HR.o.2.2.2.2.2.2.2.2.2.2).mono ?_;rintro e w4 ⟨rfl,rfl⟩;rw[HE.o])
   go_upto_if 19 with (first
    |(refine wpList_load_mid rfl 26 (.tmp 4) rfl w.heap.size 0 rfl X _ HR.o.1.rangeAll underlying26 rfl HR.o.2.2.2.2.1 ?_)
    |(go_at_call 20;refine (HC.o).mono ?_;rintro e w5 ⟨rfl,k5⟩;rw[hok];have RB:=aa (k5.row HR.o.2.1 (by simp));have RS:=aa (k5.row HR.o.2.2.1 (by simp));have KK:=aa (HR.o.2.2.2.1.then k5 (by simp));clear k5))
   have rs:=RB.o.setL (vs:=Z) (o:=0)
   rw[aR (by have h1:=HR.o.2.2.2.2.2.2.2.2.2.1;have h2:=HR.o.2.2.2.2.2.2.2.2.2.1;simp only[az]<;>omega)] at rs
   have ks:=KK.o.setL (vs:=Z) (g:=wA.heap.size) (o:=0) (.inr HN.o.2.2)
   have ht:=RB.o.there (o:=0) (n:=Z.toArray.size) (by have h1:=HR.o.2.2.2.2.2.2.2.2.2.1;have h2:=HR.o.2.2.2.2.2.2.2.2.2.1;simp only[az]<;>omega)
   have hJ:(prog.info? 26).map (·.size)=some Z.toArray.size:=by rw[az];exact HR.o.2.2.2.2.2.1
   have HS:=aa (ah rs (ah ks (ah ht hJ)))
   have HO:=aa (all_oneCell_toArray HR.o.2.2.2.2.2.2.2.1)
   clear rs ks ht hJ
   go_wp2_with (first
    |(refine wpList_load_mid rfl 26 (.tmp 8) rfl wB.heap.size 0 rfl Z _ RS.o.rangeAll underlying26 rfl HR.o.2.2.2.2.2.1 ?_)
    |(refine wpList_store_mid rfl 26 (.tmp 6) (.tmp 20) rfl wA.heap.size 0 Z.toArray rfl rfl HS.o.2.2.1 HS.o.2.2.2 HO.o ?_))
   refine bodyPost_ret (aG rfl _ _ wA.heap.size 26 _ (0,0) _ rfl HS.o.1 underlying26 rfl HS.o.2.2.2) rfl ?_
   exact⟨by rw[←hok,hE.o,oD _ _ (by decide)];rfl,HS.o.2.1⟩
  ·have HE:=aa he
   have hE:aH (dm r.end_ q.ok=0):=aa (by unfold dm;rw[if_pos he,hok];rfl)
   clear he
   go_enter func105,ntmps105
   go_upto_region 2 with (first
    |(with_reducible refine aA _ _ rfl 26 (.tmp 1) rfl _ rfl HW.o.1 ?_)
    |(with_reducible refine aD _ _ rfl 26 rfl _ HW.o.2.2.2 HW.o.2.1 ?_)
    |(with_reducible refine aD _ _ rfl 26 rfl _ HW.o.2.2.2 HW.o.2.2.1 ?_))
   go_upto_region 3 with (go_at_call 147;refine (gU p g r _ HR.o.2.2.2.2.2.2.2.2.2.2).mono ?_;rintro e w4 ⟨rfl,rfl⟩;rw[HE.o])
   go_upto_if 19 with (first
    |(refine wpList_load_mid rfl 26 (.tmp 4) rfl w.heap.size 0 rfl X _ HR.o.1.rangeAll underlying26 rfl HR.o.2.2.2.2.1 ?_)
    |(go_at_call 20;refine (HC.o).mono ?_;rintro e w5 ⟨rfl,k5⟩;rw[hok];have RB:=aa (k5.row HR.o.2.1 (by simp));have RS:=aa (k5.row HR.o.1 (by simp));have KK:=aa (HR.o.2.2.2.1.then k5 (by simp));clear k5))
   have rs:=RB.o.setL (vs:=X) (o:=0)
   rw[aR (by have h1:=HR.o.2.2.2.2.2.2.2.2.1;have h2:=HR.o.2.2.2.2.2.2.2.2.2.1;simp only[az]<;>omega)] at rs
   have ks:=KK.o.setL (vs:=X) (g:=wA.heap.size) (o:=0) (.inr HN.o.2.2)
   have ht:=RB.o.there (o:=0) (n:=X.toArray.size) (by have h1:=HR.o.2.2.2.2.2.2.2.2.1;have h2:=HR.o.2.2.2.2.2.2.2.2.2.1;simp only[az]<;>omega)
   have hJ:(prog.info? 26).map (·.size)=some X.toArray.size:=by rw[az];exact HR.o.2.2.2.2.1
   have HS:=aa (ah rs (ah ks (ah ht hJ)))
   have HO:=aa (all_oneCell_toArray HR.o.2.2.2.2.2.2.1)
   clear rs ks ht hJ
   go_wp2_with (first
    |(refine wpList_load_mid rfl 26 (.tmp 4) rfl w.heap.size 0 rfl X _ RS.o.rangeAll underlying26 rfl HR.o.2.2.2.2.1 ?_)
    |(refine wpList_store_mid rfl 26 (.tmp 6) (.tmp 21) rfl wA.heap.size 0 X.toArray rfl rfl HS.o.2.2.1 HS.o.2.2.2 HO.o ?_))
   refine bodyPost_ret (aG rfl _ _ wA.heap.size 26 _ (0,0) _ rfl HS.o.1 underlying26 rfl HS.o.2.2.2) rfl ?_
   exact⟨by rw[←hok,hE.o,xX _ _ rfl];rfl,HS.o.2.1⟩
 ·have hb:(r.end_ !=0)=true:=by simp[he]
  have hE:aH (dm r.end_ q.ok=r.end_∧r.end_≠0):=aa ⟨by unfold dm;rw[if_neg he],he⟩
  clear he
  have RB:=aa HR.o.2.1
  have RS:=aa HR.o.2.2.1
  have KK:=aa HR.o.2.2.2.1
  go_enter func105,ntmps105
  go_upto_region 2 with (first
   |(with_reducible refine aA _ _ rfl 26 (.tmp 1) rfl _ rfl HW.o.1 ?_)
   |(with_reducible refine aD _ _ rfl 26 rfl _ HW.o.2.2.2 HW.o.2.1 ?_)
   |(with_reducible refine aD _ _ rfl 26 rfl _ HW.o.2.2.2 HW.o.2.2.1 ?_))
  go_upto_region 3 with (go_at_call 147;refine (gU p g r _ HR.o.2.2.2.2.2.2.2.2.2.2).mono ?_;rintro e w4 ⟨rfl,rfl⟩)
  have rs:=RB.o.setL (vs:=Z) (o:=0)
  rw[aR (by have h1:=HR.o.2.2.2.2.2.2.2.2.2.1;have h2:=HR.o.2.2.2.2.2.2.2.2.2.1;simp only[az]<;>omega)] at rs
  have ks:=KK.o.setL (vs:=Z) (g:=wA.heap.size) (o:=0) (.inr HN.o.2.2)
  have ht:=RB.o.there (o:=0) (n:=Z.toArray.size) (by have h1:=HR.o.2.2.2.2.2.2.2.2.2.1;have h2:=HR.o.2.2.2.2.2.2.2.2.2.1;simp only[az]<;>omega)
  have hJ:(prog.info? 26).map (·.size)=some Z.toArray.size:=by rw[az];exact HR.o.2.2.2.2.2.1
  have HS:=aa (ah rs (ah ks (ah ht hJ)))
  have HO:=aa (all_oneCell_toArray HR.o.2.2.2.2.2.2.2.1)
  clear rs ks ht hJ
  go_wp2_with (first
   |(refine wpList_load_mid rfl 26 (.tmp 8) rfl wB.heap.size 0 rfl Z _ RS.o.rangeAll underlying26 rfl HR.o.2.2.2.2.2.1 ?_)
   |(refine wpList_store_mid rfl 26 (.tmp 6) (.tmp 14) rfl wA.heap.size 0 Z.toArray rfl rfl HS.o.2.2.1 HS.o.2.2.2 HO.o ?_))
  refine bodyPost_ret (aG rfl _ _ wA.heap.size 26 _ (0,0) _ rfl HS.o.1 underlying26 rfl HS.o.2.2.2) rfl ?_
  exact⟨by rw[hE.o.1,oD _ _ hE.o.2];rfl,HS.o.2.1⟩
theorem tC (F:List Nat) (p g:Nat) (r:RS) (q:AN) (ev:Value) (w:World) (hr:jg w p g r) (hq:mM w F q ev):
 Calls prog 111 #[.pointer (some ⟨p,0,none⟩),.agg (bK q ev).toArray,.func (.func 21) #[] #[]] w fun e w'=>e= .returned (.tuple #[.agg (eL (dm r.end_ q.ok) (bK q ev) (bK aY ay)).toArray,.int .i64 (dm r.end_ q.ok)])∧ag [] w w':=by
 have hqz:(bK q ev).length=38:=bL hq.1
 have hqo:∀ v∈bK q ev,v.oneCell'=true:=eB q hq.2.one
 obtain⟨X,hX⟩:∃ X,bK q ev=X:=⟨_,rfl⟩
 obtain⟨Z,hZ⟩:∃ Z,bK aY ay=Z:=⟨_,rfl⟩
 have zv:=qR
 have zl:=sO
 have zo:=xO
 have hcall:=fun w1 (k:ag [] w w1)=>iB F q ev w1 ⟨hq.1,hq.2.keep k (by simp)⟩
 rw[hZ] at zv zl zo ⊢
 rw[hX] at hqz hqo hcall ⊢
 obtain⟨wA,hwA⟩:∃ wA,w.alloc (.cells X.toArray 28)=wA:=⟨_,rfl⟩
 obtain⟨wB,hwB⟩:∃ wB,wA.alloc (.cells Z.toArray 28)=wB:=⟨_,rfl⟩
 obtain⟨w3,hw3⟩:∃ w3,wB.alloc (.cells Z.toArray 28)=w3:=⟨_,rfl⟩
 have rA:=aC.new w 28 X.toArray
 have rB:=aC.new wA 28 Z.toArray
 have r3:=aC.new wB 28 Z.toArray
 have kA:=(ag.refl [] w).alloc (.cells X.toArray 28)
 have kB:=(ag.refl [] wA).alloc (.cells Z.toArray 28)
 have k3:=(ag.refl [] wB).alloc (.cells Z.toArray 28)
 rw[hwA] at rA kA
 rw[hwB] at rB kB
 rw[hw3] at r3 k3
 have rA3:=k3.row (kB.row rA (by simp)) (by simp)
 have rB3:=k3.row rB (by simp)
 have kk:=(kA.then kB (by simp)).then k3 (by simp)
 have hI:(prog.info? 28).map (·.size)=some X.length:=by rw[hqz];exact bR
 have hJ:(prog.info? 28).map (·.size)=some Z.length:=by rw[zl];exact bR
 have hlB:w.heap.size≤wA.heap.size:=kA.size
 have hne:wA.heap.size≠w.heap.size:=by have:=rA.lt;omega
 have hne2:wA.heap.size≠wB.heap.size:=by have:=rB.lt;omega
 have HW:=aa (ah hwA (ah hwB (ah hw3 zv)))
 have HR:=aa (ah rA3 (ah rB3 (ah r3 (ah kk (ah hI (ah hJ (ah hqo (ah zo (ah hqz (ah zl (hr.keep kk (by simp) (by simp))))))))))))
 have HC:=aa (hcall w3 kk)
 have HN:=aa (ah hne (ah hne2 hlB))
 clear hwA hwB hw3 zv rA rB r3 kA kB k3 rA3 rB3 kk hI hJ hqo zo hqz zl hr hcall hX hZ hq hne hne2 hlB
 by_cases he:r.end_=0
 ·cases hok:q.ok
  ·have HE:=aa he
   have hE:aH (dm r.end_ q.ok=4):=aa (by unfold dm;rw[if_pos he,hok];rfl)
   clear he
   go_enter func111,ntmps111
   go_upto_region 2 with (first
    |(with_reducible refine aA _ _ rfl 28 (.tmp 1) rfl _ rfl HW.o.1 ?_)
    |(with_reducible refine aD _ _ rfl 28 rfl _ HW.o.2.2.2 HW.o.2.1 ?_)
    |(with_reducible refine aD _ _ rfl 28 rfl _ HW.o.2.2.2 HW.o.2.2.1 ?_))
   go_upto_region 3 with (go_at_call 147;refine (gU p g r _ HR.o.2.2.2.2.2.2.2.2.2.2).mono ?_;rintro e w4 ⟨rfl,rfl⟩;rw[HE.o])
   go_upto_if 19 with (first
    |(refine wpList_load_mid rfl 28 (.tmp 4) rfl w.heap.size 0 rfl X _ HR.o.1.rangeAll underlying28 rfl HR.o.2.2.2.2.1 ?_)
    |(go_at_call 21;refine (HC.o).mono ?_;rintro e w5 ⟨rfl,k5⟩;rw[hok];have RB:=aa (k5.row HR.o.2.1 (by simp));have RS:=aa (k5.row HR.o.2.2.1 (by simp));have KK:=aa (HR.o.2.2.2.1.then k5 (by simp));clear k5))
   have rs:=RB.o.setL (vs:=Z) (o:=0)
   rw[aR (by have h1:=HR.o.2.2.2.2.2.2.2.2.2.1;have h2:=HR.o.2.2.2.2.2.2.2.2.2.1;simp only[az]<;>omega)] at rs
   have ks:=KK.o.setL (vs:=Z) (g:=wA.heap.size) (o:=0) (.inr HN.o.2.2)
   have ht:=RB.o.there (o:=0) (n:=Z.toArray.size) (by have h1:=HR.o.2.2.2.2.2.2.2.2.2.1;have h2:=HR.o.2.2.2.2.2.2.2.2.2.1;simp only[az]<;>omega)
   have hJ:(prog.info? 28).map (·.size)=some Z.toArray.size:=by rw[az];exact HR.o.2.2.2.2.2.1
   have HS:=aa (ah rs (ah ks (ah ht hJ)))
   have HO:=aa (all_oneCell_toArray HR.o.2.2.2.2.2.2.2.1)
   clear rs ks ht hJ
   go_wp2_with (first
    |(refine wpList_load_mid rfl 28 (.tmp 8) rfl wB.heap.size 0 rfl Z _ RS.o.rangeAll underlying28 rfl HR.o.2.2.2.2.2.1 ?_)
    |(refine wpList_store_mid rfl 28 (.tmp 6) (.tmp 20) rfl wA.heap.size 0 Z.toArray rfl rfl HS.o.2.2.1 HS.o.2.2.2 HO.o ?_))
   refine bodyPost_ret (aG rfl _ _ wA.heap.size 28 _ (0,0) _ rfl HS.o.1 underlying28 rfl HS.o.2.2.2) rfl ?_
   exact⟨by rw[←hok,hE.o,oD _ _ (by decide)];rfl,HS.o.2.1⟩
  ·have HE:=aa he
   have hE:aH (dm r.end_ q.ok=0):=aa (by unfold dm;rw[if_pos he,hok];rfl)
   clear he
   go_enter func111,ntmps111
   go_upto_region 2 with (first
    |(with_reducible refine aA _ _ rfl 28 (.tmp 1) rfl _ rfl HW.o.1 ?_)
    |(with_reducible refine aD _ _ rfl 28 rfl _ HW.o.2.2.2 HW.o.2.1 ?_)
    |(with_reducible refine aD _ _ rfl 28 rfl _ HW.o.2.2.2 HW.o.2.2.1 ?_))
   go_upto_region 3 with (go_at_call 147;refine (gU p g r _ HR.o.2.2.2.2.2.2.2.2.2.2).mono ?_;rintro e w4 ⟨rfl,rfl⟩;rw[HE.o])
   go_upto_if 19 with (first
    |(refine wpList_load_mid rfl 28 (.tmp 4) rfl w.heap.size 0 rfl X _ HR.o.1.rangeAll underlying28 rfl HR.o.2.2.2.2.1 ?_)
    |(go_at_call 21;refine (HC.o).mono ?_;rintro e w5 ⟨rfl,k5⟩;rw[hok];have RB:=aa (k5.row HR.o.2.1 (by simp));have RS:=aa (k5.row HR.o.1 (by simp));have KK:=aa (HR.o.2.2.2.1.then k5 (by simp));clear k5))
   have rs:=RB.o.setL (vs:=X) (o:=0)
   rw[aR (by have h1:=HR.o.2.2.2.2.2.2.2.2.1;have h2:=HR.o.2.2.2.2.2.2.2.2.2.1;simp only[az]<;>omega)] at rs
   have ks:=KK.o.setL (vs:=X) (g:=wA.heap.size) (o:=0) (.inr HN.o.2.2)
   have ht:=RB.o.there (o:=0) (n:=X.toArray.size) (by have h1:=HR.o.2.2.2.2.2.2.2.2.1;have h2:=HR.o.2.2.2.2.2.2.2.2.2.1;simp only[az]<;>omega)
   have hJ:(prog.info? 28).map (·.size)=some X.toArray.size:=by rw[az];exact HR.o.2.2.2.2.1
   have HS:=aa (ah rs (ah ks (ah ht hJ)))
   have HO:=aa (all_oneCell_toArray HR.o.2.2.2.2.2.2.1)
   clear rs ks ht hJ
   go_wp2_with (first
    |(refine wpList_load_mid rfl 28 (.tmp 4) rfl w.heap.size 0 rfl X _ RS.o.rangeAll underlying28 rfl HR.o.2.2.2.2.1 ?_)
    |(refine wpList_store_mid rfl 28 (.tmp 6) (.tmp 21) rfl wA.heap.size 0 X.toArray rfl rfl HS.o.2.2.1 HS.o.2.2.2 HO.o ?_))
   refine bodyPost_ret (aG rfl _ _ wA.heap.size 28 _ (0,0) _ rfl HS.o.1 underlying28 rfl HS.o.2.2.2) rfl ?_
   exact⟨by rw[←hok,hE.o,xX _ _ rfl];rfl,HS.o.2.1⟩
 ·have hb:(r.end_ !=0)=true:=by simp[he]
  have hE:aH (dm r.end_ q.ok=r.end_∧r.end_≠0):=aa ⟨by unfold dm;rw[if_neg he],he⟩
  clear he
  have RB:=aa HR.o.2.1
  have RS:=aa HR.o.2.2.1
  have KK:=aa HR.o.2.2.2.1
  go_enter func111,ntmps111
  go_upto_region 2 with (first
   |(with_reducible refine aA _ _ rfl 28 (.tmp 1) rfl _ rfl HW.o.1 ?_)
   |(with_reducible refine aD _ _ rfl 28 rfl _ HW.o.2.2.2 HW.o.2.1 ?_)
   |(with_reducible refine aD _ _ rfl 28 rfl _ HW.o.2.2.2 HW.o.2.2.1 ?_))
  go_upto_region 3 with (go_at_call 147;refine (gU p g r _ HR.o.2.2.2.2.2.2.2.2.2.2).mono ?_;rintro e w4 ⟨rfl,rfl⟩)
  have rs:=RB.o.setL (vs:=Z) (o:=0)
  rw[aR (by have h1:=HR.o.2.2.2.2.2.2.2.2.2.1;have h2:=HR.o.2.2.2.2.2.2.2.2.2.1;simp only[az]<;>omega)] at rs
  have ks:=KK.o.setL (vs:=Z) (g:=wA.heap.size) (o:=0) (.inr HN.o.2.2)
  have ht:=RB.o.there (o:=0) (n:=Z.toArray.size) (by have h1:=HR.o.2.2.2.2.2.2.2.2.2.1;have h2:=HR.o.2.2.2.2.2.2.2.2.2.1;simp only[az]<;>omega)
  have hJ:(prog.info? 28).map (·.size)=some Z.toArray.size:=by rw[az];exact HR.o.2.2.2.2.2.1
  have HS:=aa (ah rs (ah ks (ah ht hJ)))
  have HO:=aa (all_oneCell_toArray HR.o.2.2.2.2.2.2.2.1)
  clear rs ks ht hJ
  go_wp2_with (first
   |(refine wpList_load_mid rfl 28 (.tmp 8) rfl wB.heap.size 0 rfl Z _ RS.o.rangeAll underlying28 rfl HR.o.2.2.2.2.2.1 ?_)
   |(refine wpList_store_mid rfl 28 (.tmp 6) (.tmp 14) rfl wA.heap.size 0 Z.toArray rfl rfl HS.o.2.2.1 HS.o.2.2.2 HO.o ?_))
  refine bodyPost_ret (aG rfl _ _ wA.heap.size 28 _ (0,0) _ rfl HS.o.1 underlying28 rfl HS.o.2.2.2) rfl ?_
  exact⟨by rw[hE.o.1,oD _ _ hE.o.2];rfl,HS.o.2.1⟩
theorem qW (F:List Nat) (p g:Nat) (r:RS) (q:CF) (ev:Value) (w:World) (hr:jg w p g r) (hq:bq w F ev q.chain):
 Calls prog 112 #[.pointer (some ⟨p,0,none⟩),.agg (bZ q ev).toArray,.func (.func 22) #[] #[]] w fun e w'=>e= .returned (.tuple #[.agg (eL (dm r.end_ q.ok) (bZ q ev) (bZ aW ay)).toArray,.int .i64 (dm r.end_ q.ok)])∧ag [] w w':=by
 have hqz:(bZ q ev).length=3:=rfl
 have hqo:∀ v∈bZ q ev,v.oneCell'=true:=fM q hq.one
 obtain⟨X,hX⟩:∃ X,bZ q ev=X:=⟨_,rfl⟩
 obtain⟨Z,hZ⟩:∃ Z,bZ aW ay=Z:=⟨_,rfl⟩
 have zv:=oW
 have zl:=(show (bZ aW ay).length=3 from rfl)
 have zo:=xS
 have hcall:=fun w1 (k:ag [] w w1)=>fC F q ev w1 (hq.keep k (by simp))
 rw[hZ] at zv zl zo ⊢
 rw[hX] at hqz hqo hcall ⊢
 obtain⟨wA,hwA⟩:∃ wA,w.alloc (.cells X.toArray 31)=wA:=⟨_,rfl⟩
 obtain⟨wB,hwB⟩:∃ wB,wA.alloc (.cells Z.toArray 31)=wB:=⟨_,rfl⟩
 obtain⟨w3,hw3⟩:∃ w3,wB.alloc (.cells Z.toArray 31)=w3:=⟨_,rfl⟩
 have rA:=aC.new w 31 X.toArray
 have rB:=aC.new wA 31 Z.toArray
 have r3:=aC.new wB 31 Z.toArray
 have kA:=(ag.refl [] w).alloc (.cells X.toArray 31)
 have kB:=(ag.refl [] wA).alloc (.cells Z.toArray 31)
 have k3:=(ag.refl [] wB).alloc (.cells Z.toArray 31)
 rw[hwA] at rA kA
 rw[hwB] at rB kB
 rw[hw3] at r3 k3
 have rA3:=k3.row (kB.row rA (by simp)) (by simp)
 have rB3:=k3.row rB (by simp)
 have kk:=(kA.then kB (by simp)).then k3 (by simp)
 have hI:(prog.info? 31).map (·.size)=some X.length:=by rw[hqz];exact bS
 have hJ:(prog.info? 31).map (·.size)=some Z.length:=by rw[zl];exact bS
 have hlB:w.heap.size≤wA.heap.size:=kA.size
 have hne:wA.heap.size≠w.heap.size:=by have:=rA.lt;omega
 have hne2:wA.heap.size≠wB.heap.size:=by have:=rB.lt;omega
 have HW:=aa (ah hwA (ah hwB (ah hw3 zv)))
 have HR:=aa (ah rA3 (ah rB3 (ah r3 (ah kk (ah hI (ah hJ (ah hqo (ah zo (ah hqz (ah zl (hr.keep kk (by simp) (by simp))))))))))))
 have HC:=aa (hcall w3 kk)
 have HN:=aa (ah hne (ah hne2 hlB))
 clear hwA hwB hw3 zv rA rB r3 kA kB k3 rA3 rB3 kk hI hJ hqo zo hqz zl hr hcall hX hZ hq hne hne2 hlB
 by_cases he:r.end_=0
 ·cases hok:q.ok
  ·have HE:=aa he
   have hE:aH (dm r.end_ q.ok=4):=aa (by unfold dm;rw[if_pos he,hok];rfl)
   clear he
   go_enter func112,ntmps112
   go_upto_region 2 with (first
    |(with_reducible refine aA _ _ rfl 31 (.tmp 1) rfl _ rfl HW.o.1 ?_)
    |(with_reducible refine aD _ _ rfl 31 rfl _ HW.o.2.2.2 HW.o.2.1 ?_)
    |(with_reducible refine aD _ _ rfl 31 rfl _ HW.o.2.2.2 HW.o.2.2.1 ?_))
   go_upto_region 3 with (go_at_call 147;refine (gU p g r _ HR.o.2.2.2.2.2.2.2.2.2.2).mono ?_;rintro e w4 ⟨rfl,rfl⟩;rw[HE.o])
   go_upto_if 19 with (first
    |(refine wpList_load_mid rfl 31 (.tmp 4) rfl w.heap.size 0 rfl X _ HR.o.1.rangeAll underlying31 rfl HR.o.2.2.2.2.1 ?_)
    |(go_at_call 22;refine (HC.o).mono ?_;rintro e w5 ⟨rfl,k5⟩;rw[hok];have RB:=aa (k5.row HR.o.2.1 (by simp));have RS:=aa (k5.row HR.o.2.2.1 (by simp));have KK:=aa (HR.o.2.2.2.1.then k5 (by simp));clear k5))
   have rs:=RB.o.setL (vs:=Z) (o:=0)
   rw[aR (by have h1:=HR.o.2.2.2.2.2.2.2.2.2.1;have h2:=HR.o.2.2.2.2.2.2.2.2.2.1;simp only[az]<;>omega)] at rs
   have ks:=KK.o.setL (vs:=Z) (g:=wA.heap.size) (o:=0) (.inr HN.o.2.2)
   have ht:=RB.o.there (o:=0) (n:=Z.toArray.size) (by have h1:=HR.o.2.2.2.2.2.2.2.2.2.1;have h2:=HR.o.2.2.2.2.2.2.2.2.2.1;simp only[az]<;>omega)
   have hJ:(prog.info? 31).map (·.size)=some Z.toArray.size:=by rw[az];exact HR.o.2.2.2.2.2.1
   have HS:=aa (ah rs (ah ks (ah ht hJ)))
   have HO:=aa (all_oneCell_toArray HR.o.2.2.2.2.2.2.2.1)
   clear rs ks ht hJ
   go_wp2_with (first
    |(refine wpList_load_mid rfl 31 (.tmp 8) rfl wB.heap.size 0 rfl Z _ RS.o.rangeAll underlying31 rfl HR.o.2.2.2.2.2.1 ?_)
    |(refine wpList_store_mid rfl 31 (.tmp 6) (.tmp 20) rfl wA.heap.size 0 Z.toArray rfl rfl HS.o.2.2.1 HS.o.2.2.2 HO.o ?_))
   refine bodyPost_ret (aG rfl _ _ wA.heap.size 31 _ (0,0) _ rfl HS.o.1 underlying31 rfl HS.o.2.2.2) rfl ?_
   exact⟨by rw[←hok,hE.o,oD _ _ (by decide)];rfl,HS.o.2.1⟩
  ·have HE:=aa he
   have hE:aH (dm r.end_ q.ok=0):=aa (by unfold dm;rw[if_pos he,hok];rfl)
   clear he
   go_enter func112,ntmps112
   go_upto_region 2 with (first
    |(with_reducible refine aA _ _ rfl 31 (.tmp 1) rfl _ rfl HW.o.1 ?_)
    |(with_reducible refine aD _ _ rfl 31 rfl _ HW.o.2.2.2 HW.o.2.1 ?_)
    |(with_reducible refine aD _ _ rfl 31 rfl _ HW.o.2.2.2 HW.o.2.2.1 ?_))
   go_upto_region 3 with (go_at_call 147;refine (gU p g r _ HR.o.2.2.2.2.2.2.2.2.2.2).mono ?_;rintro e w4 ⟨rfl,rfl⟩;rw[HE.o])
   go_upto_if 19 with (first
    |(refine wpList_load_mid rfl 31 (.tmp 4) rfl w.heap.size 0 rfl X _ HR.o.1.rangeAll underlying31 rfl HR.o.2.2.2.2.1 ?_)
    |(go_at_call 22;refine (HC.o).mono ?_;rintro e w5 ⟨rfl,k5⟩;rw[hok];have RB:=aa (k5.row HR.o.2.1 (by simp));have RS:=aa (k5.row HR.o.1 (by simp));have KK:=aa (HR.o.2.2.2.1.then k5 (by simp));clear k5))
   have rs:=RB.o.setL (vs:=X) (o:=0)
   rw[aR (by have h1:=HR.o.2.2.2.2.2.2.2.2.1;have h2:=HR.o.2.2.2.2.2.2.2.2.2.1;simp only[az]<;>omega)] at rs
   have ks:=KK.o.setL (vs:=X) (g:=wA.heap.size) (o:=0) (.inr HN.o.2.2)
   have ht:=RB.o.there (o:=0) (n:=X.toArray.size) (by have h1:=HR.o.2.2.2.2.2.2.2.2.1;have h2:=HR.o.2.2.2.2.2.2.2.2.2.1;simp only[az]<;>omega)
   have hJ:(prog.info? 31).map (·.size)=some X.toArray.size:=by rw[az];exact HR.o.2.2.2.2.1
   have HS:=aa (ah rs (ah ks (ah ht hJ)))
   have HO:=aa (all_oneCell_toArray HR.o.2.2.2.2.2.2.1)
   clear rs ks ht hJ
   go_wp2_with (first
    |(refine wpList_load_mid rfl 31 (.tmp 4) rfl w.heap.size 0 rfl X _ RS.o.rangeAll underlying31 rfl HR.o.2.2.2.2.1 ?_)
    |(refine wpList_store_mid rfl 31 (.tmp 6) (.tmp 21) rfl wA.heap.size 0 X.toArray rfl rfl HS.o.2.2.1 HS.o.2.2.2 HO.o ?_))
   refine bodyPost_ret (aG rfl _ _ wA.heap.size 31 _ (0,0) _ rfl HS.o.1 underlying31 rfl HS.o.2.2.2) rfl ?_
   exact⟨by rw[←hok,hE.o,xX _ _ rfl];rfl,HS.o.2.1⟩
 ·have hb:(r.end_ !=0)=true:=by simp[he]
  have hE:aH (dm r.end_ q.ok=r.end_∧r.end_≠0):=aa ⟨by unfold dm;rw[if_neg he],he⟩
  clear he
  have RB:=aa HR.o.2.1
  have RS:=aa HR.o.2.2.1
  have KK:=aa HR.o.2.2.2.1
  go_enter func112,ntmps112
  go_upto_region 2 with (first
   |(with_reducible refine aA _ _ rfl 31 (.tmp 1) rfl _ rfl HW.o.1 ?_)
   |(with_reducible refine aD _ _ rfl 31 rfl _ HW.o.2.2.2 HW.o.2.1 ?_)
   |(with_reducible refine aD _ _ rfl 31 rfl _ HW.o.2.2.2 HW.o.2.2.1 ?_))
  go_upto_region 3 with (go_at_call 147;refine (gU p g r _ HR.o.2.2.2.2.2.2.2.2.2.2).mono ?_;rintro e w4 ⟨rfl,rfl⟩)
  have rs:=RB.o.setL (vs:=Z) (o:=0)
  rw[aR (by have h1:=HR.o.2.2.2.2.2.2.2.2.2.1;have h2:=HR.o.2.2.2.2.2.2.2.2.2.1;simp only[az]<;>omega)] at rs
  have ks:=KK.o.setL (vs:=Z) (g:=wA.heap.size) (o:=0) (.inr HN.o.2.2)
  have ht:=RB.o.there (o:=0) (n:=Z.toArray.size) (by have h1:=HR.o.2.2.2.2.2.2.2.2.2.1;have h2:=HR.o.2.2.2.2.2.2.2.2.2.1;simp only[az]<;>omega)
  have hJ:(prog.info? 31).map (·.size)=some Z.toArray.size:=by rw[az];exact HR.o.2.2.2.2.2.1
  have HS:=aa (ah rs (ah ks (ah ht hJ)))
  have HO:=aa (all_oneCell_toArray HR.o.2.2.2.2.2.2.2.1)
  clear rs ks ht hJ
  go_wp2_with (first
   |(refine wpList_load_mid rfl 31 (.tmp 8) rfl wB.heap.size 0 rfl Z _ RS.o.rangeAll underlying31 rfl HR.o.2.2.2.2.2.1 ?_)
   |(refine wpList_store_mid rfl 31 (.tmp 6) (.tmp 14) rfl wA.heap.size 0 Z.toArray rfl rfl HS.o.2.2.1 HS.o.2.2.2 HO.o ?_))
  refine bodyPost_ret (aG rfl _ _ wA.heap.size 31 _ (0,0) _ rfl HS.o.1 underlying31 rfl HS.o.2.2.2) rfl ?_
  exact⟨by rw[hE.o.1,oD _ _ hE.o.2];rfl,HS.o.2.1⟩
theorem uP (F:List Nat) (p g:Nat) (r:RS) (q:PK) (ev av cv vv bw:Value) (w:World) (hr:jg w p g r) (hq:gX w F q ev av cv vv bw) (hfl:d9 w) (hb1:dJ q.frm) (hb2:dJ q.dst):
 Calls prog 97 #[.pointer (some ⟨p,0,none⟩),.agg (bz q ev av cv vv bw).toArray,.func (.func 9) #[] #[]] w fun e w'=>e= .returned (.tuple #[.agg (eL (dm r.end_ q.ok) (bz q ev av cv vv bw) (bz bO ay ay ay ay ay)).toArray,.int .i64 (dm r.end_ q.ok)])∧ag [] w w':=by
 have hqz:(bz q ev av cv vv bw).length=87:=bA hq.rn hq.an
 have hqo:∀ v∈bz q ev av cv vv bw,v.oneCell'=true:=dz hq.re.one hq.ae.one hq.cc.one hq.vs.one hq.bs.one
 obtain⟨X,hX⟩:∃ X,bz q ev av cv vv bw=X:=⟨_,rfl⟩
 obtain⟨Z,hZ⟩:∃ Z,bz bO ay ay ay ay ay=Z:=⟨_,rfl⟩
 have zv:=jh
 have zl:=fQ
 have zo:=tV
 have hcall:=fun w1 (k:ag [] w w1)=>gI F q ev av cv vv bw w1 (hq.keep k (by simp)) (hfl.keep k (by simp)) hb1 hb2
 rw[hZ] at zv zl zo ⊢
 rw[hX] at hqz hqo hcall ⊢
 obtain⟨wA,hwA⟩:∃ wA,w.alloc (.cells X.toArray 34)=wA:=⟨_,rfl⟩
 obtain⟨wB,hwB⟩:∃ wB,wA.alloc (.cells Z.toArray 34)=wB:=⟨_,rfl⟩
 obtain⟨w3,hw3⟩:∃ w3,wB.alloc (.cells Z.toArray 34)=w3:=⟨_,rfl⟩
 have rA:=aC.new w 34 X.toArray
 have rB:=aC.new wA 34 Z.toArray
 have r3:=aC.new wB 34 Z.toArray
 have kA:=(ag.refl [] w).alloc (.cells X.toArray 34)
 have kB:=(ag.refl [] wA).alloc (.cells Z.toArray 34)
 have k3:=(ag.refl [] wB).alloc (.cells Z.toArray 34)
 rw[hwA] at rA kA
 rw[hwB] at rB kB
 rw[hw3] at r3 k3
 have rA3:=k3.row (kB.row rA (by simp)) (by simp)
 have rB3:=k3.row rB (by simp)
 have kk:=(kA.then kB (by simp)).then k3 (by simp)
 have hI:(prog.info? 34).map (·.size)=some X.length:=by rw[hqz];exact aF
 have hJ:(prog.info? 34).map (·.size)=some Z.length:=by rw[zl];exact aF
 have hlB:w.heap.size≤wA.heap.size:=kA.size
 have hne:wA.heap.size≠w.heap.size:=by have:=rA.lt;omega
 have hne2:wA.heap.size≠wB.heap.size:=by have:=rB.lt;omega
 have HW:=aa (ah hwA (ah hwB (ah hw3 zv)))
 have HR:=aa (ah rA3 (ah rB3 (ah r3 (ah kk (ah hI (ah hJ (ah hqo (ah zo (ah hqz (ah zl (hr.keep kk (by simp) (by simp))))))))))))
 have HC:=aa (hcall w3 kk)
 have HN:=aa (ah hne (ah hne2 hlB))
 clear hwA hwB hw3 zv rA rB r3 kA kB k3 rA3 rB3 kk hI hJ hqo zo hqz zl hr hcall hX hZ hq hne hne2 hlB
 by_cases he:r.end_=0
 ·cases hok:q.ok
  ·have HE:=aa he
   have hE:aH (dm r.end_ q.ok=4):=aa (by unfold dm;rw[if_pos he,hok];rfl)
   clear he
   go_enter func97,ntmps97
   go_upto_region 2 with (first
    |(with_reducible refine aA _ _ rfl 34 (.tmp 1) rfl _ rfl HW.o.1 ?_)
    |(with_reducible refine aD _ _ rfl 34 rfl _ HW.o.2.2.2 HW.o.2.1 ?_)
    |(with_reducible refine aD _ _ rfl 34 rfl _ HW.o.2.2.2 HW.o.2.2.1 ?_))
   go_upto_region 3 with (go_at_call 147;refine (gU p g r _ HR.o.2.2.2.2.2.2.2.2.2.2).mono ?_;rintro e w4 ⟨rfl,rfl⟩;rw[HE.o])
   go_upto_if 19 with (first
    |(refine wpList_load_mid rfl 34 (.tmp 4) rfl w.heap.size 0 rfl X _ HR.o.1.rangeAll underlying34 rfl HR.o.2.2.2.2.1 ?_)
    |(go_at_call 9;refine (HC.o).mono ?_;rintro e w5 ⟨rfl,k5⟩;rw[hok];have RB:=aa (k5.row HR.o.2.1 (by simp));have RS:=aa (k5.row HR.o.2.2.1 (by simp));have KK:=aa (HR.o.2.2.2.1.then k5 (by simp));clear k5))
   have rs:=RB.o.setL (vs:=Z) (o:=0)
   rw[aR (by have h1:=HR.o.2.2.2.2.2.2.2.2.2.1;have h2:=HR.o.2.2.2.2.2.2.2.2.2.1;simp only[az]<;>omega)] at rs
   have ks:=KK.o.setL (vs:=Z) (g:=wA.heap.size) (o:=0) (.inr HN.o.2.2)
   have ht:=RB.o.there (o:=0) (n:=Z.toArray.size) (by have h1:=HR.o.2.2.2.2.2.2.2.2.2.1;have h2:=HR.o.2.2.2.2.2.2.2.2.2.1;simp only[az]<;>omega)
   have hJ:(prog.info? 34).map (·.size)=some Z.toArray.size:=by rw[az];exact HR.o.2.2.2.2.2.1
   have HS:=aa (ah rs (ah ks (ah ht hJ)))
   have HO:=aa (all_oneCell_toArray HR.o.2.2.2.2.2.2.2.1)
   clear rs ks ht hJ
   go_wp2_with (first
    |(refine wpList_load_mid rfl 34 (.tmp 8) rfl wB.heap.size 0 rfl Z _ RS.o.rangeAll underlying34 rfl HR.o.2.2.2.2.2.1 ?_)
    |(refine wpList_store_mid rfl 34 (.tmp 6) (.tmp 20) rfl wA.heap.size 0 Z.toArray rfl rfl HS.o.2.2.1 HS.o.2.2.2 HO.o ?_))
   refine bodyPost_ret (aG rfl _ _ wA.heap.size 34 _ (0,0) _ rfl HS.o.1 underlying34 rfl HS.o.2.2.2) rfl ?_
   exact⟨by rw[←hok,hE.o,oD _ _ (by decide)];rfl,HS.o.2.1⟩
  ·have HE:=aa he
   have hE:aH (dm r.end_ q.ok=0):=aa (by unfold dm;rw[if_pos he,hok];rfl)
   clear he
   go_enter func97,ntmps97
   go_upto_region 2 with (first
    |(with_reducible refine aA _ _ rfl 34 (.tmp 1) rfl _ rfl HW.o.1 ?_)
    |(with_reducible refine aD _ _ rfl 34 rfl _ HW.o.2.2.2 HW.o.2.1 ?_)
    |(with_reducible refine aD _ _ rfl 34 rfl _ HW.o.2.2.2 HW.o.2.2.1 ?_))
   go_upto_region 3 with (go_at_call 147;refine (gU p g r _ HR.o.2.2.2.2.2.2.2.2.2.2).mono ?_;rintro e w4 ⟨rfl,rfl⟩;rw[HE.o])
   go_upto_if 19 with (first
    |(refine wpList_load_mid rfl 34 (.tmp 4) rfl w.heap.size 0 rfl X _ HR.o.1.rangeAll underlying34 rfl HR.o.2.2.2.2.1 ?_)
    |(go_at_call 9;refine (HC.o).mono ?_;rintro e w5 ⟨rfl,k5⟩;rw[hok];have RB:=aa (k5.row HR.o.2.1 (by simp));have RS:=aa (k5.row HR.o.1 (by simp));have KK:=aa (HR.o.2.2.2.1.then k5 (by simp));clear k5))
   have rs:=RB.o.setL (vs:=X) (o:=0)
   rw[aR (by have h1:=HR.o.2.2.2.2.2.2.2.2.1;have h2:=HR.o.2.2.2.2.2.2.2.2.2.1;simp only[az]<;>omega)] at rs
   have ks:=KK.o.setL (vs:=X) (g:=wA.heap.size) (o:=0) (.inr HN.o.2.2)
   have ht:=RB.o.there (o:=0) (n:=X.toArray.size) (by have h1:=HR.o.2.2.2.2.2.2.2.2.1;have h2:=HR.o.2.2.2.2.2.2.2.2.2.1;simp only[az]<;>omega)
   have hJ:(prog.info? 34).map (·.size)=some X.toArray.size:=by rw[az];exact HR.o.2.2.2.2.1
   have HS:=aa (ah rs (ah ks (ah ht hJ)))
   have HO:=aa (all_oneCell_toArray HR.o.2.2.2.2.2.2.1)
   clear rs ks ht hJ
   go_wp2_with (first
    |(refine wpList_load_mid rfl 34 (.tmp 4) rfl w.heap.size 0 rfl X _ RS.o.rangeAll underlying34 rfl HR.o.2.2.2.2.1 ?_)
    |(refine wpList_store_mid rfl 34 (.tmp 6) (.tmp 21) rfl wA.heap.size 0 X.toArray rfl rfl HS.o.2.2.1 HS.o.2.2.2 HO.o ?_))
   refine bodyPost_ret (aG rfl _ _ wA.heap.size 34 _ (0,0) _ rfl HS.o.1 underlying34 rfl HS.o.2.2.2) rfl ?_
   exact⟨by rw[←hok,hE.o,xX _ _ rfl];rfl,HS.o.2.1⟩
 ·have hb:(r.end_ !=0)=true:=by simp[he]
  have hE:aH (dm r.end_ q.ok=r.end_∧r.end_≠0):=aa ⟨by unfold dm;rw[if_neg he],he⟩
  clear he
  have RB:=aa HR.o.2.1
  have RS:=aa HR.o.2.2.1
  have KK:=aa HR.o.2.2.2.1
  go_enter func97,ntmps97
  go_upto_region 2 with (first
   |(with_reducible refine aA _ _ rfl 34 (.tmp 1) rfl _ rfl HW.o.1 ?_)
   |(with_reducible refine aD _ _ rfl 34 rfl _ HW.o.2.2.2 HW.o.2.1 ?_)
   |(with_reducible refine aD _ _ rfl 34 rfl _ HW.o.2.2.2 HW.o.2.2.1 ?_))
  go_upto_region 3 with (go_at_call 147;refine (gU p g r _ HR.o.2.2.2.2.2.2.2.2.2.2).mono ?_;rintro e w4 ⟨rfl,rfl⟩)
  have rs:=RB.o.setL (vs:=Z) (o:=0)
  rw[aR (by have h1:=HR.o.2.2.2.2.2.2.2.2.2.1;have h2:=HR.o.2.2.2.2.2.2.2.2.2.1;simp only[az]<;>omega)] at rs
  have ks:=KK.o.setL (vs:=Z) (g:=wA.heap.size) (o:=0) (.inr HN.o.2.2)
  have ht:=RB.o.there (o:=0) (n:=Z.toArray.size) (by have h1:=HR.o.2.2.2.2.2.2.2.2.2.1;have h2:=HR.o.2.2.2.2.2.2.2.2.2.1;simp only[az]<;>omega)
  have hJ:(prog.info? 34).map (·.size)=some Z.toArray.size:=by rw[az];exact HR.o.2.2.2.2.2.1
  have HS:=aa (ah rs (ah ks (ah ht hJ)))
  have HO:=aa (all_oneCell_toArray HR.o.2.2.2.2.2.2.2.1)
  clear rs ks ht hJ
  go_wp2_with (first
   |(refine wpList_load_mid rfl 34 (.tmp 8) rfl wB.heap.size 0 rfl Z _ RS.o.rangeAll underlying34 rfl HR.o.2.2.2.2.2.1 ?_)
   |(refine wpList_store_mid rfl 34 (.tmp 6) (.tmp 14) rfl wA.heap.size 0 Z.toArray rfl rfl HS.o.2.2.1 HS.o.2.2.2 HO.o ?_))
  refine bodyPost_ret (aG rfl _ _ wA.heap.size 34 _ (0,0) _ rfl HS.o.1 underlying34 rfl HS.o.2.2.2) rfl ?_
  exact⟨by rw[hE.o.1,oD _ _ hE.o.2];rfl,HS.o.2.1⟩
end Go.Proofs.YthfdkonhjpdflaaGreatDoor
