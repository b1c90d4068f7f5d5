import Derived.Test.YthfdkonhjpdflaaGreatDoorMKA
import Derived.Test.YthfdkonhjpdflaaGreatDoorLow3
import Derived.BigQuiet
namespace Go.Proofs.YthfdkonhjpdflaaGreatDoor
open Go.RowKit Go.Proofs.Tryz
set_option linter.unusedVariables false
set_option maxRecDepth 100000
set_option linter.unusedSimpArgs false
set_option maxHeartbeats 8000000
theorem fA {P:Program} (w w':World) {ops:Array Oper} {o:Oper} {a:Act} {K:Act→World→Prop} {Q:Exit→Act→World→Prop} {E:Prop} (hgd:o.guard=none) (t:TypeId) (ho:o.op= .alloc t)
 (zs:Array Value) (hz:(P.info? t).bind (·.zero)=some (.agg zs)) (hw:w.alloc (.cells zs t)=w') (h:K (a.put o.dst (.pointer (some ⟨w.heap.size,0,none⟩))) w'):if Region.wanted o (yielded ops a.tmps)=true then Oper.wp P o a w K Q else E:=by
 subst hw
 rw[if_pos (by simp[Region.wanted,hgd])]
 cases hi:P.info? t with
 |none=>rw[hi] at hz;cases hz
 |some i=>
  rw[hi] at hz
  have hz':i.zero=some (.agg zs):=hz
  unfold Oper.wp execOp
  simp only[ho]
  simpa[Instr.alloc,zeroValue,typeInfo,hi,hz',newVar,newRow,Value.cells,go_sem] using h
structure XU (s:SD):Prop where
 k:OA s.kind
 f:OA s.frm
 d:OA s.dst
 n0:OA s.n0
 n1:OA s.n1
 n2:OA s.n2
 n3:OA s.n3
 n4:OA s.n4
theorem eO {r:RQ} {ev u:Value} (h:r.name.length=32) (e:List UInt8):(U8 r ev).toArray.setIfInBounds 36 u=(U8 {r with env:=e} u).toArray:=by
 rw[iC,iC,F3]
 congr 1
 rw[List.set_append_right _ _ (by simp),List.set_append_right _ _ (by simp[A8,h])]
 simp[A8,h]
theorem qQ (F:List Nat) (s:SD) (v:Value) (w:World) (hs:XU s) (h41:s.n2 % 4=1) (hv:G7 w F v s.b):
 Calls prog 116 #[.agg (sdL s v).toArray] w fun e w'=>∃ ev G,e= .returned (.agg (U8 (TF s) ev).toArray)∧dH w' G (TF s) ev∧I9 w w' G∧U1 [] w w':=by
 have H41:=U0 h41
 clear h41
 obtain⟨Z,hZ⟩:∃ Z,U8 I7 I4=Z:=⟨_,rfl⟩
 have zv:=nI
 have zl:Z.length=37:=by rw[←hZ];exact uJ
 rw[hZ] at zv
 obtain⟨Y,hY⟩:∃ Y,sdL s v=Y:=⟨_,rfl⟩
 obtain⟨wA,hwA⟩:∃ wA,w.alloc (.cells Y.toArray 66)=wA:=⟨_,rfl⟩
 obtain⟨wB,hwB⟩:∃ wB,wA.alloc (.cells Z.toArray 26)=wB:=⟨_,rfl⟩
 have rA:=l5.new w 66 Y.toArray
 have rB:=l5.new wA 26 Z.toArray
 have kA:=(U1.refl [] w).alloc (.cells Y.toArray 66)
 have kB:=(U1.refl [] wA).alloc (.cells Z.toArray 26)
 rw[hwA] at rA kA
 rw[hwB] at rB kB
 have rA3:=kB.row rA (by simp)
 have kk:=kA.then kB (by simp)
 have hlA:w.heap.size<wA.heap.size:=rA.lt
 have y0:wB.drew.cell? ⟨w.heap.size,3,none⟩=some (.int .i64 s.n0):=(rA3.cell 3).trans (by rw[←hY];rfl)
 have y1:wB.drew.cell? ⟨w.heap.size,4,none⟩=some (.int .i64 s.n1):=(rA3.cell 4).trans (by rw[←hY];rfl)
 have y2:wB.drew.cell? ⟨w.heap.size,5,none⟩=some (.int .i64 s.n2):=(rA3.cell 5).trans (by rw[←hY];rfl)
 have HW:=U0 (U2 hwA (U2 hwB zv))
 have hA1:wA.heap.size=w.heap.size+1:=by rw[←hwA];simp
 rw[hA1] at rB
 have HR:=U0 (U2 rA3 (U2 rB (U2 kk (U2 hlA zl))))
 have hw1:IntKind.i64.wrap (1+s.n1 % 1125899906842624)=1+s.n1 % 1125899906842624:=Z8 _ (by omega) (by omega)
 have hw2:IntKind.i64.wrap (1+s.n2 % 4)=1+s.n2 % 4:=Z8 _ (by omega) (by omega)
 rw[hY]
 have HY:=U0 hY
 have HZ:=U0 hZ
 clear hwA hwB zv rA rB kA kB rA3 kk hlA zl hZ hY
 go_enter func116,ntmps116
 go_upto_region 1 with fail
 rw[←dI,show U8 I7 (.slice none 0 0)=Z from HZ.o,HW.o.1,HW.o.2.1]
 go_cut [3] (fun v3 wx=>v3= .pointer (some ⟨wB.heap.size,0,none⟩)∧l5 wx wB.heap.size 26 (U8 ⟨s.n0 % 3,1+s.n1 % 1125899906842624,1+s.n2 % 4,0,List.replicate 32 0,[]⟩ I4).toArray∧U1 [] wB wx)
 case first=>
  have s1:wB.drew.cell? ⟨w.heap.size,3,none⟩=some (.int .i64 s.n0)∧wB.drew.cell? ⟨w.heap.size,4,none⟩=some (.int .i64 s.n1)∧wB.drew.cell? ⟨w.heap.size,5,none⟩=some (.int .i64 s.n2):=⟨y0,y1,y2⟩
  clear y0 y1 y2
  refine wp_region_held_drew (S:=fun w'=>w'.cell? ⟨w.heap.size,3,none⟩=some (.int .i64 s.n0)∧w'.cell? ⟨w.heap.size,4,none⟩=some (.int .i64 s.n1)∧w'.cell? ⟨w.heap.size,5,none⟩=some (.int .i64 s.n2)) (by kernel_rfl) s1 (fun _=> ?_)
  refine FB 0 ⟨_,_,_,_,_,_⟩ _ s1 ?_
  try simp only[Act.put,F3,U3,V3]
  refine FB 1 ⟨_,_,_,_,_,_⟩ _ s1 ?_
  try simp only[Act.put,F3,U3,V3]
  refine FB 2 ⟨_,_,_,_,_,_⟩ _ s1 ?_
  try simp only[Act.put,F3,U3,V3]
  refine FB 4 ⟨_,_,_,_,_,_⟩ _ s1 ?_
  try simp only[Act.put,F3,U3,V3]
  refine FB 5 ⟨_,_,_,_,_,_⟩ _ s1 ?_
  try simp only[Act.put,F3,U3,V3]
  refine FB 6 ⟨_,_,_,_,_,_⟩ _ s1 ?_
  try simp only[Act.put,F3,U3,V3]
  refine FB 9 ⟨_,_,_,_,_,_⟩ _ s1 ?_
  try simp only[Act.put,F3,U3,V3]
  refine FB 10 ⟨_,_,_,_,_,_⟩ _ s1 ?_
  try simp only[Act.put,F3,U3,V3]
  refine FB 11 ⟨_,_,_,_,_,_⟩ _ s1 ?_
  try simp only[Act.put,F3,U3,V3]
  have HS3:V5 ((wB.drew.cell? ⟨w.heap.size,3,none⟩=some (.int .i64 s.n0)∧wB.drew.cell? ⟨w.heap.size,4,none⟩=some (.int .i64 s.n1)∧wB.drew.cell? ⟨w.heap.size,5,none⟩=some (.int .i64 s.n2))→(wB.drew.alloc (.cells Z.toArray 26)).cell? ⟨w.heap.size,3,none⟩=some (.int .i64 s.n0)∧(wB.drew.alloc (.cells Z.toArray 26)).cell? ⟨w.heap.size,4,none⟩=some (.int .i64 s.n1)∧(wB.drew.alloc (.cells Z.toArray 26)).cell? ⟨w.heap.size,5,none⟩=some (.int .i64 s.n2)):=U0 (fun h=>by
   have ka:=(U1.refl [] wB.drew).alloc (.cells Z.toArray 26)
   exact⟨(ka.cell (p:=⟨w.heap.size,3,none⟩) (World.block_lt_of_cell? _ _ h.1) (by simp)).trans h.1,(ka.cell (p:=⟨w.heap.size,4,none⟩) (World.block_lt_of_cell? _ _ h.2.1) (by simp)).trans h.2.1,(ka.cell (p:=⟨w.heap.size,5,none⟩) (World.block_lt_of_cell? _ _ h.2.2) (by simp)).trans h.2.2⟩)
  have HQ:V5 ((wB.drew.alloc (.cells Z.toArray 26)).there wB.heap.size 0 (U8 ⟨s.n0 % 3,1+s.n1 % 1125899906842624,1+s.n2 % 4,0,List.replicate 32 0,[]⟩ I4).toArray.size∧(prog.info? 26).map (·.size)=some (U8 ⟨s.n0 % 3,1+s.n1 % 1125899906842624,1+s.n2 % 4,0,List.replicate 32 0,[]⟩ I4).toArray.size∧((U8 ⟨s.n0 % 3,1+s.n1 % 1125899906842624,1+s.n2 % 4,0,List.replicate 32 0,[]⟩ I4).toArray.all fun x=>x.oneCell')=true∧(((wB.drew.alloc (.cells Z.toArray 26)).cell? ⟨w.heap.size,3,none⟩=some (.int .i64 s.n0)∧(wB.drew.alloc (.cells Z.toArray 26)).cell? ⟨w.heap.size,4,none⟩=some (.int .i64 s.n1)∧(wB.drew.alloc (.cells Z.toArray 26)).cell? ⟨w.heap.size,5,none⟩=some (.int .i64 s.n2))→((wB.drew.alloc (.cells Z.toArray 26)).setCells wB.heap.size 0 (U8 ⟨s.n0 % 3,1+s.n1 % 1125899906842624,1+s.n2 % 4,0,List.replicate 32 0,[]⟩ I4)).cell? ⟨w.heap.size,3,none⟩=some (.int .i64 s.n0)∧((wB.drew.alloc (.cells Z.toArray 26)).setCells wB.heap.size 0 (U8 ⟨s.n0 % 3,1+s.n1 % 1125899906842624,1+s.n2 % 4,0,List.replicate 32 0,[]⟩ I4)).cell? ⟨w.heap.size,4,none⟩=some (.int .i64 s.n1)∧((wB.drew.alloc (.cells Z.toArray 26)).setCells wB.heap.size 0 (U8 ⟨s.n0 % 3,1+s.n1 % 1125899906842624,1+s.n2 % 4,0,List.replicate 32 0,[]⟩ I4)).cell? ⟨w.heap.size,5,none⟩=some (.int .i64 s.n2))∧l5 ((wB.drew.alloc (.cells Z.toArray 26)).setCells wB.heap.size 0 (U8 ⟨s.n0 % 3,1+s.n1 % 1125899906842624,1+s.n2 % 4,0,List.replicate 32 0,[]⟩ I4)) wB.heap.size 26 (U8 ⟨s.n0 % 3,1+s.n1 % 1125899906842624,1+s.n2 % 4,0,List.replicate 32 0,[]⟩ I4).toArray∧U1 [] wB ((wB.drew.alloc (.cells Z.toArray 26)).setCells wB.heap.size 0 (U8 ⟨s.n0 % 3,1+s.n1 % 1125899906842624,1+s.n2 % 4,0,List.replicate 32 0,[]⟩ I4))):=U0 (by
   have ql:(U8 ⟨s.n0 % 3,1+s.n1 % 1125899906842624,1+s.n2 % 4,0,List.replicate 32 0,[]⟩ I4).length=37:=O8 (List.length_replicate)
   have qo:∀ u∈(U8 ⟨s.n0 % 3,1+s.n1 % 1125899906842624,1+s.n2 % 4,0,List.replicate 32 0,[]⟩ I4),u.oneCell'=true:=fB _ rfl
   generalize (U8 ⟨s.n0 % 3,1+s.n1 % 1125899906842624,1+s.n2 % 4,0,List.replicate 32 0,[]⟩ I4)=QL at ql qo ⊢
   have rn:l5 (wB.drew.alloc (.cells Z.toArray 26)) wB.heap.size 26 Z.toArray:=l5.new wB.drew _ _
   have kn:=((U1.refl [] wB).drew).alloc (.cells Z.toArray 26)
   have rs:=rn.setL (vs:=QL) (o:=0)
   rw[F7 (by rw[ql,U4];exact HR.o.2.2.2.2.symm)] at rs
   have ks:=(U1.refl [wB.heap.size] (wB.drew.alloc (.cells Z.toArray 26))).setL (vs:=QL) (g:=wB.heap.size) (o:=0) (by simp)
   have hg:w.heap.size<wB.heap.size:=HR.o.1.lt
   refine⟨rn.there (by simp only[U4];have:=HR.o.2.2.2.2;omega),by rw[U4,ql];exact D9,all_oneCell_toArray qo,fun h=>⟨(ks.cell (p:=⟨w.heap.size,3,none⟩) (World.block_lt_of_cell? _ _ h.1) (by simp;omega)).trans h.1,(ks.cell (p:=⟨w.heap.size,4,none⟩) (World.block_lt_of_cell? _ _ h.2.1) (by simp;omega)).trans h.2.1,(ks.cell (p:=⟨w.heap.size,5,none⟩) (World.block_lt_of_cell? _ _ h.2.2) (by simp;omega)).trans h.2.2⟩,rs,kn.setL (.inr (Nat.le_refl _))⟩)
  refine wpAnyH_ready (rs:=[3,15]) (by kernel_rfl) (by simp) ?_
  refine AllReadyH.cons (o:=⟨_,_,_,_,_,_⟩) rfl (fun K hK=> ?_) (q9 rfl (fun K hK=> ?_))
  ·skip
   go_simp
   refine (l9 s.n0 3 hs.n0.1 hs.n0.2 (by omega) (by omega) _).mono ?_
   rintro e w' ⟨rfl,rfl⟩
   go_wp2_with fail
   refine hK.out _ _ s1 (fun _=> ?_)
   clear hK K
   try simp only[Act.put,F3,U3,V3]
   refine wpAnyH_ready (rs:=[7,15]) (by kernel_rfl) (by simp) ?_
   refine AllReadyH.cons (o:=⟨_,_,_,_,_,_⟩) rfl (fun K hK=> ?_) (q9 rfl (fun K hK=> ?_))
   ·skip
    go_simp
    refine (l9 s.n1 1125899906842624 hs.n1.1 hs.n1.2 (by omega) (by omega) _).mono ?_
    rintro e w' ⟨rfl,rfl⟩
    go_wp2_with fail
    refine hK.out _ _ s1 (fun _=> ?_)
    clear hK K
    try simp only[Act.put,F3,U3,V3]
    refine FB 8 ⟨_,_,_,_,_,_⟩ _ s1 ?_
    try simp only[Act.put,F3,U3,V3]
    refine wpAnyH_ready (rs:=[12,15]) (by kernel_rfl) (by simp) ?_
    refine AllReadyH.cons (o:=⟨_,_,_,_,_,_⟩) rfl (fun K hK=> ?_) (q9 rfl (fun K hK=> ?_))
    ·skip
     go_simp
     refine (l9 s.n2 4 hs.n2.1 hs.n2.2 (by omega) (by omega) _).mono ?_
     rintro e w' ⟨rfl,rfl⟩
     go_wp2_with fail
     refine hK.out _ _ s1 (fun _=> ?_)
     clear hK K
     try simp only[Act.put,F3,U3,V3]
     refine FB 13 ⟨_,_,_,_,_,_⟩ _ s1 ?_
     try simp only[Act.put,F3,U3,V3]
     refine FB 14 ⟨_,_,_,_,_,_⟩ _ s1 ?_
     try simp only[Act.put,F3,U3,V3]
     refine wpAnyH_ready (rs:=[15]) (by kernel_rfl) (by simp) ?_
     refine q9 rfl (fun K hK=> ?_)
     refine fA _ _ rfl 26 rfl _ HW.o.2.2 rfl ?_
     have s3:=HS3.o s1
     refine hK.out _ _ s3 (fun _=> ?_)
     clear hK K
     try simp only[Act.put,F3,U3,V3]
     refine wpAnyH_ready (rs:=[16]) (by kernel_rfl) (by simp) ?_
     refine q9 rfl (fun K hK=> ?_)
     refine I6 rfl 26 (.tmp 3) (.tmp 18) rfl wB.heap.size 0 (U8 ⟨s.n0 % 3,1+s.n1 % 1125899906842624,1+s.n2 % 4,0,List.replicate 32 0,[]⟩ I4).toArray rfl (by rfl) HQ.o.1 HQ.o.2.1 HQ.o.2.2.1 ?_
     refine hK.out _ _ (HQ.o.2.2.2.1 s3) (fun _=> ?_)
     clear hK K
     try simp only[Act.put,F3,U3,V3]
     refine wpAnyH_done (by kernel_rfl) ?_ _
     go_wp2_with fail
     go_meet
     exact⟨rfl,HQ.o.2.2.2.2.1,HQ.o.2.2.2.2.2⟩
    ·skip
     refine fA _ _ rfl 26 rfl _ HW.o.2.2 rfl ?_
     have s3:=HS3.o s1
     refine hK.out _ _ s3 (fun _=> ?_)
     clear hK K
     try simp only[Act.put,F3,U3,V3]
     refine wpAnyH_ready (rs:=[12]) (by kernel_rfl) (by simp) ?_
     refine q9 rfl (fun K hK=> ?_)
     go_simp
     refine (l9 s.n2 4 hs.n2.1 hs.n2.2 (by omega) (by omega) _).mono ?_
     rintro e w' ⟨rfl,rfl⟩
     go_wp2_with fail
     refine hK.out _ _ s3 (fun _=> ?_)
     clear hK K
     try simp only[Act.put,F3,U3,V3]
     refine FB 13 ⟨_,_,_,_,_,_⟩ _ s3 ?_
     try simp only[Act.put,F3,U3,V3]
     refine FB 14 ⟨_,_,_,_,_,_⟩ _ s3 ?_
     try simp only[Act.put,F3,U3,V3]
     refine wpAnyH_ready (rs:=[16]) (by kernel_rfl) (by simp) ?_
     refine q9 rfl (fun K hK=> ?_)
     refine I6 rfl 26 (.tmp 3) (.tmp 18) rfl wB.heap.size 0 (U8 ⟨s.n0 % 3,1+s.n1 % 1125899906842624,1+s.n2 % 4,0,List.replicate 32 0,[]⟩ I4).toArray rfl (by rfl) HQ.o.1 HQ.o.2.1 HQ.o.2.2.1 ?_
     refine hK.out _ _ (HQ.o.2.2.2.1 s3) (fun _=> ?_)
     clear hK K
     try simp only[Act.put,F3,U3,V3]
     refine wpAnyH_done (by kernel_rfl) ?_ _
     go_wp2_with fail
     go_meet
     exact⟨rfl,HQ.o.2.2.2.2.1,HQ.o.2.2.2.2.2⟩
   ·skip
    refine fA _ _ rfl 26 rfl _ HW.o.2.2 rfl ?_
    have s3:=HS3.o s1
    refine hK.out _ _ s3 (fun _=> ?_)
    clear hK K
    try simp only[Act.put,F3,U3,V3]
    refine wpAnyH_ready (rs:=[7]) (by kernel_rfl) (by simp) ?_
    refine q9 rfl (fun K hK=> ?_)
    go_simp
    refine (l9 s.n1 1125899906842624 hs.n1.1 hs.n1.2 (by omega) (by omega) _).mono ?_
    rintro e w' ⟨rfl,rfl⟩
    go_wp2_with fail
    refine hK.out _ _ s3 (fun _=> ?_)
    clear hK K
    try simp only[Act.put,F3,U3,V3]
    refine FB 8 ⟨_,_,_,_,_,_⟩ _ s3 ?_
    try simp only[Act.put,F3,U3,V3]
    refine wpAnyH_ready (rs:=[12]) (by kernel_rfl) (by simp) ?_
    refine q9 rfl (fun K hK=> ?_)
    go_simp
    refine (l9 s.n2 4 hs.n2.1 hs.n2.2 (by omega) (by omega) _).mono ?_
    rintro e w' ⟨rfl,rfl⟩
    go_wp2_with fail
    refine hK.out _ _ s3 (fun _=> ?_)
    clear hK K
    try simp only[Act.put,F3,U3,V3]
    refine FB 13 ⟨_,_,_,_,_,_⟩ _ s3 ?_
    try simp only[Act.put,F3,U3,V3]
    refine FB 14 ⟨_,_,_,_,_,_⟩ _ s3 ?_
    try simp only[Act.put,F3,U3,V3]
    refine wpAnyH_ready (rs:=[16]) (by kernel_rfl) (by simp) ?_
    refine q9 rfl (fun K hK=> ?_)
    refine I6 rfl 26 (.tmp 3) (.tmp 18) rfl wB.heap.size 0 (U8 ⟨s.n0 % 3,1+s.n1 % 1125899906842624,1+s.n2 % 4,0,List.replicate 32 0,[]⟩ I4).toArray rfl (by rfl) HQ.o.1 HQ.o.2.1 HQ.o.2.2.1 ?_
    refine hK.out _ _ (HQ.o.2.2.2.1 s3) (fun _=> ?_)
    clear hK K
    try simp only[Act.put,F3,U3,V3]
    refine wpAnyH_done (by kernel_rfl) ?_ _
    go_wp2_with fail
    go_meet
    exact⟨rfl,HQ.o.2.2.2.2.1,HQ.o.2.2.2.2.2⟩
  ·skip
   refine fA _ _ rfl 26 rfl _ HW.o.2.2 rfl ?_
   have s3:=HS3.o s1
   refine hK.out _ _ s3 (fun _=> ?_)
   clear hK K
   try simp only[Act.put,F3,U3,V3]
   refine wpAnyH_ready (rs:=[3]) (by kernel_rfl) (by simp) ?_
   refine q9 rfl (fun K hK=> ?_)
   go_simp
   refine (l9 s.n0 3 hs.n0.1 hs.n0.2 (by omega) (by omega) _).mono ?_
   rintro e w' ⟨rfl,rfl⟩
   go_wp2_with fail
   refine hK.out _ _ s3 (fun _=> ?_)
   clear hK K
   try simp only[Act.put,F3,U3,V3]
   refine wpAnyH_ready (rs:=[7]) (by kernel_rfl) (by simp) ?_
   refine q9 rfl (fun K hK=> ?_)
   go_simp
   refine (l9 s.n1 1125899906842624 hs.n1.1 hs.n1.2 (by omega) (by omega) _).mono ?_
   rintro e w' ⟨rfl,rfl⟩
   go_wp2_with fail
   refine hK.out _ _ s3 (fun _=> ?_)
   clear hK K
   try simp only[Act.put,F3,U3,V3]
   refine FB 8 ⟨_,_,_,_,_,_⟩ _ s3 ?_
   try simp only[Act.put,F3,U3,V3]
   refine wpAnyH_ready (rs:=[12]) (by kernel_rfl) (by simp) ?_
   refine q9 rfl (fun K hK=> ?_)
   go_simp
   refine (l9 s.n2 4 hs.n2.1 hs.n2.2 (by omega) (by omega) _).mono ?_
   rintro e w' ⟨rfl,rfl⟩
   go_wp2_with fail
   refine hK.out _ _ s3 (fun _=> ?_)
   clear hK K
   try simp only[Act.put,F3,U3,V3]
   refine FB 13 ⟨_,_,_,_,_,_⟩ _ s3 ?_
   try simp only[Act.put,F3,U3,V3]
   refine FB 14 ⟨_,_,_,_,_,_⟩ _ s3 ?_
   try simp only[Act.put,F3,U3,V3]
   refine wpAnyH_ready (rs:=[16]) (by kernel_rfl) (by simp) ?_
   refine q9 rfl (fun K hK=> ?_)
   refine I6 rfl 26 (.tmp 3) (.tmp 18) rfl wB.heap.size 0 (U8 ⟨s.n0 % 3,1+s.n1 % 1125899906842624,1+s.n2 % 4,0,List.replicate 32 0,[]⟩ I4).toArray rfl (by rfl) HQ.o.1 HQ.o.2.1 HQ.o.2.2.1 ?_
   refine hK.out _ _ (HQ.o.2.2.2.1 s3) (fun _=> ?_)
   clear hK K
   try simp only[Act.put,F3,U3,V3]
   refine wpAnyH_done (by kernel_rfl) ?_ _
   go_wp2_with fail
   go_meet
   exact⟨rfl,HQ.o.2.2.2.2.1,HQ.o.2.2.2.2.2⟩
 case rest=>
  obtain⟨rfl,hr3,hk3⟩:=hcut
  generalize wc=u at*
  obtain⟨A,c,gb,rfl,hc,hm,hse,hgF⟩:=id hv
  obtain⟨nm,hnm⟩:∃ nm,X8 (s.b.take 32)=nm:=⟨_,rfl⟩
  have nml:nm.length=32:=by rw[←hnm];exact iL _
  have rS:=hk3.row HR.o.1 (by simp)
  have rZ:=hk3.row HR.o.2.1 (by simp)
  have kw:=HR.o.2.2.1.then hk3 (by simp)
  have c8:u.cell? ⟨w.heap.size,8,none⟩=some (.slice A s.b.length c):=(rS.cell 8).trans (by rw[←HY.o];rfl)
  have c6:u.cell? ⟨w.heap.size,6,none⟩=some (.int .i64 s.n3):=(rS.cell 6).trans (by rw[←HY.o];rfl)
  have ck:u.cell? ⟨wB.heap.size,2,none⟩=some (.int .i64 (1+s.n2 % 4)):=(hr3.cell 2).trans rfl
  have hg3:w.heap.size+1<wB.heap.size:=HR.o.2.1.lt
  have hvu:G7 u F (.slice A s.b.length c) s.b:=hv.keep kw (by simp)
  have HU:=U0 (U2 hr3 (U2 rS (U2 rZ (U2 kw hvu))))
  clear hr3 rS rZ kw hvu hk3
  have h4:=H41.o
  rw[h4] at ck HU
  go_upto_region 3 with fail
  have ht:∀ wx,l5 wx wB.heap.size 26 (U8 ⟨s.n0 % 3,1+s.n1 % 1125899906842624,1+1,0,List.replicate 32 0,[]⟩ I4).toArray→wx.there wB.heap.size 4 (U7 nm).toArray.size:=fun wx hh=>hh.there (by rw[U4,A8,nml,U4,O8 (by exact List.length_replicate)];omega)
  have hJ:(prog.info? 23).map (·.size)=some (U7 nm).toArray.size:=by rw[U4,A8,nml];exact xB
  have HT:=U0 (U2 ht (U2 hJ (all_oneCell_toArray (jD nm))))
  clear ht hJ
  go_upto_region 4 with (first
   |(go_at_call 117;refine (GN F s.b _ _ HU.o.2.2.2.2).mono ?_;rintro e u1 ⟨rfl,k1⟩;rw[hnm];have Q:=U0 (U2 (k1.row HU.o.1 (by simp)) k1);clear k1)
   |(refine wpList_store_mid rfl 23 (.tmp 25) (.tmp 24) rfl wB.heap.size 4 (U7 nm).toArray rfl rfl (HT.o.1 _ Q.o.1) HT.o.2.1 HT.o.2.2 ?_))
  have R1:=Q.o.1.setL (vs:=U7 nm) (o:=4)
  rw[show KA (U8 ⟨s.n0 % 3,1+s.n1 % 1125899906842624,1+1,0,List.replicate 32 0,[]⟩ I4).toArray 4 (U7 nm)=(U8 ⟨s.n0 % 3,1+s.n1 % 1125899906842624,1+1,0,nm,[]⟩ I4).toArray by rw[iC,iC];exact FE [.int .i64 (s.n0 % 3),.int .i64 (1+s.n1 % 1125899906842624),.int .i64 (1+1),.int .i64 0] _ _ _ (by rw[A8,A8,nml];exact List.length_replicate)] at R1
  have K1:=(Q.o.2.more (T:=[wB.heap.size]) (by simp)).setL (vs:=U7 nm) (g:=wB.heap.size) (o:=4) (.inl (by simp))
  simp only[Act.put]
  obtain⟨v1,hv1⟩:∃ v1,u1.setCells wB.heap.size 4 (U7 nm)=v1:=⟨_,rfl⟩
  rw[hv1] at R1 K1
  rw[show u1.setCells wB.heap.size 4 (U7 nm).toArray.toList=v1 from hv1]
  have HV1:=U0 (U2 R1 (U2 (K1.row HU.o.2.1 (by simp;omega)) (U2 (K1.row HU.o.2.2.1 (by simp;omega)) (HU.o.2.2.2.1.then K1 (fun x hx=> .inr (by simp at hx;omega))))))
  have ck1:v1.cell? ⟨wB.heap.size,2,none⟩=some (.int .i64 (1+1)):=(R1.cell 2).trans rfl
  clear R1 K1 hv1 Q c6 c8 ck
  have c6:v1.cell? ⟨w.heap.size,6,none⟩=some (.int .i64 s.n3):=(HV1.o.2.1.cell 6).trans (by rw[←HY.o];rfl)
  have c3:v1.cell? ⟨wB.heap.size,3,none⟩=some (.int .i64 0):=(HV1.o.1.cell 3).trans rfl
  have f3:=HV1.o.1.free 3
  have hw3:IntKind.i64.wrap (1+s.n3 % 1125899906842624)=1+s.n3 % 1125899906842624:=Z8 _ (by omega) (by omega)
  go_upto_region 7 with (go_at_call 115;refine (l9 s.n3 1125899906842624 hs.n3.1 hs.n3.2 (by omega) (by omega) _).mono ?_;rintro e w1 ⟨rfl,rfl⟩)
  have R2:=HV1.o.1.set 3 (.int .i64 (1+s.n3 % 1125899906842624))
  rw[show (U8 ⟨s.n0 % 3,1+s.n1 % 1125899906842624,1+1,0,nm,[]⟩ I4).toArray.setIfInBounds 3 (.int .i64 (1+s.n3 % 1125899906842624))=(U8 ⟨s.n0 % 3,1+s.n1 % 1125899906842624,1+1,1+s.n3 % 1125899906842624,nm,[]⟩ I4).toArray by simp[U8]] at R2
  have K2:=xC v1 wB.heap.size 3 (.int .i64 (1+s.n3 % 1125899906842624))
  obtain⟨v2,hv2⟩:∃ v2,v1.setCell ⟨wB.heap.size,3,none⟩ (.int .i64 (1+s.n3 % 1125899906842624))=v2:=⟨_,rfl⟩
  rw[hv2] at R2 K2 ⊢
  have HV2:=U0 (U2 R2 (U2 (K2.row HV1.o.2.1 (by simp;omega)) (U2 (K2.row HV1.o.2.2.1 (by simp;omega)) (HV1.o.2.2.2.then K2 (fun x hx=> .inr (by simp at hx;omega))))))
  clear R2 K2 hv2 c6 c3 f3 ck1
  obtain⟨i0,hi0,hz0,hz1,hz2⟩:=info_parts TH
  have HI:=U0 (U2 hi0 (U2 hz0 (U2 hz1 hz2)))
  clear hi0 hz0 hz1 hz2
  obtain⟨n,hn⟩:∃ n,(s.b.take 1000).length=n:=⟨_,rfl⟩
  have e1:(if 1000<(s.b.length:Int) then 1000 else (s.b.length:Int)).toNat=n:=by rw[←hn,List.length_take];split<;>omega
  have E1:=U0 e1
  have hn1:n≤1000:=by rw[←hn,List.length_take];omega
  have ka:=(U1.refl [] v2).alloc (.cells #[.int .u8 7] 5)
  have rN:=l5.new v2 5 #[.int .u8 7]
  have hlt2:wB.heap.size<v2.heap.size:=HV2.o.1.lt
  have hsn:MB (v2.alloc (.cells #[.int .u8 7] 5)) A gb n 1 ((s.b.take 1000).map bv):=by
   have hh:=((hse.keep (HV2.o.2.2.2.then ka (by simp)) (by simp)).take 1000).reads
   rwa [hn] at hh
  have hown:qA (v2.alloc (.cells #[.int .u8 7] 5)) 5 1 (.slice (some ⟨v2.heap.size,0,none⟩) 1 1) 1 [.int .u8 7]:=⟨rfl,.inr ⟨v2.heap.size,1,_,rfl,rN,by omega,by simp[maxLen],rfl,rfl⟩⟩
  have c8:(v2.alloc (.cells #[.int .u8 7] 5)).cell? ⟨w.heap.size,8,none⟩=some (.slice A s.b.length c):=((ka.row HV2.o.2.1 (by simp)).cell 8).trans (by rw[←HY.o];rfl)
  have HO:=U0 (U2 hown (U2 hsn (U2 hn (U2 ka hlt2))))
  clear hown hsn hn ka hlt2 rN e1
  go_upto_region 10 with (simp only[E1.o];at_builtin;refine NA _ rfl (.tmp 36) (.tmp 43) 24 rfl 5 i0 (.int .u8 0) 1 1 underlying24 HI.o.1 HI.o.2.1 HI.o.2.2.1 HI.o.2.2.2 rfl (by decide) (.slice (some ⟨v2.heap.size,0,none⟩) 1 1) 1 [.int .u8 7] rfl HO.o.1 A gb n c ((s.b.take 1000).map bv) rfl HO.o.2.1 (by intro y hy;obtain⟨b,_,rfl⟩:=List.mem_map.1 hy;rfl) (by omega) (by unfold maxLen;omega) ?_;intro A6 c9 w6 hown6 hkb6 hloc6;have k6:=HO.o.2.2.2.1.then hkb6 (fun x hx=> .inr (by simp[V8] at hx;omega));have R6:=k6.row HV2.o.1 (by simp);have f36:=R6.free 36;have c36:w6.cell? ⟨wB.heap.size,36,none⟩=some I4:=(R6.cell 36).trans (WC nml);have H6:=U0 (U2 R6 (U2 hown6 (U2 hloc6 k6)));clear R6 hown6 hloc6 hkb6 k6 c8)
  generalize (if 1000<(s.b.length:Int) then 1000 else (s.b.length:Int))=zz
  have R7:=H6.o.1.set 36 (.slice A6 (1+n) c9)
  rw[eO nml (7::s.b.take 1000)] at R7
  have K7:=xC w6 wB.heap.size 36 (.slice A6 (1+n) c9)
  have hv7:∀ y∈Z6 (.slice A6 (1+n) c9),v2.heap.size≤y∧y<w6.heap.size:=fun y hy=>⟨(H6.o.2.2.1 y hy).elim (fun h=>by simp[V8] at h;omega) (fun h=>by simp at h;omega),H6.o.2.1.lt y hy⟩
  have hb7:G7 w6 (Z6 (.slice A6 (1+n) c9)) (.slice A6 (1+n) c9) (7::s.b.take 1000):=by
   obtain⟨A3,c3,e3,h31,h32,h33,h34⟩:=H6.o.2.1.form
   injection e3 with e3a e3b e3c
   subst e3a e3c
   obtain⟨g3,hg3⟩:=EA (.slice A6 (1+n) c9)
   have hl:(7::s.b.take 1000:List UInt8).length=1+n:=by rw[List.length_cons,HO.o.2.2.1];omega
   have hr:=h34 g3 hg3
   refine⟨A6,c9,g3,by rw[hl],by rw[hl];exact h31,h32,MB.seenB (by rw[hl];exact hr),fun hne=> ?_⟩
   obtain⟨o,hA,_⟩:=hr.2 (by omega)
   rw[hA];simp[V8]
  have hb8:=hb7.keep K7 (fun y hy=>by have:=(hv7 y hy).1;have:=HO.o.2.2.2.2;simp;omega)
  have hsz:=K7.size
  obtain⟨v3,hv3⟩:∃ v3,w6.setCell ⟨wB.heap.size,36,none⟩ (.slice A6 (1+n) c9)=v3:=⟨_,rfl⟩
  rw[hv3] at R7 K7 hb8 hsz ⊢
  have HV3:=U0 (U2 R7 (U2 (K7.row (H6.o.2.2.2.row HV2.o.2.1 (by simp)) (by simp;omega)) (U2 (K7.row (H6.o.2.2.2.row HV2.o.2.2.1 (by simp)) (by simp;omega)) ((HV2.o.2.2.2.then H6.o.2.2.2 (by simp)).then K7 (fun x hx=> .inr (by simp at hx;omega))))))
  have HB:=U0 (U2 hb8 (U2 hv7 hsz))
  clear R7 K7 hb7 hb8 hv7 hsz hv3 f36 c36
  obtain⟨XL,hXL⟩:∃ XL,U8 ⟨s.n0 % 3,1+s.n1 % 1125899906842624,1+1,1+s.n3 % 1125899906842624,nm,7::s.b.take 1000⟩ (.slice A6 (1+n) c9)=XL:=⟨_,rfl⟩
  have xl:XL.length=37:=by rw[←hXL];exact O8 nml
  have xo:∀ y∈XL,y.oneCell'=true:=by rw[←hXL];exact fB _ rfl
  have hrow:=HV3.o.1
  rw[hXL] at hrow
  have rr:=HV3.o.2.2.1.setL (vs:=XL) (o:=0)
  rw[F7 (by rw[xl,U4];exact HR.o.2.2.2.2.symm)] at rr
  have ht:=HV3.o.2.2.1.there (o:=0) (n:=XL.toArray.size) (by simp only[U4];have:=HR.o.2.2.2.2;omega)
  have hJ:(prog.info? 26).map (·.size)=some XL.toArray.size:=by rw[U4,xl];exact D9
  have hJl:(prog.info? 26).map (·.size)=some XL.length:=by rw[xl];exact D9
  have HS:=U0 (U2 hrow.rangeAll (U2 rr (U2 ht (U2 hJl (U2 hJ (all_oneCell_toArray xo))))))
  have HX:=U0 hXL
  clear hrow rr ht hJ hJl xl xo hXL
  go_wp2_with (first
   |(refine wpList_load_mid rfl 26 (.tmp 3) rfl wB.heap.size 0 rfl _ _ HS.o.1 underlying26 rfl HS.o.2.2.2.1 ?_)
   |(refine wpList_store_mid rfl 26 (.tmp 2) (.tmp 54) rfl (w.heap.size+1) 0 XL.toArray rfl rfl HS.o.2.2.1 HS.o.2.2.2.2.1 HS.o.2.2.2.2.2 ?_))
  refine bodyPost_ret (results_cell_row rfl _ _ (w.heap.size+1) 26 _ (0,0) _ rfl HS.o.2.1 underlying26 rfl HS.o.2.2.2.2.1) rfl ?_
  have hq:TF s=⟨s.n0 % 3,1+s.n1 % 1125899906842624,1+1,1+s.n3 % 1125899906842624,nm,7::s.b.take 1000⟩:=by unfold TF;first|(rw[h4,hnm];rfl)|(rw[h4];rfl)
  have hgl:w.heap.size+1<v2.heap.size:=by have:=HO.o.2.2.2.2;omega
  have ks:=(U1.refl [w.heap.size+1] v3).setL (vs:=XL) (g:=w.heap.size+1) (o:=0) (by simp)
  have ksz:=ks.size
  refine⟨.slice A6 (1+n) c9,by rw[hq,HX.o],Z6 (.slice A6 (1+n) c9),?_,fun y hy=>⟨by have:=(HB.o.2.1 y hy).1;omega,by have:=(HB.o.2.1 y hy).2;have:=HB.o.2.2;omega⟩,HV3.o.2.2.2.setL (.inr (by omega))⟩
  rw[hq]
  exact⟨nml,HB.o.1.keep ks (fun y hy=>by have:=(HB.o.2.1 y hy).1;simp;omega)⟩
theorem dQ (F:List Nat) (v:Value) (l:List UInt8) (w:World) (h:G7 w F v l) (hb:l.length≤1000000):
 Calls prog 27 #[v] w fun e w'=>∃ u G,e= .returned u∧G7 w' G u l∧I9 w w' G∧U1 [] w w':=by
 obtain⟨A,c,g,rfl,h2,h3,h4,h5⟩:=h
 obtain⟨i0,hi0,hz0,hz1,hz2⟩:=info_parts TH
 have H:=U0 (U2 (QA.reads h4) (qA.nil w 5 1))
 clear h4 h5 h3
 go_enter func27,ntmps27
 go_wp2_with (at_builtin;refine NA _ rfl _ _ 24 rfl 5 i0 (.int .u8 0) 1 1 underlying24 hi0 hz0 hz1 hz2 rfl (by decide) (.slice none 0 0) 0 [] rfl H.o.2 A g l.length c _ (by simp[Act.eval]) H.o.1 (by intro u hu;simp at hu;obtain⟨b,_,rfl⟩:=hu;rfl) (by omega) (by unfold maxLen;omega) ?_;intro A2 c2 w2 hown2 hkb2 hloc2)
 go_ret
 simp only[Nat.zero_add,List.nil_append] at hown2 hloc2 ⊢
 obtain⟨A3,c3,e3,h31,h32,h33,h34⟩:=hown2.form
 injection e3 with e3a e3b e3c
 subst e3a e3c
 obtain⟨g3,hg3⟩:=EA (.slice A2 l.length c2)
 refine⟨_,Z6 (.slice A2 l.length c2),rfl,⟨A2,c2,g3,rfl,h31,h32,MB.seenB (h34 g3 hg3),fun hne=> ?_⟩,fun y hy=>⟨?_,h33 y hy⟩,hkb2.more (by simp[d9])⟩
 ·obtain⟨o,hA,_⟩:=(h34 g3 hg3).2 (List.length_pos_iff.2 hne)
  rw[hA];simp[V8]
 ·rcases hloc2 y hy with h|h
  ·simp[d9] at h
  ·exact h
structure VH (w0 w:World) (tb:Nat) (Y Z:List Value) (p:PK) (ev av cv vv bw:Value) (F:List Nat):Prop where
 sr:l5 w w0.heap.size 66 Y.toArray
 zr:l5 w (w0.heap.size+1) 34 Z.toArray
 row:l5 w tb 34 (q8 p ev av cv vv bw).toArray
 val:wD w F p ev av cv vv bw
 new:∀ y∈F,tb<y∧y<w.heap.size
 kp:U1 [] w0 w
 gt:w0.heap.size+1<tb
section
variable {w0 w u:World} {tb:Nat} {Y Z:List Value} {p q:PK} {ev av cv vv bw ev' av' cv' vv' bw':Value} {F F':List Nat}
theorem VH.over (h:VH w0 w tb Y Z p ev av cv vv bw F) (hk:U1 [] w u):VH w0 u tb Y Z p ev av cv vv bw F:=
 ⟨hk.row h.sr (by simp),hk.row h.zr (by simp),hk.row h.row (by simp),h.val.keep hk (by simp),fun y hy=>⟨(h.new y hy).1,Nat.lt_of_lt_of_le (h.new y hy).2 hk.size⟩,h.kp.then hk (by simp),h.gt⟩
theorem VH.put (h:VH w0 w tb Y Z p ev av cv vv bw F) (hk:U1 [tb] w u) (hrow:l5 u tb 34 (q8 q ev' av' cv' vv' bw').toArray) (hv:wD w F' q ev' av' cv' vv' bw') (hn:∀ y∈F',tb<y∧y<w.heap.size):VH w0 u tb Y Z q ev' av' cv' vv' bw' F':=
 ⟨hk.row h.sr (by have:=h.gt;simp;omega),hk.row h.zr (by have:=h.gt;simp;omega),hrow,hv.keep hk (fun y hy=>by have:=(hn y hy).1;simp;omega),fun y hy=>⟨(hn y hy).1,Nat.lt_of_lt_of_le (hn y hy).2 hk.size⟩,h.kp.then hk (fun x hx=> .inr (by have:=h.gt;simp at hx;omega)),h.gt⟩
theorem VH.set (h:VH w0 w tb Y Z p ev av cv vv bw F) (k:Nat) (x:Value) (he:(q8 p ev av cv vv bw).toArray.setIfInBounds k x=(q8 q ev' av' cv' vv' bw').toArray) (hv:wD w F' q ev' av' cv' vv' bw') (hn:∀ y∈F',tb<y∧y<w.heap.size):VH w0 (w.setCell ⟨tb,k,none⟩ x) tb Y Z q ev' av' cv' vv' bw' F':=
 h.put (xC w tb k x) (by rw[←he];exact h.row.set k x) hv hn
theorem VH.setL (h:VH w0 w tb Y Z p ev av cv vv bw F) (k:Nat) (xs:List Value) (he:KA (q8 p ev av cv vv bw).toArray k xs=(q8 q ev' av' cv' vv' bw').toArray) (hv:wD w F' q ev' av' cv' vv' bw') (hn:∀ y∈F',tb<y∧y<w.heap.size):VH w0 (w.setCells tb k xs) tb Y Z q ev' av' cv' vv' bw' F':=
 h.put ((U1.refl [tb] w).setL (.inl (by simp))) (by rw[←he];exact h.row.setL) hv hn
theorem VH.num (h:VH w0 w tb Y Z p ev av cv vv bw F) (x:Int):VH w0 (w.setCell ⟨tb,3,none⟩ (.int .i64 x)) tb Y Z {p with num:=x} ev av cv vv bw F:=
 h.set 3 _ (rJ x) ⟨h.val.rn,h.val.an,h.val.re,h.val.ae,h.val.cc,h.val.vs,h.val.bs⟩ h.new
theorem VH.seq (h:VH w0 w tb Y Z p ev av cv vv bw F) (x:Int):VH w0 (w.setCell ⟨tb,4,none⟩ (.int .i64 x)) tb Y Z {p with seq:=x} ev av cv vv bw F:=
 h.set 4 _ (tJ x) ⟨h.val.rn,h.val.an,h.val.re,h.val.ae,h.val.cc,h.val.vs,h.val.bs⟩ h.new
theorem VH.bal (h:VH w0 w tb Y Z p ev av cv vv bw F) (x:Int):VH w0 (w.setCell ⟨tb,5,none⟩ (.int .i64 x)) tb Y Z {p with ballot:=x} ev av cv vv bw F:=
 h.set 5 _ (qJ x) ⟨h.val.rn,h.val.an,h.val.re,h.val.ae,h.val.cc,h.val.vs,h.val.bs⟩ h.new
theorem VH.rdy (h:VH w0 w tb Y Z p ev av cv vv bw F) (x:Bool):VH w0 (w.setCell ⟨tb,6,none⟩ (.bool x)) tb Y Z {p with ready:=x} ev av cv vv bw F:=
 h.set 6 _ (sJ x) ⟨h.val.rn,h.val.an,h.val.re,h.val.ae,h.val.cc,h.val.vs,h.val.bs⟩ h.new
end
theorem WH {x:Int} {a:Nat} (h:x % 10=(a:Int)) (h10:a<10):(kP.map (Value.int .i64)).toArray[a]? =some (.int .i64 (X9 x)):=by
 unfold X9
 rw[h,show ((a:Int)).toNat=a from Int.toNat_natCast a,List.getElem?_toArray,List.getElem?_map,List.getD_eq_getElem?_getD,List.getElem?_eq_getElem (by exact h10)]
 rfl
theorem madeP1 (s:SD) (h:1+s.kind % 14=1):GA s={UB s with req:=TF s}:=by
 unfold GA
 rw[show (s.kind % 14).toNat=0 by omega]
 rfl
theorem madeP2 (s:SD) (h:1+s.kind % 14=2):GA s={UB s with ans:=vI s}:=by
 unfold GA
 rw[show (s.kind % 14).toNat=1 by omega]
 rfl
theorem madeP3 (s:SD) (h:1+s.kind % 14=3):GA s={{{UB s with num:=s.n0 % 1125899906842624} with seq:=s.n1 % 1125899906842624} with req:=TF s}:=by
 unfold GA
 rw[show (s.kind % 14).toNat=2 by omega]
 rfl
theorem madeP4 (s:SD) (h:1+s.kind % 14=4):GA s={{UB s with num:=s.n0 % 1125899906842624} with seq:=s.n1 % 1125899906842624}:=by
 unfold GA
 rw[show (s.kind % 14).toNat=3 by omega]
 rfl
theorem madeP5 (s:SD) (h:1+s.kind % 14=5):GA s={{UB s with num:=s.n0 % 1125899906842624} with seq:=s.n1 % 1125899906842624-1}:=by
 unfold GA
 rw[show (s.kind % 14).toNat=4 by omega]
 rfl
theorem madeP6 (s:SD) (h:1+s.kind % 14=6):GA s={{{UB s with num:=s.n0 % 1125899906842624} with seq:=s.n1 % 1125899906842624} with bytes:=s.b.take 3000}:=by
 unfold GA
 rw[show (s.kind % 14).toNat=5 by omega]
 rfl
theorem madeP7 (s:SD) (h:1+s.kind % 14=7):GA s={UB s with conf:=vG s.n0 s.n1}:=by
 unfold GA
 rw[show (s.kind % 14).toNat=6 by omega]
 rfl
theorem madeP8 (s:SD) (h:1+s.kind % 14=8):GA s={{UB s with num:=s.n0 % 1125899906842624} with ready:=decide (s.n1 % 1125899906842624 % 2=0)}:=by
 unfold GA
 rw[show (s.kind % 14).toNat=7 by omega]
 rfl
theorem madeP9 (s:SD) (h:1+s.kind % 14=9):GA s=UB s:=by
 unfold GA
 rw[show (s.kind % 14).toNat=8 by omega]
 rfl
theorem RV (s:SD) (h:1+s.kind % 14=10):GA s={{UB s with ballot:=s.n4 % 1125899906842624} with seq:=s.n1 % 1125899906842624}:=by
 unfold GA
 rw[show (s.kind % 14).toNat=9 by omega]
 rfl
theorem SV (s:SD) (h:1+s.kind % 14=11):GA s={{{UB s with ballot:=s.n4 % 1125899906842624} with seq:=s.n1 % 1125899906842624} with votes:=uG s (s.n2 % 9).toNat}:=by
 unfold GA
 rw[show (s.kind % 14).toNat=10 by omega]
 rfl
theorem VV (s:SD) (h:1+s.kind % 14=12):GA s={{{UB s with ballot:=s.n4 % 1125899906842624} with seq:=s.n1 % 1125899906842624} with conf:=vG s.n0 s.n1}:=by
 unfold GA
 rw[show (s.kind % 14).toNat=11 by omega]
 rfl
theorem WV (s:SD) (h:1+s.kind % 14=13):GA s={{UB s with ballot:=s.n4 % 1125899906842624} with seq:=s.n1 % 1125899906842624}:=by
 unfold GA
 rw[show (s.kind % 14).toNat=12 by omega]
 rfl
theorem XV (s:SD) (h:1+s.kind % 14=14):GA s={UB s with ballot:=s.n4 % 1125899906842624}:=by
 unfold GA
 rw[show (s.kind % 14).toNat=13 by omega]
 rfl
def xM:List (Nat × Nat):=[(0,1),(1,1),(2,1),(3,1),(4,1),(5,32),(37,1)]
theorem JQ:(match prog.underlying 28 with|some (.struct fields)=>fields.toList.mapM (fun f=>(prog.info? f.type).map fun i=>(f.offset,i.size))|_=>none)=some xM:=by kernel_rfl
theorem ZU:((prog.info? 28).bind (·.zero)).map (·.cells.size)=some 38:=by kernel_rfl
theorem vT:∃ z:Array Value,z.size=38∧∀ parts,prog.built 28 parts=Instr.fill (xM.toArray[·]?) z parts:=by
 have h1:=JQ
 have h2:=ZU
 cases hu:prog.underlying 28 with
 |none=>rw[hu] at h1;cases h1
 |some d=>
  rw[hu] at h1
  cases d with
  |struct fields=>
   cases hi:prog.info? 28 with
   |none=>rw[hi] at h2;cases h2
   |some it=>
    rw[hi] at h2
    cases hz:it.zero with
    |none=>simp[hz] at h2
    |some z=>
     simp[hz] at h2
     refine⟨z.cells,h2,fun parts=> ?_⟩
     unfold Program.built
     simp only[hi,hu,hz,h1]
  |_=>cases h1
theorem fT (p:AN) (ev:Value) (h1:p.name.length=32) (hv:ev.oneCell'=true):
 prog.built 28 [(0,.int .i64 p.client),(1,.int .i64 p.num),(2,.int .i64 p.code),(3,.int .i64 p.version),(4,.int .i64 p.epoch),(5,.agg (U7 p.name).toArray),(6,ev)]=some (x9 p ev).toArray:=by
 obtain⟨z,hz,hf⟩:=vT
 have e1:(U7 p.name).length=32:=by rw[A8];exact h1
 rw[hf]
 rw[XA _ _ 0 _ _ 0 1 rfl rfl (by rw[hz];omega)]
 rw[XA _ _ 1 _ _ 1 1 rfl rfl (by simp only[bB,hz];omega)]
 rw[XA _ _ 2 _ _ 2 1 rfl rfl (by simp only[bB,hz];omega)]
 rw[XA _ _ 3 _ _ 3 1 rfl rfl (by simp only[bB,hz];omega)]
 rw[XA _ _ 4 _ _ 4 1 rfl rfl (by simp only[bB,hz];omega)]
 rw[XA _ _ 5 _ _ 5 32 rfl (by simp only[Value.cells,U4,e1]) (by simp only[bB,hz];omega)]
 rw[XA _ _ 6 _ _ 37 1 rfl (by rw[VE hv];rfl) (by simp only[bB,hz];omega)]
 rw[Instr.fill]
 rw[VE hv]
 have q:∀ (a b c:List Value) (k:Nat),k=a.length→a++b=c→KA (KA z 0 a) k b=KA z 0 c:=fun a b c k h hc=>by rw[lD a b z 0 k (by omega),hc]
 have hl:(x9 p ev).length=z.size:=by rw[y9 h1,hz]
 rw[←F7 hl]
 obtain⟨R,hR⟩:∃ R,U7 p.name=R:=⟨_,rfl⟩
 unfold x9
 rw[hR] at e1 ⊢
 refine congrArg some ?_
 show KA (KA (KA (KA (KA (KA (KA z 0 [_]) 1 [_]) 2 [_]) 3 [_]) 4 [_]) 5 R) 37 [ev]=_
 rw[q _ _ _ 1 rfl rfl,q _ _ _ 2 rfl rfl,q _ _ _ 3 rfl rfl,q _ _ _ 4 rfl rfl,q _ _ _ 5 rfl rfl]
 rw[lD _ _ _ 0 37 (by simp[e1])]
 refine congrArg (KA z 0) ?_
 simp only[List.append_assoc,List.cons_append,List.nil_append]
theorem kQ:(prog.info? 66).map (·.size)=some 9:=by kernel_rfl
structure mvS (w0 w:World) (tb:Nat) (Y Z:List Value) (p:PK) (s:SD) (i:Nat) (A:Option Addr) (c:Nat) (T:List (VT × Value)) (G:List Nat):Prop where
 sr:l5 w w0.heap.size 66 Y.toArray
 zr:l5 w (w0.heap.size+1) 34 Z.toArray
 row:l5 w tb 34 (q8 p I4 I4 I4 (.slice A i c) I4).toArray
 mp:T.map (·.1)=uG s i
 own:qA w 69 4 (.slice A i c) i (Z9 T)
 hh:∀ y∈Z6 (.slice A i c),tb<y
 iv:∀ t∈T,F8 w G t.2 t.1.conf.chain
 gn:∀ y∈G,tb<y∧y<w.heap.size
 gh:∀ y∈G,y∉Z6 (.slice A i c)
 kp:U1 [] w0 w
 gt:w0.heap.size+1<tb
theorem mvS.step {w0 w W w6:World} {tb:Nat} {Y Z:List Value} {p:PK} {s:SD} {i:Nat} {A A6:Option Addr} {c c6:Nat} {T:List (VT × Value)} {G G2:List Nat} {ev:Value} (h:mvS w0 w tb Y Z p s i A c T G) (hr:p.req.name.length=32) (ha:p.ans.name.length=32)
 (k:U1 [] w W) (iv2:F8 W G2 ev (zS s i).conf.chain) (n2:I9 w W G2) (k6:U1 (Z6 (.slice A i c)) W w6) (own6:qA w6 69 4 (.slice A6 (i+1) c6) (i+1) (Z9 T++oD (zS s i) ev)) (loc6:∀ x∈Z6 (.slice A6 (i+1) c6),x∈Z6 (.slice A i c)∨W.heap.size≤x):
 mvS w0 (w6.setCell ⟨tb,85,none⟩ (.slice A6 (i+1) c6)) tb Y Z p s (i+1) A6 c6 (T++[(zS s i,ev)]) (G++G2):=by
 have hg:=h.gt
 have hh:=h.hh
 have htb:=h.row.lt
 have hlt:=h.own.lt
 have ks:=xC w6 tb 85 (.slice A6 (i+1) c6)
 have kk:U1 (Z6 (.slice A i c)) w w6:=(k.more (by simp)).then k6 (fun x hx=> .inl hx)
 have hh6:∀ y∈Z6 (.slice A6 (i+1) c6),tb<y:=fun y hy=>by
  rcases loc6 y hy with h1|h1
  ·exact hh y h1
  ·have:=k.size;omega
 have hG2:∀ y∈G2,tb<y:=fun y hy=>by have:=(n2 y hy).1;omega
 have r1:=kk.row h.row (fun hm=>Nat.lt_irrefl _ (hh tb hm))
 refine⟨ks.row (kk.row h.sr (fun hm=>by have:=hh _ hm;omega)) (by simp;omega),ks.row (kk.row h.zr (fun hm=>by have:=hh _ hm;omega)) (by simp;omega),?_,?_,?_,hh6,?_,?_,?_,?_,h.gt⟩
 ·have:=r1.set 85 (.slice A6 (i+1) c6)
  rw[YE hr ha p.votes] at this
  exact this
 ·rw[List.map_append,h.mp]
  simp[uG,List.range_succ]
 ·rw[DD]
  exact own6.keep ks (fun y hy=>by have:=hh6 y hy;simp;omega)
 ·intro t ht
  rcases List.mem_append.1 ht with h1|h1
  ·exact (((h.iv t h1).keep kk (fun y hy=>h.gh y hy)).keep ks (fun y hy=>by have:=(h.gn y hy).1;simp;omega)).more (fun y hy=>List.mem_append.2 (.inl hy))
  ·simp at h1
   subst h1
   exact ((iv2.keep k6 (fun y hy hm=>by have h2:=(n2 y hy).1;have h3:=hlt y hm;omega)).keep ks (fun y hy=>by have:=hG2 y hy;simp;omega)).more (fun y hy=>List.mem_append.2 (.inr hy))
 ·intro y hy
  have h1:=kk.size
  have h2:=ks.size
  have h3:=k6.size
  rcases List.mem_append.1 hy with hy|hy
  ·have:=h.gn y hy;omega
  ·have:=hG2 y hy;have:=(n2 y hy).2;omega
 ·intro y hy hm
  have h1:=loc6 y hm
  rcases List.mem_append.1 hy with hy|hy
  ·rcases h1 with h1|h1
   ·exact h.gh y hy h1
   ·have:=(h.gn y hy).2;have:=k.size;omega
  ·rcases h1 with h1|h1
   ·have:=(n2 y hy).1;have:=hlt y h1;omega
   ·have:=(n2 y hy).2;omega
 ·exact (h.kp.then kk (fun x hx=> .inr (by have:=hh x hx;have:=h.kp.size;omega))).setCell _ _ (.inr (by simp;omega))
theorem mvS.done {w0 w:World} {tb:Nat} {Y Z:List Value} {p:PK} {s:SD} {i:Nat} {A:Option Addr} {c:Nat} {T:List (VT × Value)} {G:List Nat} (h:mvS w0 w tb Y Z p s i A c T G) (hr:p.req.name.length=32) (ha:p.ans.name.length=32) (hre:p.req.env=[]) (hae:p.ans.env=[]) (hc:p.conf.chain=[]) (hb:p.bytes=[]):∃ F,VH w0 w tb Y Z {p with votes:=uG s i} I4 I4 I4 (.slice A i c) I4 F:=by
 obtain⟨A3,c3,e3,h31,h32,h33,h34⟩:=h.own.form
 injection e3 with e3a e3b e3c
 subst e3a e3c
 obtain⟨g3,hg3⟩:=EA (.slice A i c)
 have hl:(uG s i).length=i:=by simp[uG]
 have hrd:=h34 g3 hg3
 refine⟨G++Z6 (.slice A i c),h.sr,h.zr,h.row,⟨hr,ha,by show G7 _ _ _ p.req.env;rw[hre];exact G7.nil _ _,by show G7 _ _ _ p.ans.env;rw[hae];exact G7.nil _ _,by show F8 _ _ _ p.conf.chain;rw[hc];exact F8.nil _ _,⟨A,c,g3,T,by show _=Value.slice A (uG s i).length c;rw[hl],by show (uG s i).length≤c;rw[hl];exact h31,h32,h.mp,by show MB w A g3 (uG s i).length 4 _;rw[hl];exact hrd,fun t ht=>(h.iv t ht).more (fun y hy=>List.mem_append.2 (.inl hy)),fun hne=> ?_⟩,by show G7 _ _ _ p.bytes;rw[hb];exact G7.nil _ _⟩,fun y hy=> ?_,h.kp,h.gt⟩
 ·have hi:0<i:=by
   have h0:uG s i≠[]:=hne
   have:=List.length_pos_iff.2 h0
   rwa [hl] at this
  obtain⟨o,hA,_⟩:=hrd.2 hi
  rw[hA];simp[V8]
 ·rcases List.mem_append.1 hy with hy|hy
  ·exact h.gn y hy
  ·exact⟨h.hh y hy,h33 y hy⟩
theorem XK (x:Int):OA (IntKind.i64.wrap x):=by
 unfold OA
 rw[IntKind.wrap_i64]
 omega
def MADE (s:SD) (w:World) (e:Ending) (w':World):Prop:=∃ ev av cv vv bw G,e= .returned (.agg (q8 (GA s) ev av cv vv bw).toArray)∧wD w' G (GA s) ev av cv vv bw∧I9 w w' G∧U1 [] w w'
end Go.Proofs.YthfdkonhjpdflaaGreatDoor
