import Derived.Test.YthfdkonhjpdflaaGreatDoorMKB
import Derived.Test.YthfdkonhjpdflaaGreatDoorLow3
namespace Go.Proofs.YthfdkonhjpdflaaGreatDoor
open Go.RowKit Go.Proofs.Tryz
set_option linter.unusedVariables false
set_option maxRecDepth 100000
set_option linter.unusedSimpArgs false
set_option maxHeartbeats 16000000
theorem YV (F:List Nat) (s:SD) (v:Value) (w:World) (hs:XU s) (h41:s.n2 % 4=1) (hv:G7 w F v s.b) (hg:1+s.kind % 14∈([1,3,4,5,7,9,10,12,13,14]:List Int)):
 Calls prog 39 #[.agg (sdL s v).toArray] w (MADE s w):=by
 have HG:=U0 hg
 have H41:=U0 h41
 clear hg h41
 obtain⟨Z,hZ⟩:∃ Z,q8 G9 I4 I4 I4 I4 I4=Z:=⟨_,rfl⟩
 have zv:=KE
 have zl:Z.length=87:=by rw[←hZ];exact IC
 rw[hZ] at zv
 obtain⟨Y,hY⟩:∃ Y,sdL s v=Y:=⟨_,rfl⟩
 obtain⟨wA,hwA⟩:∃ wA,w.alloc (.cells Y.toArray 66)=wA:=⟨_,rfl⟩
 obtain⟨wB,hwB⟩:∃ wB,wA.alloc (.cells Z.toArray 34)=wB:=⟨_,rfl⟩
 have rA:=l5.new w 66 Y.toArray
 have rB:=l5.new wA 34 Z.toArray
 have kA:=(U1.refl [] w).alloc (.cells Y.toArray 66)
 have kB:=(U1.refl [] wA).alloc (.cells Z.toArray 34)
 rw[hwA] at rA kA
 rw[hwB] at rB kB
 have rA3:=kB.row rA (by simp)
 have kk:=kA.then kB (by simp)
 have hA1:wA.heap.size=w.heap.size+1:=by rw[←hwA];simp
 rw[hA1] at rB
 have HW:=U0 (U2 hwA (U2 hwB zv))
 have HR:=U0 (U2 rA3 (U2 rB (U2 kk zl)))
 rw[hY]
 have HY:=U0 hY
 have HZ:=U0 hZ
 clear hwA hwB zv rA rB kA kB rA3 kk zl hZ hY
 obtain⟨fa,hfa⟩:∃ a:Nat,s.frm % 10=(a:Int):=⟨(s.frm % 10).toNat,by omega⟩
 obtain⟨da,hda⟩:∃ a:Nat,s.dst % 10=(a:Int):=⟨(s.dst % 10).toNat,by omega⟩
 have fa10:fa<10:=by omega
 have da10:da<10:=by omega
 have fa10':(fa:Int)<10:=by omega
 have da10':(da:Int)<10:=by omega
 have HF:=U0 hfa
 have HD:=U0 hda
 have hw1:IntKind.i64.wrap (1+s.kind % 14)=1+s.kind % 14:=Z8 _ (by omega) (by omega)
 go_enter func39,ntmps39
 go_upto_region 1 with (first
  |(with_reducible refine F5 _ _ rfl 34 rfl _ HW.o.2.2 rfl ?_))
 rw[HW.o.1,HW.o.2.1]
 go_upto_region 2 with (go_at_call 114;refine (kL _).mono ?_;intro e wC hq;obtain⟨nb,rfl,hn1,hn2,hn3⟩:=hq;have HN:=U0 (U2 hn1 (U2 hn2 hn3));clear hn1 hn2 hn3)
 have y0:wC.drew.cell? ⟨w.heap.size,0,none⟩=some (.int .i64 s.kind):=((HN.o.2.1.row HR.o.1 (by simp)).cell 0).trans (by rw[←HY.o];rfl)
 have y1:wC.drew.cell? ⟨w.heap.size,1,none⟩=some (.int .i64 s.frm):=((HN.o.2.1.row HR.o.1 (by simp)).cell 1).trans (by rw[←HY.o];rfl)
 have y2:wC.drew.cell? ⟨w.heap.size,2,none⟩=some (.int .i64 s.dst):=((HN.o.2.1.row HR.o.1 (by simp)).cell 2).trans (by rw[←HY.o];rfl)
 have y3:wC.drew.cell? ⟨nb,fa,none⟩=some (.int .i64 (X9 s.frm)):=(HN.o.1.cell fa).trans (WH hfa fa10)
 have y4:wC.drew.cell? ⟨nb,da,none⟩=some (.int .i64 (X9 s.dst)):=(HN.o.1.cell da).trans (WH hda da10)
 clear hfa hda
 go_cut [4] (fun v4 wx=>v4= .pointer (some ⟨wC.heap.size,0,none⟩)∧l5 wx wC.heap.size 34 (q8 ⟨1+s.kind % 14,X9 s.frm,X9 s.dst,0,0,0,false,I7,l8,V7,[],[]⟩ I4 I4 I4 I4 I4).toArray∧U1 [] wC wx)
 case first=>
  have s1:wC.drew.cell? ⟨w.heap.size,0,none⟩=some (.int .i64 s.kind)∧wC.drew.cell? ⟨w.heap.size,1,none⟩=some (.int .i64 s.frm)∧wC.drew.cell? ⟨w.heap.size,2,none⟩=some (.int .i64 s.dst)∧wC.drew.cell? ⟨nb,fa,none⟩=some (.int .i64 (X9 s.frm))∧wC.drew.cell? ⟨nb,da,none⟩=some (.int .i64 (X9 s.dst)):=⟨y0,y1,y2,y3,y4⟩
  clear y0 y1 y2 y3 y4
  refine wp_region_held_drew (S:=fun w'=>w'.cell? ⟨w.heap.size,0,none⟩=some (.int .i64 s.kind)∧w'.cell? ⟨w.heap.size,1,none⟩=some (.int .i64 s.frm)∧w'.cell? ⟨w.heap.size,2,none⟩=some (.int .i64 s.dst)∧w'.cell? ⟨nb,fa,none⟩=some (.int .i64 (X9 s.frm))∧w'.cell? ⟨nb,da,none⟩=some (.int .i64 (X9 s.dst))) (by kernel_rfl) s1 (fun _=> ?_)
  refine FB 0 ⟨_,_,_,_,_,_⟩ _ s1 ?_
  try simp only[Act.put,F3,U3,V3]
  refine FB 1 ⟨_,_,_,_,_,_⟩ _ s1 ?_
  try simp only[Act.put,F3,U3,V3]
  refine FB 4 ⟨_,_,_,_,_,_⟩ _ s1 ?_
  try simp only[Act.put,F3,U3,V3]
  refine FB 5 ⟨_,_,_,_,_,_⟩ _ s1 ?_
  try simp only[Act.put,F3,U3,V3]
  refine FB 6 ⟨_,_,_,_,_,_⟩ _ s1 ?_
  try simp only[Act.put,F3,U3,V3]
  refine FB 7 ⟨_,_,_,_,_,_⟩ _ s1 ?_
  try simp only[Act.put,F3,U3,V3]
  refine FB 8 ⟨_,_,_,_,_,_⟩ _ s1 ?_
  try simp only[Act.put,F3,U3,V3]
  refine FB 12 ⟨_,_,_,_,_,_⟩ _ s1 ?_
  try simp only[Act.put,F3,U3,V3]
  refine FB 13 ⟨_,_,_,_,_,_⟩ _ s1 ?_
  try simp only[Act.put,F3,U3,V3]
  refine FB 14 ⟨_,_,_,_,_,_⟩ _ s1 ?_
  try simp only[Act.put,F3,U3,V3]
  refine FB 15 ⟨_,_,_,_,_,_⟩ _ s1 ?_
  try simp only[Act.put,F3,U3,V3]
  refine FB 16 ⟨_,_,_,_,_,_⟩ _ s1 ?_
  try simp only[Act.put,F3,U3,V3]
  have HS3:V5 ((wC.drew.cell? ⟨w.heap.size,0,none⟩=some (.int .i64 s.kind)∧wC.drew.cell? ⟨w.heap.size,1,none⟩=some (.int .i64 s.frm)∧wC.drew.cell? ⟨w.heap.size,2,none⟩=some (.int .i64 s.dst)∧wC.drew.cell? ⟨nb,fa,none⟩=some (.int .i64 (X9 s.frm))∧wC.drew.cell? ⟨nb,da,none⟩=some (.int .i64 (X9 s.dst)))→(wC.drew.alloc (.cells Z.toArray 34)).cell? ⟨w.heap.size,0,none⟩=some (.int .i64 s.kind)∧(wC.drew.alloc (.cells Z.toArray 34)).cell? ⟨w.heap.size,1,none⟩=some (.int .i64 s.frm)∧(wC.drew.alloc (.cells Z.toArray 34)).cell? ⟨w.heap.size,2,none⟩=some (.int .i64 s.dst)∧(wC.drew.alloc (.cells Z.toArray 34)).cell? ⟨nb,fa,none⟩=some (.int .i64 (X9 s.frm))∧(wC.drew.alloc (.cells Z.toArray 34)).cell? ⟨nb,da,none⟩=some (.int .i64 (X9 s.dst))):=U0 (fun h=>by
   have ka:=(U1.refl [] wC.drew).alloc (.cells Z.toArray 34)
   exact⟨(ka.cell (p:=⟨w.heap.size,0,none⟩) (World.block_lt_of_cell? _ _ h.1) (by simp)).trans h.1,(ka.cell (p:=⟨w.heap.size,1,none⟩) (World.block_lt_of_cell? _ _ h.2.1) (by simp)).trans h.2.1,(ka.cell (p:=⟨w.heap.size,2,none⟩) (World.block_lt_of_cell? _ _ h.2.2.1) (by simp)).trans h.2.2.1,(ka.cell (p:=⟨nb,fa,none⟩) (World.block_lt_of_cell? _ _ h.2.2.2.1) (by simp)).trans h.2.2.2.1,(ka.cell (p:=⟨nb,da,none⟩) (World.block_lt_of_cell? _ _ h.2.2.2.2) (by simp)).trans h.2.2.2.2⟩)
  have HQ:V5 ((wC.drew.alloc (.cells Z.toArray 34)).there wC.heap.size 0 (q8 ⟨1+s.kind % 14,X9 s.frm,X9 s.dst,0,0,0,false,I7,l8,V7,[],[]⟩ I4 I4 I4 I4 I4).toArray.size∧(prog.info? 34).map (·.size)=some (q8 ⟨1+s.kind % 14,X9 s.frm,X9 s.dst,0,0,0,false,I7,l8,V7,[],[]⟩ I4 I4 I4 I4 I4).toArray.size∧((q8 ⟨1+s.kind % 14,X9 s.frm,X9 s.dst,0,0,0,false,I7,l8,V7,[],[]⟩ I4 I4 I4 I4 I4).toArray.all fun x=>x.oneCell')=true∧(((wC.drew.alloc (.cells Z.toArray 34)).cell? ⟨w.heap.size,0,none⟩=some (.int .i64 s.kind)∧(wC.drew.alloc (.cells Z.toArray 34)).cell? ⟨w.heap.size,1,none⟩=some (.int .i64 s.frm)∧(wC.drew.alloc (.cells Z.toArray 34)).cell? ⟨w.heap.size,2,none⟩=some (.int .i64 s.dst)∧(wC.drew.alloc (.cells Z.toArray 34)).cell? ⟨nb,fa,none⟩=some (.int .i64 (X9 s.frm))∧(wC.drew.alloc (.cells Z.toArray 34)).cell? ⟨nb,da,none⟩=some (.int .i64 (X9 s.dst)))→((wC.drew.alloc (.cells Z.toArray 34)).setCells wC.heap.size 0 (q8 ⟨1+s.kind % 14,X9 s.frm,X9 s.dst,0,0,0,false,I7,l8,V7,[],[]⟩ I4 I4 I4 I4 I4)).cell? ⟨w.heap.size,0,none⟩=some (.int .i64 s.kind)∧((wC.drew.alloc (.cells Z.toArray 34)).setCells wC.heap.size 0 (q8 ⟨1+s.kind % 14,X9 s.frm,X9 s.dst,0,0,0,false,I7,l8,V7,[],[]⟩ I4 I4 I4 I4 I4)).cell? ⟨w.heap.size,1,none⟩=some (.int .i64 s.frm)∧((wC.drew.alloc (.cells Z.toArray 34)).setCells wC.heap.size 0 (q8 ⟨1+s.kind % 14,X9 s.frm,X9 s.dst,0,0,0,false,I7,l8,V7,[],[]⟩ I4 I4 I4 I4 I4)).cell? ⟨w.heap.size,2,none⟩=some (.int .i64 s.dst)∧((wC.drew.alloc (.cells Z.toArray 34)).setCells wC.heap.size 0 (q8 ⟨1+s.kind % 14,X9 s.frm,X9 s.dst,0,0,0,false,I7,l8,V7,[],[]⟩ I4 I4 I4 I4 I4)).cell? ⟨nb,fa,none⟩=some (.int .i64 (X9 s.frm))∧((wC.drew.alloc (.cells Z.toArray 34)).setCells wC.heap.size 0 (q8 ⟨1+s.kind % 14,X9 s.frm,X9 s.dst,0,0,0,false,I7,l8,V7,[],[]⟩ I4 I4 I4 I4 I4)).cell? ⟨nb,da,none⟩=some (.int .i64 (X9 s.dst)))∧l5 ((wC.drew.alloc (.cells Z.toArray 34)).setCells wC.heap.size 0 (q8 ⟨1+s.kind % 14,X9 s.frm,X9 s.dst,0,0,0,false,I7,l8,V7,[],[]⟩ I4 I4 I4 I4 I4)) wC.heap.size 34 (q8 ⟨1+s.kind % 14,X9 s.frm,X9 s.dst,0,0,0,false,I7,l8,V7,[],[]⟩ I4 I4 I4 I4 I4).toArray∧U1 [] wC ((wC.drew.alloc (.cells Z.toArray 34)).setCells wC.heap.size 0 (q8 ⟨1+s.kind % 14,X9 s.frm,X9 s.dst,0,0,0,false,I7,l8,V7,[],[]⟩ I4 I4 I4 I4 I4))):=U0 (by
   have ql:(q8 ⟨1+s.kind % 14,X9 s.frm,X9 s.dst,0,0,0,false,I7,l8,V7,[],[]⟩ I4 I4 I4 I4 I4).length=87:=G8 j6 F6
   have qo:∀ u∈(q8 ⟨1+s.kind % 14,X9 s.frm,X9 s.dst,0,0,0,false,I7,l8,V7,[],[]⟩ I4 I4 I4 I4 I4),u.oneCell'=true:=yA rfl rfl rfl rfl rfl
   generalize (q8 ⟨1+s.kind % 14,X9 s.frm,X9 s.dst,0,0,0,false,I7,l8,V7,[],[]⟩ I4 I4 I4 I4 I4)=QL at ql qo ⊢
   have rn:l5 (wC.drew.alloc (.cells Z.toArray 34)) wC.heap.size 34 Z.toArray:=l5.new wC.drew _ _
   have kn:=((U1.refl [] wC).drew).alloc (.cells Z.toArray 34)
   have rs:=rn.setL (vs:=QL) (o:=0)
   rw[F7 (by rw[ql,U4];exact HR.o.2.2.2.symm)] at rs
   have ks:=(U1.refl [wC.heap.size] (wC.drew.alloc (.cells Z.toArray 34))).setL (vs:=QL) (g:=wC.heap.size) (o:=0) (by simp)
   have hg:w.heap.size<wC.heap.size:=(HN.o.2.1.row HR.o.1 (by simp)).lt
   have hg2:nb<wC.heap.size:=HN.o.1.lt
   refine⟨rn.there (by simp only[U4];have:=HR.o.2.2.2;omega),by rw[U4,ql];exact I5,all_oneCell_toArray qo,fun h=>⟨(ks.cell (p:=⟨w.heap.size,0,none⟩) (World.block_lt_of_cell? _ _ h.1) (by simp;omega)).trans h.1,(ks.cell (p:=⟨w.heap.size,1,none⟩) (World.block_lt_of_cell? _ _ h.2.1) (by simp;omega)).trans h.2.1,(ks.cell (p:=⟨w.heap.size,2,none⟩) (World.block_lt_of_cell? _ _ h.2.2.1) (by simp;omega)).trans h.2.2.1,(ks.cell (p:=⟨nb,fa,none⟩) (World.block_lt_of_cell? _ _ h.2.2.2.1) (by simp;omega)).trans h.2.2.2.1,(ks.cell (p:=⟨nb,da,none⟩) (World.block_lt_of_cell? _ _ h.2.2.2.2) (by simp;omega)).trans h.2.2.2.2⟩,rs,kn.setL (.inr (Nat.le_refl _))⟩)
  refine wpAnyH_ready (rs:=[2,21]) (by kernel_rfl) (by simp) ?_
  refine AllReadyH.cons (o:=⟨_,_,_,_,_,_⟩) rfl (fun K hK=> ?_) (q9 rfl (fun K hK=> ?_))
  ·skip
   go_simp
   refine (l9 s.kind 14 hs.k.1 hs.k.2 (by omega) (by omega) _).mono ?_
   rintro e w' ⟨rfl,rfl⟩
   go_wp2_with fail
   refine hK.out _ _ s1 (fun _=> ?_)
   clear hK K
   try simp only[Act.put,F3,U3,V3]
   refine FB 3 ⟨_,_,_,_,_,_⟩ _ s1 ?_
   try simp only[Act.put,F3,U3,V3]
   refine wpAnyH_ready (rs:=[9,21]) (by kernel_rfl) (by simp) ?_
   refine AllReadyH.cons (o:=⟨_,_,_,_,_,_⟩) rfl (fun K hK=> ?_) (q9 rfl (fun K hK=> ?_))
   ·skip
    go_simp
    refine (l9 s.frm 10 hs.f.1 hs.f.2 (by omega) (by omega) _).mono ?_
    rintro e w' ⟨rfl,rfl⟩
    rw[HF.o]
    go_wp2_with fail
    refine hK.out _ _ s1 (fun _=> ?_)
    clear hK K
    try simp only[Act.put,F3,U3,V3]
    refine FB 10 ⟨_,_,_,_,_,_⟩ _ s1 ?_
    try simp only[Act.put,F3,U3,V3]
    refine FB 11 ⟨_,_,_,_,_,_⟩ _ s1 ?_
    try simp only[Act.put,F3,U3,V3]
    refine wpAnyH_ready (rs:=[17,21]) (by kernel_rfl) (by simp) ?_
    refine AllReadyH.cons (o:=⟨_,_,_,_,_,_⟩) rfl (fun K hK=> ?_) (q9 rfl (fun K hK=> ?_))
    ·skip
     go_simp
     refine (l9 s.dst 10 hs.d.1 hs.d.2 (by omega) (by omega) _).mono ?_
     rintro e w' ⟨rfl,rfl⟩
     rw[HD.o]
     go_wp2_with fail
     refine hK.out _ _ s1 (fun _=> ?_)
     clear hK K
     try simp only[Act.put,F3,U3,V3]
     refine FB 18 ⟨_,_,_,_,_,_⟩ _ s1 ?_
     try simp only[Act.put,F3,U3,V3]
     refine FB 19 ⟨_,_,_,_,_,_⟩ _ s1 ?_
     try simp only[Act.put,F3,U3,V3]
     refine FB 20 ⟨_,_,_,_,_,_⟩ _ s1 ?_
     try simp only[Act.put,F3,U3,V3]
     refine wpAnyH_ready (rs:=[21]) (by kernel_rfl) (by simp) ?_
     refine q9 rfl (fun K hK=> ?_)
     refine fA _ _ rfl 34 rfl _ HW.o.2.2 rfl ?_
     have s3:=HS3.o s1
     refine hK.out _ _ s3 (fun _=> ?_)
     clear hK K
     try simp only[Act.put,F3,U3,V3]
     refine wpAnyH_ready (rs:=[22]) (by kernel_rfl) (by simp) ?_
     refine q9 rfl (fun K hK=> ?_)
     refine I6 rfl 34 (.tmp 4) (.tmp 30) rfl wC.heap.size 0 (q8 ⟨1+s.kind % 14,X9 s.frm,X9 s.dst,0,0,0,false,I7,l8,V7,[],[]⟩ I4 I4 I4 I4 I4).toArray rfl (by rfl) HQ.o.1 HQ.o.2.1 HQ.o.2.2.1 ?_
     refine hK.out _ _ (HQ.o.2.2.2.1 s3) (fun _=> ?_)
     clear hK K
     try simp only[Act.put,F3,U3,V3]
     refine wpAnyH_done (by kernel_rfl) ?_ _
     go_wp2_with fail
     go_meet
     exact⟨rfl,HQ.o.2.2.2.2.1,HQ.o.2.2.2.2.2⟩
    ·skip
     refine fA _ _ rfl 34 rfl _ HW.o.2.2 rfl ?_
     have s3:=HS3.o s1
     refine hK.out _ _ s3 (fun _=> ?_)
     clear hK K
     try simp only[Act.put,F3,U3,V3]
     refine wpAnyH_ready (rs:=[17]) (by kernel_rfl) (by simp) ?_
     refine q9 rfl (fun K hK=> ?_)
     go_simp
     refine (l9 s.dst 10 hs.d.1 hs.d.2 (by omega) (by omega) _).mono ?_
     rintro e w' ⟨rfl,rfl⟩
     rw[HD.o]
     go_wp2_with fail
     refine hK.out _ _ s3 (fun _=> ?_)
     clear hK K
     try simp only[Act.put,F3,U3,V3]
     refine FB 18 ⟨_,_,_,_,_,_⟩ _ s3 ?_
     try simp only[Act.put,F3,U3,V3]
     refine FB 19 ⟨_,_,_,_,_,_⟩ _ s3 ?_
     try simp only[Act.put,F3,U3,V3]
     refine FB 20 ⟨_,_,_,_,_,_⟩ _ s3 ?_
     try simp only[Act.put,F3,U3,V3]
     refine wpAnyH_ready (rs:=[22]) (by kernel_rfl) (by simp) ?_
     refine q9 rfl (fun K hK=> ?_)
     refine I6 rfl 34 (.tmp 4) (.tmp 30) rfl wC.heap.size 0 (q8 ⟨1+s.kind % 14,X9 s.frm,X9 s.dst,0,0,0,false,I7,l8,V7,[],[]⟩ I4 I4 I4 I4 I4).toArray rfl (by rfl) HQ.o.1 HQ.o.2.1 HQ.o.2.2.1 ?_
     refine hK.out _ _ (HQ.o.2.2.2.1 s3) (fun _=> ?_)
     clear hK K
     try simp only[Act.put,F3,U3,V3]
     refine wpAnyH_done (by kernel_rfl) ?_ _
     go_wp2_with fail
     go_meet
     exact⟨rfl,HQ.o.2.2.2.2.1,HQ.o.2.2.2.2.2⟩
   ·skip
    refine fA _ _ rfl 34 rfl _ HW.o.2.2 rfl ?_
    have s3:=HS3.o s1
    refine hK.out _ _ s3 (fun _=> ?_)
    clear hK K
    try simp only[Act.put,F3,U3,V3]
    refine wpAnyH_ready (rs:=[9]) (by kernel_rfl) (by simp) ?_
    refine q9 rfl (fun K hK=> ?_)
    go_simp
    refine (l9 s.frm 10 hs.f.1 hs.f.2 (by omega) (by omega) _).mono ?_
    rintro e w' ⟨rfl,rfl⟩
    rw[HF.o]
    go_wp2_with fail
    refine hK.out _ _ s3 (fun _=> ?_)
    clear hK K
    try simp only[Act.put,F3,U3,V3]
    refine FB 10 ⟨_,_,_,_,_,_⟩ _ s3 ?_
    try simp only[Act.put,F3,U3,V3]
    refine FB 11 ⟨_,_,_,_,_,_⟩ _ s3 ?_
    try simp only[Act.put,F3,U3,V3]
    refine wpAnyH_ready (rs:=[17]) (by kernel_rfl) (by simp) ?_
    refine q9 rfl (fun K hK=> ?_)
    go_simp
    refine (l9 s.dst 10 hs.d.1 hs.d.2 (by omega) (by omega) _).mono ?_
    rintro e w' ⟨rfl,rfl⟩
    rw[HD.o]
    go_wp2_with fail
    refine hK.out _ _ s3 (fun _=> ?_)
    clear hK K
    try simp only[Act.put,F3,U3,V3]
    refine FB 18 ⟨_,_,_,_,_,_⟩ _ s3 ?_
    try simp only[Act.put,F3,U3,V3]
    refine FB 19 ⟨_,_,_,_,_,_⟩ _ s3 ?_
    try simp only[Act.put,F3,U3,V3]
    refine FB 20 ⟨_,_,_,_,_,_⟩ _ s3 ?_
    try simp only[Act.put,F3,U3,V3]
    refine wpAnyH_ready (rs:=[22]) (by kernel_rfl) (by simp) ?_
    refine q9 rfl (fun K hK=> ?_)
    refine I6 rfl 34 (.tmp 4) (.tmp 30) rfl wC.heap.size 0 (q8 ⟨1+s.kind % 14,X9 s.frm,X9 s.dst,0,0,0,false,I7,l8,V7,[],[]⟩ I4 I4 I4 I4 I4).toArray rfl (by rfl) HQ.o.1 HQ.o.2.1 HQ.o.2.2.1 ?_
    refine hK.out _ _ (HQ.o.2.2.2.1 s3) (fun _=> ?_)
    clear hK K
    try simp only[Act.put,F3,U3,V3]
    refine wpAnyH_done (by kernel_rfl) ?_ _
    go_wp2_with fail
    go_meet
    exact⟨rfl,HQ.o.2.2.2.2.1,HQ.o.2.2.2.2.2⟩
  ·skip
   refine fA _ _ rfl 34 rfl _ HW.o.2.2 rfl ?_
   have s3:=HS3.o s1
   refine hK.out _ _ s3 (fun _=> ?_)
   clear hK K
   try simp only[Act.put,F3,U3,V3]
   refine wpAnyH_ready (rs:=[2]) (by kernel_rfl) (by simp) ?_
   refine q9 rfl (fun K hK=> ?_)
   go_simp
   refine (l9 s.kind 14 hs.k.1 hs.k.2 (by omega) (by omega) _).mono ?_
   rintro e w' ⟨rfl,rfl⟩
   go_wp2_with fail
   refine hK.out _ _ s3 (fun _=> ?_)
   clear hK K
   try simp only[Act.put,F3,U3,V3]
   refine FB 3 ⟨_,_,_,_,_,_⟩ _ s3 ?_
   try simp only[Act.put,F3,U3,V3]
   refine wpAnyH_ready (rs:=[9]) (by kernel_rfl) (by simp) ?_
   refine q9 rfl (fun K hK=> ?_)
   go_simp
   refine (l9 s.frm 10 hs.f.1 hs.f.2 (by omega) (by omega) _).mono ?_
   rintro e w' ⟨rfl,rfl⟩
   rw[HF.o]
   go_wp2_with fail
   refine hK.out _ _ s3 (fun _=> ?_)
   clear hK K
   try simp only[Act.put,F3,U3,V3]
   refine FB 10 ⟨_,_,_,_,_,_⟩ _ s3 ?_
   try simp only[Act.put,F3,U3,V3]
   refine FB 11 ⟨_,_,_,_,_,_⟩ _ s3 ?_
   try simp only[Act.put,F3,U3,V3]
   refine wpAnyH_ready (rs:=[17]) (by kernel_rfl) (by simp) ?_
   refine q9 rfl (fun K hK=> ?_)
   go_simp
   refine (l9 s.dst 10 hs.d.1 hs.d.2 (by omega) (by omega) _).mono ?_
   rintro e w' ⟨rfl,rfl⟩
   rw[HD.o]
   go_wp2_with fail
   refine hK.out _ _ s3 (fun _=> ?_)
   clear hK K
   try simp only[Act.put,F3,U3,V3]
   refine FB 18 ⟨_,_,_,_,_,_⟩ _ s3 ?_
   try simp only[Act.put,F3,U3,V3]
   refine FB 19 ⟨_,_,_,_,_,_⟩ _ s3 ?_
   try simp only[Act.put,F3,U3,V3]
   refine FB 20 ⟨_,_,_,_,_,_⟩ _ s3 ?_
   try simp only[Act.put,F3,U3,V3]
   refine wpAnyH_ready (rs:=[22]) (by kernel_rfl) (by simp) ?_
   refine q9 rfl (fun K hK=> ?_)
   refine I6 rfl 34 (.tmp 4) (.tmp 30) rfl wC.heap.size 0 (q8 ⟨1+s.kind % 14,X9 s.frm,X9 s.dst,0,0,0,false,I7,l8,V7,[],[]⟩ I4 I4 I4 I4 I4).toArray rfl (by rfl) HQ.o.1 HQ.o.2.1 HQ.o.2.2.1 ?_
   refine hK.out _ _ (HQ.o.2.2.2.1 s3) (fun _=> ?_)
   clear hK K
   try simp only[Act.put,F3,U3,V3]
   refine wpAnyH_done (by kernel_rfl) ?_ _
   go_wp2_with fail
   go_meet
   exact⟨rfl,HQ.o.2.2.2.2.1,HQ.o.2.2.2.2.2⟩
 case rest=>
  obtain⟨rfl,hr,hk⟩:=hcut
  generalize wc=u at*
  have hg:w.heap.size+1<wC.heap.size:=(HN.o.2.1.row HR.o.2.1 (by simp)).lt
  have kw:=(HR.o.2.2.1.then HN.o.2.1 (by simp)).then hk (by simp)
  have M0:VH w u wC.heap.size Y Z (UB s) I4 I4 I4 I4 I4 []:=⟨hk.row (HN.o.2.1.row HR.o.1 (by simp)) (by simp),hk.row (HN.o.2.1.row HR.o.2.1 (by simp)) (by simp),hr,⟨j6,F6,G7.nil _ _,G7.nil _ _,F8.nil _ _,xA.nil _ _,G7.nil _ _⟩,fun y hy=>by simp at hy,kw,hg⟩
  obtain⟨tb,htb⟩:∃ t,wC.heap.size=t:=⟨_,rfl⟩
  rw[htb] at M0 ⊢
  have HM:=U0 M0
  clear hr hk hg kw M0 htb y0 y1 y2 y3 y4
  have bn0:=hs.n0
  have bn1:=hs.n1
  have bn4:=hs.n4
  unfold OA at bn0 bn1 bn4
  have z0:u.cell? ⟨w.heap.size,3,none⟩=some (.int .i64 s.n0):=(HM.o.sr.cell 3).trans (by rw[←HY.o];rfl)
  have z1:u.cell? ⟨w.heap.size,4,none⟩=some (.int .i64 s.n1):=(HM.o.sr.cell 4).trans (by rw[←HY.o];rfl)
  have z4:u.cell? ⟨w.heap.size,7,none⟩=some (.int .i64 s.n4):=(HM.o.sr.cell 7).trans (by rw[←HY.o];rfl)
  go_upto_region 3 with fail
  go_quiet ((first|(go_at_call 115;with_reducible exact Calls.quiet_of_same ((l9 s.n0 1125899906842624 bn0.1 bn0.2 (by omega) (by omega) _).mono (fun _ _ ⟨a,b⟩=>⟨a,b.symm⟩)))|(go_at_call 115;with_reducible exact Calls.quiet_of_same ((l9 s.n1 1125899906842624 bn1.1 bn1.2 (by omega) (by omega) _).mono (fun _ _ ⟨a,b⟩=>⟨a,b.symm⟩)))|(go_at_call 115;with_reducible exact Calls.quiet_of_same ((l9 s.n4 1125899906842624 bn4.1 bn4.2 (by omega) (by omega) _).mono (fun _ _ ⟨a,b⟩=>⟨a,b.symm⟩)))))
  go_upto_region 4 with fail
  have HM2:=U0 (HM.o.over ((U1.refl [] u).drewN nq))
  have z0:(u.drewN nq).cell? ⟨w.heap.size,3,none⟩=some (.int .i64 s.n0):=(HM2.o.sr.cell 3).trans (by rw[←HY.o];rfl)
  have z1:(u.drewN nq).cell? ⟨w.heap.size,4,none⟩=some (.int .i64 s.n1):=(HM2.o.sr.cell 4).trans (by rw[←HY.o];rfl)
  have z2:(u.drewN nq).cell? ⟨w.heap.size,5,none⟩=some (.int .i64 s.n2):=(HM2.o.sr.cell 5).trans (by rw[←HY.o];rfl)
  have z3:(u.drewN nq).cell? ⟨w.heap.size,6,none⟩=some (.int .i64 s.n3):=(HM2.o.sr.cell 6).trans (by rw[←HY.o];rfl)
  have z5:(u.drewN nq).cell? ⟨w.heap.size,8,none⟩=some v:=(HM2.o.sr.cell 8).trans (by rw[←HY.o];rfl)
  clear z4
  have hu2:=((U1.refl [] u).drewN nq)
  have ck:(u.drewN nq).cell? ⟨tb,0,none⟩=some (.int .i64 (1+s.kind % 14)):=(HM2.o.row.cell 0).trans rfl
  generalize u.drewN nq=u2 at*
  obtain⟨K,hK⟩:∃ K,1+s.kind % 14=K:=⟨_,rfl⟩
  rw[hK] at ck
  have hKs:K=1∨K=2∨K=3∨K=4∨K=5∨K=6∨K=7∨K=8∨K=9∨K=10∨K=11∨K=12∨K=13∨K=14:=by omega
  obtain⟨num,hnum⟩:∃ n,s.n0 % 1125899906842624=n:=⟨_,rfl⟩
  obtain⟨seq,hseq⟩:∃ n,s.n1 % 1125899906842624=n:=⟨_,rfl⟩
  obtain⟨bal,hbal⟩:∃ n,s.n4 % 1125899906842624=n:=⟨_,rfl⟩
  have bnum:0≤num∧num<1125899906842624:=by omega
  have bseq:0≤seq∧seq<1125899906842624:=by omega
  have bbal:0≤bal∧bal<1125899906842624:=by omega
  rw[hnum,hseq,hbal]
  have HNS:=U0 (U2 hnum (U2 hseq hbal))
  clear hnum hseq hbal
  have HKK:=U0 hK
  go_upto_block 0 with fail
  go_cut [44] (fun v44 wx=>∃ ev av cv vv bw G,VH w wx tb Y Z (GA s) ev av cv vv bw G)
  case first=>
   have y3:=(HM2.o.row.pk j6 F6).c3
   have y4:=(HM2.o.row.pk j6 F6).c4
   have y5:=(HM2.o.row.pk j6 F6).c5
   have y6:=(HM2.o.row.pk j6 F6).c6
   have f3:=HM2.o.row.free 3
   have f4:=HM2.o.row.free 4
   have f5:=HM2.o.row.free 5
   have f6:=HM2.o.row.free 6
   rcases hKs with rfl|rfl|rfl|rfl|rfl|rfl|rfl|rfl|rfl|rfl|rfl|rfl|rfl|rfl
   ·have E:=U0 (show GA s={UB s with req:=TF s} by (try rw[←HNS.o.1]);(try rw[←HNS.o.2.1]);(try rw[←HNS.o.2.2]);exact madeP1 s HKK.o)
    have hJs:(prog.info? 66).map (·.size)=some Y.length:=by rw[←HY.o];exact kQ
    have HL:=U0 (U2 HM2.o.sr.rangeAll hJs)
    have HRQ:=U0 (show Calls prog 116 #[.agg Y.toArray] u2 (fun e w'=>∃ ev G,e= .returned (.agg (U8 (TF s) ev).toArray)∧dH w' G (TF s) ev∧I9 u2 w' G∧U1 [] u2 w') by rw[←HY.o];exact qQ F s v u2 hs H41.o (hv.keep HM2.o.kp (by simp)))
    clear hJs
    go_wp2_with (first
     |(refine wpList_load_mid rfl 66 (.tmp 1) rfl w.heap.size 0 rfl _ _ HL.o.1 underlying66 rfl HL.o.2 ?_)
     |(go_at_call 116;refine HRQ.o.mono ?_;intro e u4 hq;obtain⟨ev,G,rfl,q1,q2,q3⟩:=hq;have H4:=U0 (U2 q1 (U2 q2 (HM2.o.over q3)));clear q1 q2 q3)
     |(refine wpList_store_mid rfl 26 (.tmp 49) (.tmp 48) rfl tb 7 (U8 (TF s) ev).toArray rfl rfl (H4.o.2.2.row.there (by simp only[U4];rw[O8 H4.o.1.1,G8 H4.o.2.2.val.rn H4.o.2.2.val.an];decide)) (by rw[U4,O8 H4.o.1.1];exact D9) (all_oneCell_toArray (fB _ H4.o.1.2.one)) ?_))
    go_meet
    have M4:=H4.o.2.2.setL 7 (U8 (TF s) ev) (mF (TF s) ev j6 H4.o.1.1) (F':=G) ⟨H4.o.1.1,F6,H4.o.1.2,G7.nil _ _,F8.nil _ _,xA.nil _ _,G7.nil _ _⟩ (fun y hy=>by have h1:=H4.o.2.1 y hy;have h2:=HM2.o.row.lt;omega)
    exact⟨_,_,_,_,_,_,by rw[E.o];exact M4⟩
   ·exact absurd HG.o (by rw[HKK.o];decide)
   ·have E:=U0 (show GA s={{{UB s with num:=num} with seq:=seq} with req:=TF s} by (try rw[←HNS.o.1]);(try rw[←HNS.o.2.1]);(try rw[←HNS.o.2.2]);exact madeP3 s HKK.o)
    have hJs:(prog.info? 66).map (·.size)=some Y.length:=by rw[←HY.o];exact kQ
    have HL:=U0 (U2 HM2.o.sr.rangeAll hJs)
    have HRQ:=U0 (show Calls prog 116 #[.agg Y.toArray] u2 (fun e w'=>∃ ev G,e= .returned (.agg (U8 (TF s) ev).toArray)∧dH w' G (TF s) ev∧I9 u2 w' G∧U1 [] u2 w') by rw[←HY.o];exact qQ F s v u2 hs H41.o (hv.keep HM2.o.kp (by simp)))
    clear hJs
    go_wp2_with (first
     |(refine wpList_load_mid rfl 66 (.tmp 1) rfl w.heap.size 0 rfl _ _ HL.o.1 underlying66 rfl HL.o.2 ?_)
     |(go_at_call 116;refine HRQ.o.mono ?_;intro e u4 hq;obtain⟨ev,G,rfl,q1,q2,q3⟩:=hq;have N0:=HM2.o.over q3;have N1:=N0.num num;have N2:=N1.seq seq;have g3:=(N0.row.pk j6 F6).c3;have e3:=N0.row.free 3;have g4:=(N1.row.pk j6 F6).c4;have e4:=N1.row.free 4;have H4:=U0 (U2 q1 (U2 q2 (U2 N2 q3)));clear q1 q2 q3 N0 N1 N2)
     |(refine wpList_store_mid rfl 26 (.tmp 88) (.tmp 85) rfl tb 7 (U8 (TF s) ev).toArray rfl rfl (H4.o.2.2.1.row.there (by simp only[U4];rw[O8 H4.o.1.1,G8 H4.o.2.2.1.val.rn H4.o.2.2.1.val.an];decide)) (by rw[U4,O8 H4.o.1.1];exact D9) (all_oneCell_toArray (fB _ H4.o.1.2.one)) ?_))
    go_meet
    have kz:=H4.o.2.2.1.kp
    have k2:=(xC u4 tb 3 (.int .i64 num)).then (xC (u4.setCell ⟨tb,3,none⟩ (.int .i64 num)) tb 4 (.int .i64 seq)) (fun x hx=> .inl hx)
    have q1:dH ((u4.setCell ⟨tb,3,none⟩ (.int .i64 num)).setCell ⟨tb,4,none⟩ (.int .i64 seq)) G (TF s) ev:=⟨H4.o.1.1,H4.o.1.2.keep k2 (fun y hy=>by have h1:=(H4.o.2.1 y hy).1;have h2:=HM2.o.row.lt;simp;omega)⟩
    have M4:=H4.o.2.2.1.setL 7 (U8 (TF s) ev) (mF (TF s) ev j6 H4.o.1.1) (F':=G) ⟨H4.o.1.1,F6,q1.2,G7.nil _ _,F8.nil _ _,xA.nil _ _,G7.nil _ _⟩ (fun y hy=>by have h1:=H4.o.2.1 y hy;have h2:=HM2.o.row.lt;have h3:=k2.size;omega)
    exact⟨_,_,_,_,_,_,by rw[E.o];exact M4⟩
   ·have M1:=HM2.o.num num
    have g1:=(M1.row.pk j6 F6).c4
    have g2:=M1.row.free 4
    have E:=U0 (show GA s={{UB s with num:=num} with seq:=seq} by (try rw[←HNS.o.1]);(try rw[←HNS.o.2.1]);(try rw[←HNS.o.2.2]);exact madeP4 s HKK.o)
    have HM3:=U0 (M1.seq (seq))
    clear M1
    go_wp2_with fail
    go_meet
    exact⟨_,_,_,_,_,_,by rw[E.o];exact HM3.o⟩
   ·have M1:=HM2.o.num num
    have g1:=(M1.row.pk j6 F6).c4
    have g2:=M1.row.free 4
    have E:=U0 (show GA s={{UB s with num:=num} with seq:=seq-1} by (try rw[←HNS.o.1]);(try rw[←HNS.o.2.1]);(try rw[←HNS.o.2.2]);exact madeP5 s HKK.o)
    have hws:IntKind.i64.wrap (seq-1)=seq-1:=by rw[IntKind.wrap_i64];omega
    have HM3:=U0 (M1.seq (seq-1))
    clear M1
    go_wp2_with fail
    go_meet
    exact⟨_,_,_,_,_,_,by rw[E.o];exact HM3.o⟩
   ·exact absurd HG.o (by rw[HKK.o];decide)
   ·have E:=U0 (show GA s={UB s with conf:=vG s.n0 s.n1} by (try rw[←HNS.o.1]);(try rw[←HNS.o.2.1]);(try rw[←HNS.o.2.2]);exact madeP7 s HKK.o)
    go_wp2_with (first
     |(go_at_call 118;refine (KH s.n0 s.n1 hs.n0 hs.n1 (s.n1 % 1048576).toNat (by omega) _).mono ?_;rw[show UU (s.n0 % 1125899906842624) (s.n1 % 1048576).toNat=vG s.n0 s.n1 from rfl];intro e u4 hq;obtain⟨ev,G,rfl,q1,q2,q3⟩:=hq;have H4:=U0 (U2 q1 (U2 q2 (HM2.o.over q3)));clear q1 q2 q3)
     |(refine wpList_store_mid rfl 31 (.tmp 126) (.tmp 125) rfl tb 82 (bA (vG s.n0 s.n1) ev).toArray rfl rfl (H4.o.2.2.row.there (by simp only[U4];rw[G8 H4.o.2.2.val.rn H4.o.2.2.val.an];exact (by decide:82+3≤87))) S9 (all_oneCell_toArray (MC _ H4.o.1.one)) ?_))
    go_meet
    have M4:=H4.o.2.2.setL 82 (bA (vG s.n0 s.n1) ev) (JG (vG s.n0 s.n1) ev j6 F6) (F':=G) ⟨j6,F6,G7.nil _ _,G7.nil _ _,H4.o.1,xA.nil _ _,G7.nil _ _⟩ (fun y hy=>by have h1:=H4.o.2.1 y hy;have h2:=HM2.o.row.lt;omega)
    exact⟨_,_,_,_,_,_,by rw[E.o];exact M4⟩
   ·exact absurd HG.o (by rw[HKK.o];decide)
   ·have E:=U0 (show GA s=UB s by (try rw[←HNS.o.1]);(try rw[←HNS.o.2.1]);(try rw[←HNS.o.2.2]);exact madeP9 s HKK.o)
    go_wp2_with fail
    go_meet
    exact⟨_,_,_,_,_,_,by rw[E.o];exact HM2.o⟩
   ·have M1:=HM2.o.bal bal
    have g1:=(M1.row.pk j6 F6).c4
    have g2:=M1.row.free 4
    have E:=U0 (show GA s={{UB s with ballot:=bal} with seq:=seq} by (try rw[←HNS.o.1]);(try rw[←HNS.o.2.1]);(try rw[←HNS.o.2.2]);exact RV s HKK.o)
    have HM3:=U0 (M1.seq (seq))
    clear M1
    go_wp2_with fail
    go_meet
    exact⟨_,_,_,_,_,_,by rw[E.o];exact HM3.o⟩
   ·exact absurd HG.o (by rw[HKK.o];decide)
   ·have E:=U0 (show GA s={{{UB s with ballot:=bal} with seq:=seq} with conf:=vG s.n0 s.n1} by (try rw[←HNS.o.1]);(try rw[←HNS.o.2.1]);(try rw[←HNS.o.2.2]);exact VV s HKK.o)
    go_wp2_with (first
     |(go_at_call 118;refine (KH s.n0 s.n1 hs.n0 hs.n1 (s.n1 % 1048576).toNat (by omega) _).mono ?_;rw[show UU (s.n0 % 1125899906842624) (s.n1 % 1048576).toNat=vG s.n0 s.n1 from rfl];intro e u4 hq;obtain⟨ev,G,rfl,q1,q2,q3⟩:=hq;have N0:=HM2.o.over q3;have N1:=N0.bal bal;have N2:=N1.seq seq;have g3:=(N0.row.pk j6 F6).c5;have e3:=N0.row.free 5;have g4:=(N1.row.pk j6 F6).c4;have e4:=N1.row.free 4;have H4:=U0 (U2 q1 (U2 q2 (U2 N2 q3)));clear q1 q2 q3 N0 N1 N2)
     |(refine wpList_store_mid rfl 31 (.tmp 192) (.tmp 189) rfl tb 82 (bA (vG s.n0 s.n1) ev).toArray rfl rfl (H4.o.2.2.1.row.there (by simp only[U4];rw[G8 H4.o.2.2.1.val.rn H4.o.2.2.1.val.an];exact (by decide:82+3≤87))) S9 (all_oneCell_toArray (MC _ H4.o.1.one)) ?_))
    go_meet
    have k2:=(xC u4 tb 5 (.int .i64 bal)).then (xC (u4.setCell ⟨tb,5,none⟩ (.int .i64 bal)) tb 4 (.int .i64 seq)) (fun x hx=> .inl hx)
    have q1:=H4.o.1.keep k2 (fun y hy=>by have h1:=(H4.o.2.1 y hy).1;have h2:=HM2.o.row.lt;simp;omega)
    have M4:=H4.o.2.2.1.setL 82 (bA (vG s.n0 s.n1) ev) (JG (vG s.n0 s.n1) ev j6 F6) (F':=G) ⟨j6,F6,G7.nil _ _,G7.nil _ _,q1,xA.nil _ _,G7.nil _ _⟩ (fun y hy=>by have h1:=H4.o.2.1 y hy;have h2:=HM2.o.row.lt;have h3:=k2.size;omega)
    exact⟨_,_,_,_,_,_,by rw[E.o];exact M4⟩
   ·have M1:=HM2.o.bal bal
    have g1:=(M1.row.pk j6 F6).c4
    have g2:=M1.row.free 4
    have E:=U0 (show GA s={{UB s with ballot:=bal} with seq:=seq} by (try rw[←HNS.o.1]);(try rw[←HNS.o.2.1]);(try rw[←HNS.o.2.2]);exact WV s HKK.o)
    have HM3:=U0 (M1.seq (seq))
    clear M1
    go_wp2_with fail
    go_meet
    exact⟨_,_,_,_,_,_,by rw[E.o];exact HM3.o⟩
   ·have E:=U0 (show GA s={UB s with ballot:=bal} by (try rw[←HNS.o.1]);(try rw[←HNS.o.2.1]);(try rw[←HNS.o.2.2]);exact XV s HKK.o)
    go_wp2_with fail
    go_meet
    exact⟨_,_,_,_,_,_,by rw[E.o];exact HM2.o.bal bal⟩
  case rest=>
   obtain⟨ev,av,cv,vv,bw,G,hM⟩:=hcut
   generalize wc=u5 at*
   obtain⟨XL,hXL⟩:∃ XL,q8 (GA s) ev av cv vv bw=XL:=⟨_,rfl⟩
   have xl:XL.length=87:=by rw[←hXL];exact G8 hM.val.rn hM.val.an
   have xo:∀ y∈XL,y.oneCell'=true:=by rw[←hXL];exact yA hM.val.re.one hM.val.ae.one hM.val.cc.one hM.val.vs.one hM.val.bs.one
   have hrow:=hM.row
   rw[hXL] at hrow
   have rr:=hM.zr.setL (vs:=XL) (o:=0)
   rw[F7 (by rw[xl,U4];exact HR.o.2.2.2.symm)] at rr
   have ht:=hM.zr.there (o:=0) (n:=XL.toArray.size) (by simp only[U4];have:=HR.o.2.2.2;omega)
   have hJ:(prog.info? 34).map (·.size)=some XL.toArray.size:=by rw[U4,xl];exact I5
   have hJl:(prog.info? 34).map (·.size)=some XL.length:=by rw[xl];exact I5
   have HS:=U0 (U2 hrow.rangeAll (U2 rr (U2 ht (U2 hJl (U2 hJ (all_oneCell_toArray xo))))))
   have HX:=U0 (U2 hXL hM)
   clear hrow rr ht hJ hJl xl xo hXL hM
   go_wp2_with (first
    |(refine wpList_load_mid rfl 34 (.tmp 4) rfl tb 0 rfl _ _ HS.o.1 underlying34 rfl HS.o.2.2.2.1 ?_)
    |(refine wpList_store_mid rfl 34 (.tmp 2) (.tmp 197) rfl (w.heap.size+1) 0 XL.toArray rfl rfl HS.o.2.2.1 HS.o.2.2.2.2.1 HS.o.2.2.2.2.2 ?_))
   refine bodyPost_ret (results_cell_row rfl _ _ (w.heap.size+1) 34 _ (0,0) _ rfl HS.o.2.1 underlying34 rfl HS.o.2.2.2.2.1) rfl ?_
   have ks:=(U1.refl [w.heap.size+1] u5).setL (vs:=XL) (g:=w.heap.size+1) (o:=0) (by simp)
   have ksz:=ks.size
   refine⟨ev,av,cv,vv,bw,G,by rw[HX.o.1],HX.o.2.val.keep ks (fun y hy=>by have h1:=(HX.o.2.new y hy).1;have h2:=HX.o.2.gt;simp;omega),fun y hy=>⟨by have h1:=(HX.o.2.new y hy).1;have h2:=HX.o.2.gt;omega,by have h1:=(HX.o.2.new y hy).2;omega⟩,HX.o.2.kp.setL (.inr (by omega))⟩
end Go.Proofs.YthfdkonhjpdflaaGreatDoor
