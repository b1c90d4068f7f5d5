import Derived.Test.YthfdkonhjpdflaaGreatDoorMKB
import Derived.Test.YthfdkonhjpdflaaGreatDoorLow3
import Derived.Test.YthfdkonhjpdflaaGreatDoorMadeA
namespace Go.Proofs.YthfdkonhjpdflaaGreatDoor
open Go.RowKit Go.Proofs.Tryz
set_option linter.unusedVariables false
set_option maxRecDepth 100000
set_option linter.unusedSimpArgs false
set_option maxHeartbeats 16000000
theorem ZV (F:List Nat) (s:SD) (v:Value) (w:World) (hs:XU s) (h41:s.n2 % 4=1) (hv:G7 w F v s.b) (hg:1+s.kind % 14∈([2,6,8,11]:List Int)):
 Calls prog 39 #[.agg (sdL s v).toArray] w (MADE s w):=by
 have HG:=U0 hg
 have H41:=U0 h41
 clear hg h41
 obtain⟨Z,hZ⟩:∃ Z,q8 G9 I4 I4 I4 I4 I4=Z:=⟨_,rfl⟩
 have zv:=KE
 have zl:Z.length=87:=by rw[←hZ];exact IC
 rw[hZ] at zv
 obtain⟨Y,hY⟩:∃ Y,sdL s v=Y:=⟨_,rfl⟩
 obtain⟨wA,hwA⟩:∃ wA,w.alloc (.cells Y.toArray 66)=wA:=⟨_,rfl⟩
 obtain⟨wB,hwB⟩:∃ wB,wA.alloc (.cells Z.toArray 34)=wB:=⟨_,rfl⟩
 have rA:=l5.new w 66 Y.toArray
 have rB:=l5.new wA 34 Z.toArray
 have kA:=(U1.refl [] w).alloc (.cells Y.toArray 66)
 have kB:=(U1.refl [] wA).alloc (.cells Z.toArray 34)
 rw[hwA] at rA kA
 rw[hwB] at rB kB
 have rA3:=kB.row rA (by simp)
 have kk:=kA.then kB (by simp)
 have hA1:wA.heap.size=w.heap.size+1:=by rw[←hwA];simp
 rw[hA1] at rB
 have HW:=U0 (U2 hwA (U2 hwB zv))
 have HR:=U0 (U2 rA3 (U2 rB (U2 kk zl)))
 rw[hY]
 have HY:=U0 hY
 have HZ:=U0 hZ
 clear hwA hwB zv rA rB kA kB rA3 kk zl hZ hY
 obtain⟨fa,hfa⟩:∃ a:Nat,s.frm % 10=(a:Int):=⟨(s.frm % 10).toNat,by omega⟩
 obtain⟨da,hda⟩:∃ a:Nat,s.dst % 10=(a:Int):=⟨(s.dst % 10).toNat,by omega⟩
 have fa10:fa<10:=by omega
 have da10:da<10:=by omega
 have fa10':(fa:Int)<10:=by omega
 have da10':(da:Int)<10:=by omega
 have HF:=U0 hfa
 have HD:=U0 hda
 have hw1:IntKind.i64.wrap (1+s.kind % 14)=1+s.kind % 14:=Z8 _ (by omega) (by omega)
 go_enter func39,ntmps39
 go_upto_region 1 with (first
  |(with_reducible refine F5 _ _ rfl 34 rfl _ HW.o.2.2 rfl ?_))
 rw[HW.o.1,HW.o.2.1]
 go_upto_region 2 with (go_at_call 114;refine (kL _).mono ?_;intro e wC hq;obtain⟨nb,rfl,hn1,hn2,hn3⟩:=hq;have HN:=U0 (U2 hn1 (U2 hn2 hn3));clear hn1 hn2 hn3)
 have y0:wC.drew.cell? ⟨w.heap.size,0,none⟩=some (.int .i64 s.kind):=((HN.o.2.1.row HR.o.1 (by simp)).cell 0).trans (by rw[←HY.o];rfl)
 have y1:wC.drew.cell? ⟨w.heap.size,1,none⟩=some (.int .i64 s.frm):=((HN.o.2.1.row HR.o.1 (by simp)).cell 1).trans (by rw[←HY.o];rfl)
 have y2:wC.drew.cell? ⟨w.heap.size,2,none⟩=some (.int .i64 s.dst):=((HN.o.2.1.row HR.o.1 (by simp)).cell 2).trans (by rw[←HY.o];rfl)
 have y3:wC.drew.cell? ⟨nb,fa,none⟩=some (.int .i64 (X9 s.frm)):=(HN.o.1.cell fa).trans (WH hfa fa10)
 have y4:wC.drew.cell? ⟨nb,da,none⟩=some (.int .i64 (X9 s.dst)):=(HN.o.1.cell da).trans (WH hda da10)
 clear hfa hda
 go_cut [4] (fun v4 wx=>v4= .pointer (some ⟨wC.heap.size,0,none⟩)∧l5 wx wC.heap.size 34 (q8 ⟨1+s.kind % 14,X9 s.frm,X9 s.dst,0,0,0,false,I7,l8,V7,[],[]⟩ I4 I4 I4 I4 I4).toArray∧U1 [] wC wx)
 case first=>
  have s1:wC.drew.cell? ⟨w.heap.size,0,none⟩=some (.int .i64 s.kind)∧wC.drew.cell? ⟨w.heap.size,1,none⟩=some (.int .i64 s.frm)∧wC.drew.cell? ⟨w.heap.size,2,none⟩=some (.int .i64 s.dst)∧wC.drew.cell? ⟨nb,fa,none⟩=some (.int .i64 (X9 s.frm))∧wC.drew.cell? ⟨nb,da,none⟩=some (.int .i64 (X9 s.dst)):=⟨y0,y1,y2,y3,y4⟩
  clear y0 y1 y2 y3 y4
  refine wp_region_held_drew (S:=fun w'=>w'.cell? ⟨w.heap.size,0,none⟩=some (.int .i64 s.kind)∧w'.cell? ⟨w.heap.size,1,none⟩=some (.int .i64 s.frm)∧w'.cell? ⟨w.heap.size,2,none⟩=some (.int .i64 s.dst)∧w'.cell? ⟨nb,fa,none⟩=some (.int .i64 (X9 s.frm))∧w'.cell? ⟨nb,da,none⟩=some (.int .i64 (X9 s.dst))) (by kernel_rfl) s1 (fun _=> ?_)
  refine FB 0 ⟨_,_,_,_,_,_⟩ _ s1 ?_
  try simp only[Act.put,F3,U3,V3]
  refine FB 1 ⟨_,_,_,_,_,_⟩ _ s1 ?_
  try simp only[Act.put,F3,U3,V3]
  refine FB 4 ⟨_,_,_,_,_,_⟩ _ s1 ?_
  try simp only[Act.put,F3,U3,V3]
  refine FB 5 ⟨_,_,_,_,_,_⟩ _ s1 ?_
  try simp only[Act.put,F3,U3,V3]
  refine FB 6 ⟨_,_,_,_,_,_⟩ _ s1 ?_
  try simp only[Act.put,F3,U3,V3]
  refine FB 7 ⟨_,_,_,_,_,_⟩ _ s1 ?_
  try simp only[Act.put,F3,U3,V3]
  refine FB 8 ⟨_,_,_,_,_,_⟩ _ s1 ?_
  try simp only[Act.put,F3,U3,V3]
  refine FB 12 ⟨_,_,_,_,_,_⟩ _ s1 ?_
  try simp only[Act.put,F3,U3,V3]
  refine FB 13 ⟨_,_,_,_,_,_⟩ _ s1 ?_
  try simp only[Act.put,F3,U3,V3]
  refine FB 14 ⟨_,_,_,_,_,_⟩ _ s1 ?_
  try simp only[Act.put,F3,U3,V3]
  refine FB 15 ⟨_,_,_,_,_,_⟩ _ s1 ?_
  try simp only[Act.put,F3,U3,V3]
  refine FB 16 ⟨_,_,_,_,_,_⟩ _ s1 ?_
  try simp only[Act.put,F3,U3,V3]
  have HS3:V5 ((wC.drew.cell? ⟨w.heap.size,0,none⟩=some (.int .i64 s.kind)∧wC.drew.cell? ⟨w.heap.size,1,none⟩=some (.int .i64 s.frm)∧wC.drew.cell? ⟨w.heap.size,2,none⟩=some (.int .i64 s.dst)∧wC.drew.cell? ⟨nb,fa,none⟩=some (.int .i64 (X9 s.frm))∧wC.drew.cell? ⟨nb,da,none⟩=some (.int .i64 (X9 s.dst)))→(wC.drew.alloc (.cells Z.toArray 34)).cell? ⟨w.heap.size,0,none⟩=some (.int .i64 s.kind)∧(wC.drew.alloc (.cells Z.toArray 34)).cell? ⟨w.heap.size,1,none⟩=some (.int .i64 s.frm)∧(wC.drew.alloc (.cells Z.toArray 34)).cell? ⟨w.heap.size,2,none⟩=some (.int .i64 s.dst)∧(wC.drew.alloc (.cells Z.toArray 34)).cell? ⟨nb,fa,none⟩=some (.int .i64 (X9 s.frm))∧(wC.drew.alloc (.cells Z.toArray 34)).cell? ⟨nb,da,none⟩=some (.int .i64 (X9 s.dst))):=U0 (fun h=>by
   have ka:=(U1.refl [] wC.drew).alloc (.cells Z.toArray 34)
   exact⟨(ka.cell (p:=⟨w.heap.size,0,none⟩) (World.block_lt_of_cell? _ _ h.1) (by simp)).trans h.1,(ka.cell (p:=⟨w.heap.size,1,none⟩) (World.block_lt_of_cell? _ _ h.2.1) (by simp)).trans h.2.1,(ka.cell (p:=⟨w.heap.size,2,none⟩) (World.block_lt_of_cell? _ _ h.2.2.1) (by simp)).trans h.2.2.1,(ka.cell (p:=⟨nb,fa,none⟩) (World.block_lt_of_cell? _ _ h.2.2.2.1) (by simp)).trans h.2.2.2.1,(ka.cell (p:=⟨nb,da,none⟩) (World.block_lt_of_cell? _ _ h.2.2.2.2) (by simp)).trans h.2.2.2.2⟩)
  have HQ:V5 ((wC.drew.alloc (.cells Z.toArray 34)).there wC.heap.size 0 (q8 ⟨1+s.kind % 14,X9 s.frm,X9 s.dst,0,0,0,false,I7,l8,V7,[],[]⟩ I4 I4 I4 I4 I4).toArray.size∧(prog.info? 34).map (·.size)=some (q8 ⟨1+s.kind % 14,X9 s.frm,X9 s.dst,0,0,0,false,I7,l8,V7,[],[]⟩ I4 I4 I4 I4 I4).toArray.size∧((q8 ⟨1+s.kind % 14,X9 s.frm,X9 s.dst,0,0,0,false,I7,l8,V7,[],[]⟩ I4 I4 I4 I4 I4).toArray.all fun x=>x.oneCell')=true∧(((wC.drew.alloc (.cells Z.toArray 34)).cell? ⟨w.heap.size,0,none⟩=some (.int .i64 s.kind)∧(wC.drew.alloc (.cells Z.toArray 34)).cell? ⟨w.heap.size,1,none⟩=some (.int .i64 s.frm)∧(wC.drew.alloc (.cells Z.toArray 34)).cell? ⟨w.heap.size,2,none⟩=some (.int .i64 s.dst)∧(wC.drew.alloc (.cells Z.toArray 34)).cell? ⟨nb,fa,none⟩=some (.int .i64 (X9 s.frm))∧(wC.drew.alloc (.cells Z.toArray 34)).cell? ⟨nb,da,none⟩=some (.int .i64 (X9 s.dst)))→((wC.drew.alloc (.cells Z.toArray 34)).setCells wC.heap.size 0 (q8 ⟨1+s.kind % 14,X9 s.frm,X9 s.dst,0,0,0,false,I7,l8,V7,[],[]⟩ I4 I4 I4 I4 I4)).cell? ⟨w.heap.size,0,none⟩=some (.int .i64 s.kind)∧((wC.drew.alloc (.cells Z.toArray 34)).setCells wC.heap.size 0 (q8 ⟨1+s.kind % 14,X9 s.frm,X9 s.dst,0,0,0,false,I7,l8,V7,[],[]⟩ I4 I4 I4 I4 I4)).cell? ⟨w.heap.size,1,none⟩=some (.int .i64 s.frm)∧((wC.drew.alloc (.cells Z.toArray 34)).setCells wC.heap.size 0 (q8 ⟨1+s.kind % 14,X9 s.frm,X9 s.dst,0,0,0,false,I7,l8,V7,[],[]⟩ I4 I4 I4 I4 I4)).cell? ⟨w.heap.size,2,none⟩=some (.int .i64 s.dst)∧((wC.drew.alloc (.cells Z.toArray 34)).setCells wC.heap.size 0 (q8 ⟨1+s.kind % 14,X9 s.frm,X9 s.dst,0,0,0,false,I7,l8,V7,[],[]⟩ I4 I4 I4 I4 I4)).cell? ⟨nb,fa,none⟩=some (.int .i64 (X9 s.frm))∧((wC.drew.alloc (.cells Z.toArray 34)).setCells wC.heap.size 0 (q8 ⟨1+s.kind % 14,X9 s.frm,X9 s.dst,0,0,0,false,I7,l8,V7,[],[]⟩ I4 I4 I4 I4 I4)).cell? ⟨nb,da,none⟩=some (.int .i64 (X9 s.dst)))∧l5 ((wC.drew.alloc (.cells Z.toArray 34)).setCells wC.heap.size 0 (q8 ⟨1+s.kind % 14,X9 s.frm,X9 s.dst,0,0,0,false,I7,l8,V7,[],[]⟩ I4 I4 I4 I4 I4)) wC.heap.size 34 (q8 ⟨1+s.kind % 14,X9 s.frm,X9 s.dst,0,0,0,false,I7,l8,V7,[],[]⟩ I4 I4 I4 I4 I4).toArray∧U1 [] wC ((wC.drew.alloc (.cells Z.toArray 34)).setCells wC.heap.size 0 (q8 ⟨1+s.kind % 14,X9 s.frm,X9 s.dst,0,0,0,false,I7,l8,V7,[],[]⟩ I4 I4 I4 I4 I4))):=U0 (by
   have ql:(q8 ⟨1+s.kind % 14,X9 s.frm,X9 s.dst,0,0,0,false,I7,l8,V7,[],[]⟩ I4 I4 I4 I4 I4).length=87:=G8 j6 F6
   have qo:∀ u∈(q8 ⟨1+s.kind % 14,X9 s.frm,X9 s.dst,0,0,0,false,I7,l8,V7,[],[]⟩ I4 I4 I4 I4 I4),u.oneCell'=true:=yA rfl rfl rfl rfl rfl
   generalize (q8 ⟨1+s.kind % 14,X9 s.frm,X9 s.dst,0,0,0,false,I7,l8,V7,[],[]⟩ I4 I4 I4 I4 I4)=QL at ql qo ⊢
   have rn:l5 (wC.drew.alloc (.cells Z.toArray 34)) wC.heap.size 34 Z.toArray:=l5.new wC.drew _ _
   have kn:=((U1.refl [] wC).drew).alloc (.cells Z.toArray 34)
   have rs:=rn.setL (vs:=QL) (o:=0)
   rw[F7 (by rw[ql,U4];exact HR.o.2.2.2.symm)] at rs
   have ks:=(U1.refl [wC.heap.size] (wC.drew.alloc (.cells Z.toArray 34))).setL (vs:=QL) (g:=wC.heap.size) (o:=0) (by simp)
   have hg:w.heap.size<wC.heap.size:=(HN.o.2.1.row HR.o.1 (by simp)).lt
   have hg2:nb<wC.heap.size:=HN.o.1.lt
   refine⟨rn.there (by simp only[U4];have:=HR.o.2.2.2;omega),by rw[U4,ql];exact I5,all_oneCell_toArray qo,fun h=>⟨(ks.cell (p:=⟨w.heap.size,0,none⟩) (World.block_lt_of_cell? _ _ h.1) (by simp;omega)).trans h.1,(ks.cell (p:=⟨w.heap.size,1,none⟩) (World.block_lt_of_cell? _ _ h.2.1) (by simp;omega)).trans h.2.1,(ks.cell (p:=⟨w.heap.size,2,none⟩) (World.block_lt_of_cell? _ _ h.2.2.1) (by simp;omega)).trans h.2.2.1,(ks.cell (p:=⟨nb,fa,none⟩) (World.block_lt_of_cell? _ _ h.2.2.2.1) (by simp;omega)).trans h.2.2.2.1,(ks.cell (p:=⟨nb,da,none⟩) (World.block_lt_of_cell? _ _ h.2.2.2.2) (by simp;omega)).trans h.2.2.2.2⟩,rs,kn.setL (.inr (Nat.le_refl _))⟩)
  refine wpAnyH_ready (rs:=[2,21]) (by kernel_rfl) (by simp) ?_
  refine AllReadyH.cons (o:=⟨_,_,_,_,_,_⟩) rfl (fun K hK=> ?_) (q9 rfl (fun K hK=> ?_))
  ·skip
   go_simp
   refine (l9 s.kind 14 hs.k.1 hs.k.2 (by omega) (by omega) _).mono ?_
   rintro e w' ⟨rfl,rfl⟩
   go_wp2_with fail
   refine hK.out _ _ s1 (fun _=> ?_)
   clear hK K
   try simp only[Act.put,F3,U3,V3]
   refine FB 3 ⟨_,_,_,_,_,_⟩ _ s1 ?_
   try simp only[Act.put,F3,U3,V3]
   refine wpAnyH_ready (rs:=[9,21]) (by kernel_rfl) (by simp) ?_
   refine AllReadyH.cons (o:=⟨_,_,_,_,_,_⟩) rfl (fun K hK=> ?_) (q9 rfl (fun K hK=> ?_))
   ·skip
    go_simp
    refine (l9 s.frm 10 hs.f.1 hs.f.2 (by omega) (by omega) _).mono ?_
    rintro e w' ⟨rfl,rfl⟩
    rw[HF.o]
    go_wp2_with fail
    refine hK.out _ _ s1 (fun _=> ?_)
    clear hK K
    try simp only[Act.put,F3,U3,V3]
    refine FB 10 ⟨_,_,_,_,_,_⟩ _ s1 ?_
    try simp only[Act.put,F3,U3,V3]
    refine FB 11 ⟨_,_,_,_,_,_⟩ _ s1 ?_
    try simp only[Act.put,F3,U3,V3]
    refine wpAnyH_ready (rs:=[17,21]) (by kernel_rfl) (by simp) ?_
    refine AllReadyH.cons (o:=⟨_,_,_,_,_,_⟩) rfl (fun K hK=> ?_) (q9 rfl (fun K hK=> ?_))
    ·skip
     go_simp
     refine (l9 s.dst 10 hs.d.1 hs.d.2 (by omega) (by omega) _).mono ?_
     rintro e w' ⟨rfl,rfl⟩
     rw[HD.o]
     go_wp2_with fail
     refine hK.out _ _ s1 (fun _=> ?_)
     clear hK K
     try simp only[Act.put,F3,U3,V3]
     refine FB 18 ⟨_,_,_,_,_,_⟩ _ s1 ?_
     try simp only[Act.put,F3,U3,V3]
     refine FB 19 ⟨_,_,_,_,_,_⟩ _ s1 ?_
     try simp only[Act.put,F3,U3,V3]
     refine FB 20 ⟨_,_,_,_,_,_⟩ _ s1 ?_
     try simp only[Act.put,F3,U3,V3]
     refine wpAnyH_ready (rs:=[21]) (by kernel_rfl) (by simp) ?_
     refine q9 rfl (fun K hK=> ?_)
     refine fA _ _ rfl 34 rfl _ HW.o.2.2 rfl ?_
     have s3:=HS3.o s1
     refine hK.out _ _ s3 (fun _=> ?_)
     clear hK K
     try simp only[Act.put,F3,U3,V3]
     refine wpAnyH_ready (rs:=[22]) (by kernel_rfl) (by simp) ?_
     refine q9 rfl (fun K hK=> ?_)
     refine I6 rfl 34 (.tmp 4) (.tmp 30) rfl wC.heap.size 0 (q8 ⟨1+s.kind % 14,X9 s.frm,X9 s.dst,0,0,0,false,I7,l8,V7,[],[]⟩ I4 I4 I4 I4 I4).toArray rfl (by rfl) HQ.o.1 HQ.o.2.1 HQ.o.2.2.1 ?_
     refine hK.out _ _ (HQ.o.2.2.2.1 s3) (fun _=> ?_)
     clear hK K
     try simp only[Act.put,F3,U3,V3]
     refine wpAnyH_done (by kernel_rfl) ?_ _
     go_wp2_with fail
     go_meet
     exact⟨rfl,HQ.o.2.2.2.2.1,HQ.o.2.2.2.2.2⟩
    ·skip
     refine fA _ _ rfl 34 rfl _ HW.o.2.2 rfl ?_
     have s3:=HS3.o s1
     refine hK.out _ _ s3 (fun _=> ?_)
     clear hK K
     try simp only[Act.put,F3,U3,V3]
     refine wpAnyH_ready (rs:=[17]) (by kernel_rfl) (by simp) ?_
     refine q9 rfl (fun K hK=> ?_)
     go_simp
     refine (l9 s.dst 10 hs.d.1 hs.d.2 (by omega) (by omega) _).mono ?_
     rintro e w' ⟨rfl,rfl⟩
     rw[HD.o]
     go_wp2_with fail
     refine hK.out _ _ s3 (fun _=> ?_)
     clear hK K
     try simp only[Act.put,F3,U3,V3]
     refine FB 18 ⟨_,_,_,_,_,_⟩ _ s3 ?_
     try simp only[Act.put,F3,U3,V3]
     refine FB 19 ⟨_,_,_,_,_,_⟩ _ s3 ?_
     try simp only[Act.put,F3,U3,V3]
     refine FB 20 ⟨_,_,_,_,_,_⟩ _ s3 ?_
     try simp only[Act.put,F3,U3,V3]
     refine wpAnyH_ready (rs:=[22]) (by kernel_rfl) (by simp) ?_
     refine q9 rfl (fun K hK=> ?_)
     refine I6 rfl 34 (.tmp 4) (.tmp 30) rfl wC.heap.size 0 (q8 ⟨1+s.kind % 14,X9 s.frm,X9 s.dst,0,0,0,false,I7,l8,V7,[],[]⟩ I4 I4 I4 I4 I4).toArray rfl (by rfl) HQ.o.1 HQ.o.2.1 HQ.o.2.2.1 ?_
     refine hK.out _ _ (HQ.o.2.2.2.1 s3) (fun _=> ?_)
     clear hK K
     try simp only[Act.put,F3,U3,V3]
     refine wpAnyH_done (by kernel_rfl) ?_ _
     go_wp2_with fail
     go_meet
     exact⟨rfl,HQ.o.2.2.2.2.1,HQ.o.2.2.2.2.2⟩
   ·skip
    refine fA _ _ rfl 34 rfl _ HW.o.2.2 rfl ?_
    have s3:=HS3.o s1
    refine hK.out _ _ s3 (fun _=> ?_)
    clear hK K
    try simp only[Act.put,F3,U3,V3]
    refine wpAnyH_ready (rs:=[9]) (by kernel_rfl) (by simp) ?_
    refine q9 rfl (fun K hK=> ?_)
    go_simp
    refine (l9 s.frm 10 hs.f.1 hs.f.2 (by omega) (by omega) _).mono ?_
    rintro e w' ⟨rfl,rfl⟩
    rw[HF.o]
    go_wp2_with fail
    refine hK.out _ _ s3 (fun _=> ?_)
    clear hK K
    try simp only[Act.put,F3,U3,V3]
    refine FB 10 ⟨_,_,_,_,_,_⟩ _ s3 ?_
    try simp only[Act.put,F3,U3,V3]
    refine FB 11 ⟨_,_,_,_,_,_⟩ _ s3 ?_
    try simp only[Act.put,F3,U3,V3]
    refine wpAnyH_ready (rs:=[17]) (by kernel_rfl) (by simp) ?_
    refine q9 rfl (fun K hK=> ?_)
    go_simp
    refine (l9 s.dst 10 hs.d.1 hs.d.2 (by omega) (by omega) _).mono ?_
    rintro e w' ⟨rfl,rfl⟩
    rw[HD.o]
    go_wp2_with fail
    refine hK.out _ _ s3 (fun _=> ?_)
    clear hK K
    try simp only[Act.put,F3,U3,V3]
    refine FB 18 ⟨_,_,_,_,_,_⟩ _ s3 ?_
    try simp only[Act.put,F3,U3,V3]
    refine FB 19 ⟨_,_,_,_,_,_⟩ _ s3 ?_
    try simp only[Act.put,F3,U3,V3]
    refine FB 20 ⟨_,_,_,_,_,_⟩ _ s3 ?_
    try simp only[Act.put,F3,U3,V3]
    refine wpAnyH_ready (rs:=[22]) (by kernel_rfl) (by simp) ?_
    refine q9 rfl (fun K hK=> ?_)
    refine I6 rfl 34 (.tmp 4) (.tmp 30) rfl wC.heap.size 0 (q8 ⟨1+s.kind % 14,X9 s.frm,X9 s.dst,0,0,0,false,I7,l8,V7,[],[]⟩ I4 I4 I4 I4 I4).toArray rfl (by rfl) HQ.o.1 HQ.o.2.1 HQ.o.2.2.1 ?_
    refine hK.out _ _ (HQ.o.2.2.2.1 s3) (fun _=> ?_)
    clear hK K
    try simp only[Act.put,F3,U3,V3]
    refine wpAnyH_done (by kernel_rfl) ?_ _
    go_wp2_with fail
    go_meet
    exact⟨rfl,HQ.o.2.2.2.2.1,HQ.o.2.2.2.2.2⟩
  ·skip
   refine fA _ _ rfl 34 rfl _ HW.o.2.2 rfl ?_
   have s3:=HS3.o s1
   refine hK.out _ _ s3 (fun _=> ?_)
   clear hK K
   try simp only[Act.put,F3,U3,V3]
   refine wpAnyH_ready (rs:=[2]) (by kernel_rfl) (by simp) ?_
   refine q9 rfl (fun K hK=> ?_)
   go_simp
   refine (l9 s.kind 14 hs.k.1 hs.k.2 (by omega) (by omega) _).mono ?_
   rintro e w' ⟨rfl,rfl⟩
   go_wp2_with fail
   refine hK.out _ _ s3 (fun _=> ?_)
   clear hK K
   try simp only[Act.put,F3,U3,V3]
   refine FB 3 ⟨_,_,_,_,_,_⟩ _ s3 ?_
   try simp only[Act.put,F3,U3,V3]
   refine wpAnyH_ready (rs:=[9]) (by kernel_rfl) (by simp) ?_
   refine q9 rfl (fun K hK=> ?_)
   go_simp
   refine (l9 s.frm 10 hs.f.1 hs.f.2 (by omega) (by omega) _).mono ?_
   rintro e w' ⟨rfl,rfl⟩
   rw[HF.o]
   go_wp2_with fail
   refine hK.out _ _ s3 (fun _=> ?_)
   clear hK K
   try simp only[Act.put,F3,U3,V3]
   refine FB 10 ⟨_,_,_,_,_,_⟩ _ s3 ?_
   try simp only[Act.put,F3,U3,V3]
   refine FB 11 ⟨_,_,_,_,_,_⟩ _ s3 ?_
   try simp only[Act.put,F3,U3,V3]
   refine wpAnyH_ready (rs:=[17]) (by kernel_rfl) (by simp) ?_
   refine q9 rfl (fun K hK=> ?_)
   go_simp
   refine (l9 s.dst 10 hs.d.1 hs.d.2 (by omega) (by omega) _).mono ?_
   rintro e w' ⟨rfl,rfl⟩
   rw[HD.o]
   go_wp2_with fail
   refine hK.out _ _ s3 (fun _=> ?_)
   clear hK K
   try simp only[Act.put,F3,U3,V3]
   refine FB 18 ⟨_,_,_,_,_,_⟩ _ s3 ?_
   try simp only[Act.put,F3,U3,V3]
   refine FB 19 ⟨_,_,_,_,_,_⟩ _ s3 ?_
   try simp only[Act.put,F3,U3,V3]
   refine FB 20 ⟨_,_,_,_,_,_⟩ _ s3 ?_
   try simp only[Act.put,F3,U3,V3]
   refine wpAnyH_ready (rs:=[22]) (by kernel_rfl) (by simp) ?_
   refine q9 rfl (fun K hK=> ?_)
   refine I6 rfl 34 (.tmp 4) (.tmp 30) rfl wC.heap.size 0 (q8 ⟨1+s.kind % 14,X9 s.frm,X9 s.dst,0,0,0,false,I7,l8,V7,[],[]⟩ I4 I4 I4 I4 I4).toArray rfl (by rfl) HQ.o.1 HQ.o.2.1 HQ.o.2.2.1 ?_
   refine hK.out _ _ (HQ.o.2.2.2.1 s3) (fun _=> ?_)
   clear hK K
   try simp only[Act.put,F3,U3,V3]
   refine wpAnyH_done (by kernel_rfl) ?_ _
   go_wp2_with fail
   go_meet
   exact⟨rfl,HQ.o.2.2.2.2.1,HQ.o.2.2.2.2.2⟩
 case rest=>
  obtain⟨rfl,hr,hk⟩:=hcut
  generalize wc=u at*
  have hg:w.heap.size+1<wC.heap.size:=(HN.o.2.1.row HR.o.2.1 (by simp)).lt
  have kw:=(HR.o.2.2.1.then HN.o.2.1 (by simp)).then hk (by simp)
  have M0:VH w u wC.heap.size Y Z (UB s) I4 I4 I4 I4 I4 []:=⟨hk.row (HN.o.2.1.row HR.o.1 (by simp)) (by simp),hk.row (HN.o.2.1.row HR.o.2.1 (by simp)) (by simp),hr,⟨j6,F6,G7.nil _ _,G7.nil _ _,F8.nil _ _,xA.nil _ _,G7.nil _ _⟩,fun y hy=>by simp at hy,kw,hg⟩
  obtain⟨tb,htb⟩:∃ t,wC.heap.size=t:=⟨_,rfl⟩
  rw[htb] at M0 ⊢
  have HM:=U0 M0
  clear hr hk hg kw M0 htb y0 y1 y2 y3 y4
  have bn0:=hs.n0
  have bn1:=hs.n1
  have bn4:=hs.n4
  unfold OA at bn0 bn1 bn4
  have z0:u.cell? ⟨w.heap.size,3,none⟩=some (.int .i64 s.n0):=(HM.o.sr.cell 3).trans (by rw[←HY.o];rfl)
  have z1:u.cell? ⟨w.heap.size,4,none⟩=some (.int .i64 s.n1):=(HM.o.sr.cell 4).trans (by rw[←HY.o];rfl)
  have z4:u.cell? ⟨w.heap.size,7,none⟩=some (.int .i64 s.n4):=(HM.o.sr.cell 7).trans (by rw[←HY.o];rfl)
  go_upto_region 3 with fail
  go_quiet ((first|(go_at_call 115;with_reducible exact Calls.quiet_of_same ((l9 s.n0 1125899906842624 bn0.1 bn0.2 (by omega) (by omega) _).mono (fun _ _ ⟨a,b⟩=>⟨a,b.symm⟩)))|(go_at_call 115;with_reducible exact Calls.quiet_of_same ((l9 s.n1 1125899906842624 bn1.1 bn1.2 (by omega) (by omega) _).mono (fun _ _ ⟨a,b⟩=>⟨a,b.symm⟩)))|(go_at_call 115;with_reducible exact Calls.quiet_of_same ((l9 s.n4 1125899906842624 bn4.1 bn4.2 (by omega) (by omega) _).mono (fun _ _ ⟨a,b⟩=>⟨a,b.symm⟩)))))
  go_upto_region 4 with fail
  have HM2:=U0 (HM.o.over ((U1.refl [] u).drewN nq))
  have z0:(u.drewN nq).cell? ⟨w.heap.size,3,none⟩=some (.int .i64 s.n0):=(HM2.o.sr.cell 3).trans (by rw[←HY.o];rfl)
  have z1:(u.drewN nq).cell? ⟨w.heap.size,4,none⟩=some (.int .i64 s.n1):=(HM2.o.sr.cell 4).trans (by rw[←HY.o];rfl)
  have z2:(u.drewN nq).cell? ⟨w.heap.size,5,none⟩=some (.int .i64 s.n2):=(HM2.o.sr.cell 5).trans (by rw[←HY.o];rfl)
  have z3:(u.drewN nq).cell? ⟨w.heap.size,6,none⟩=some (.int .i64 s.n3):=(HM2.o.sr.cell 6).trans (by rw[←HY.o];rfl)
  have z5:(u.drewN nq).cell? ⟨w.heap.size,8,none⟩=some v:=(HM2.o.sr.cell 8).trans (by rw[←HY.o];rfl)
  clear z4
  have hu2:=((U1.refl [] u).drewN nq)
  have ck:(u.drewN nq).cell? ⟨tb,0,none⟩=some (.int .i64 (1+s.kind % 14)):=(HM2.o.row.cell 0).trans rfl
  generalize u.drewN nq=u2 at*
  obtain⟨K,hK⟩:∃ K,1+s.kind % 14=K:=⟨_,rfl⟩
  rw[hK] at ck
  have hKs:K=1∨K=2∨K=3∨K=4∨K=5∨K=6∨K=7∨K=8∨K=9∨K=10∨K=11∨K=12∨K=13∨K=14:=by omega
  obtain⟨num,hnum⟩:∃ n,s.n0 % 1125899906842624=n:=⟨_,rfl⟩
  obtain⟨seq,hseq⟩:∃ n,s.n1 % 1125899906842624=n:=⟨_,rfl⟩
  obtain⟨bal,hbal⟩:∃ n,s.n4 % 1125899906842624=n:=⟨_,rfl⟩
  have bnum:0≤num∧num<1125899906842624:=by omega
  have bseq:0≤seq∧seq<1125899906842624:=by omega
  have bbal:0≤bal∧bal<1125899906842624:=by omega
  rw[hnum,hseq,hbal]
  have HNS:=U0 (U2 hnum (U2 hseq hbal))
  clear hnum hseq hbal
  have HKK:=U0 hK
  go_upto_block 0 with fail
  go_cut [44] (fun v44 wx=>∃ ev av cv vv bw G,VH w wx tb Y Z (GA s) ev av cv vv bw G)
  case first=>
   have y3:=(HM2.o.row.pk j6 F6).c3
   have y4:=(HM2.o.row.pk j6 F6).c4
   have y5:=(HM2.o.row.pk j6 F6).c5
   have y6:=(HM2.o.row.pk j6 F6).c6
   have f3:=HM2.o.row.free 3
   have f4:=HM2.o.row.free 4
   have f5:=HM2.o.row.free 5
   have f6:=HM2.o.row.free 6
   rcases hKs with rfl|rfl|rfl|rfl|rfl|rfl|rfl|rfl|rfl|rfl|rfl|rfl|rfl|rfl
   ·exact absurd HG.o (by rw[HKK.o];decide)
   ·have E:=U0 (show GA s={UB s with ans:=vI s} by (try rw[←HNS.o.1]);(try rw[←HNS.o.2.1]);(try rw[←HNS.o.2.2]);exact madeP2 s HKK.o)
    obtain⟨A,c,gb,rfl,hc,hm,hse,hgF⟩:=id hv
    obtain⟨n,hn⟩:∃ n,(s.b.take 1024).length=n:=⟨_,rfl⟩
    have e1:(if 1024<(s.b.length:Int) then 1024 else (s.b.length:Int))=(n:Int):=by rw[←hn,List.length_take];split<;>omega
    have hn1:n≤1024:=by rw[←hn,List.length_take];omega
    have hnc:n≤c:=by rw[←hn,List.length_take];omega
    have hcm:c≤9223372036854775807:=by unfold maxLen at hm;omega
    have E1:=U0 e1
    have HB:=U0 (fun w' (hk:U1 [] u2 w')=>(show G7 w' [gb] (.slice A n c) (s.b.take 1024) from⟨A,c,gb,by rw[hn],by rw[List.length_take];omega,hm,((hse.keep HM2.o.kp (by simp)).keep hk (by simp)).take 1024,fun _=>by simp⟩))
    have HN1:=U0 hn
    have HP:=U0 (fun w' (hk:U1 [tb] u2 w')=>(show w'.cell? ⟨w.heap.size,3,none⟩=some (.int .i64 s.n0)∧w'.cell? ⟨w.heap.size,5,none⟩=some (.int .i64 s.n2)∧w'.cell? ⟨w.heap.size,6,none⟩=some (.int .i64 s.n3)∧w'.cell? ⟨w.heap.size,8,none⟩=some (.slice A s.b.length c) from by
     have hr:=hk.row HM2.o.sr (by have:=HM2.o.gt;simp;omega)
     exact⟨(hr.cell 3).trans (by rw[←HY.o];rfl),(hr.cell 5).trans (by rw[←HY.o];rfl),(hr.cell 6).trans (by rw[←HY.o];rfl),(hr.cell 8).trans (by rw[←HY.o];rfl)⟩))
    have HV:=U0 (fun w' (hk:U1 [] u2 w')=>(hv.keep HM2.o.kp (by simp)).keep hk (by simp))
    have hws:IntKind.i64.wrap (1+seq)=1+seq:=Z8 _ (by omega) (by omega)
    clear e1 hn hse hgF z0 z1 z2 z3 z5
    go_upto_region 8 with fail
    refine wp_region_held_drew (S:=U1 [tb] u2) (by kernel_rfl) ((U1.refl [] u2).drew.more (by simp)) (fun _=> ?_)
    have kW:=(U1.refl [] u2).drew
    obtain⟨W0,hW0⟩:∃ W,u2.drew=W:=⟨_,rfl⟩
    rw[hW0] at kW ⊢
    clear hW0
    refine T9 0 ⟨_,_,_,_,_,_⟩ _ (kW.more (by simp)) ?_
    try simp only[Act.put,F3,U3,V3]
    refine T9 1 ⟨_,_,_,_,_,_⟩ _ (kW.more (by simp)) ?_
    try simp only[Act.put,F3,U3,V3]
    refine wpAnyH_take (i:=2) (oi:=⟨_,_,_,_,_,_⟩) (v:= ?_) rfl (by kernel_rfl) (by kernel_rfl) (by kernel_rfl) (fun _ _ _ h=>h) (Or.inl ⟨by rfl,?_⟩) (kW.more (by simp)) ?_
    rotate_left
    ·intro w' hSw;have xc:=(HP.o w' hSw).1;clear hSw;(go_simp;try with_reducible rfl)
    try simp only[Act.put,F3,U3,V3]
    refine T9 4 ⟨_,_,_,_,_,_⟩ _ (kW.more (by simp)) ?_
    try simp only[Act.put,F3,U3,V3]
    refine T9 5 ⟨_,_,_,_,_,_⟩ _ (kW.more (by simp)) ?_
    try simp only[Act.put,F3,U3,V3]
    refine T9 6 ⟨_,_,_,_,_,_⟩ _ (kW.more (by simp)) ?_
    try simp only[Act.put,F3,U3,V3]
    refine T9 7 ⟨_,_,_,_,_,_⟩ _ (kW.more (by simp)) ?_
    try simp only[Act.put,F3,U3,V3]
    refine wpAnyH_take (i:=8) (oi:=⟨_,_,_,_,_,_⟩) (v:= ?_) rfl (by kernel_rfl) (by kernel_rfl) (by kernel_rfl) (fun _ _ _ h=>h) (Or.inl ⟨by rfl,?_⟩) (kW.more (by simp)) ?_
    rotate_left
    ·intro w' hSw;have xc:=(HP.o w' hSw).2.1;clear hSw;(go_simp;try with_reducible rfl)
    try simp only[Act.put,F3,U3,V3]
    refine T9 10 ⟨_,_,_,_,_,_⟩ _ (kW.more (by simp)) ?_
    try simp only[Act.put,F3,U3,V3]
    refine T9 11 ⟨_,_,_,_,_,_⟩ _ (kW.more (by simp)) ?_
    try simp only[Act.put,F3,U3,V3]
    refine T9 12 ⟨_,_,_,_,_,_⟩ _ (kW.more (by simp)) ?_
    try simp only[Act.put,F3,U3,V3]
    refine wpAnyH_take (i:=13) (oi:=⟨_,_,_,_,_,_⟩) (v:= ?_) rfl (by kernel_rfl) (by kernel_rfl) (by kernel_rfl) (fun _ _ _ h=>h) (Or.inl ⟨by rfl,?_⟩) (kW.more (by simp)) ?_
    rotate_left
    ·intro w' hSw;have xc:=(HP.o w' hSw).2.2.1;clear hSw;(go_simp;try with_reducible rfl)
    try simp only[Act.put,F3,U3,V3]
    refine T9 15 ⟨_,_,_,_,_,_⟩ _ (kW.more (by simp)) ?_
    try simp only[Act.put,F3,U3,V3]
    refine wpAnyH_take (i:=16) (oi:=⟨_,_,_,_,_,_⟩) (v:= ?_) rfl (by kernel_rfl) (by kernel_rfl) (by kernel_rfl) (fun _ _ _ h=>h) (Or.inl ⟨by rfl,?_⟩) (kW.more (by simp)) ?_
    rotate_left
    ·intro w' hSw;have xc:=(HP.o w' hSw).2.2.2;clear hSw;(go_simp;try with_reducible rfl)
    try simp only[Act.put,F3,U3,V3]
    refine T9 18 ⟨_,_,_,_,_,_⟩ _ (kW.more (by simp)) ?_
    try simp only[Act.put,F3,U3,V3]
    refine wpAnyH_take (i:=19) (oi:=⟨_,_,_,_,_,_⟩) (v:= ?_) rfl (by kernel_rfl) (by kernel_rfl) (by kernel_rfl) (fun _ _ _ h=>h) (Or.inl ⟨by rfl,?_⟩) (kW.more (by simp)) ?_
    rotate_left
    ·intro w' hSw;have xc:=(HP.o w' hSw).2.2.2;clear hSw;(go_simp;try with_reducible rfl)
    try simp only[Act.put,F3,U3,V3]
    refine T9 20 ⟨_,_,_,_,_,_⟩ _ (kW.more (by simp)) ?_
    try simp only[Act.put,F3,U3,V3]
    refine wpAnyH_take (i:=21) (oi:=⟨_,_,_,_,_,_⟩) (v:= ?_) rfl (by kernel_rfl) (by kernel_rfl) (by kernel_rfl) (fun _ _ _ h=>h) (Or.inl ⟨by rfl,?_⟩) (kW.more (by simp)) ?_
    rotate_left
    ·intro w' hSw;have xc:=(HP.o w' hSw).2.2.2;clear hSw;(go_simp;try with_reducible rfl)
    try simp only[Act.put,F3,U3,V3]
    refine T9 22 ⟨_,_,_,_,_,_⟩ _ (kW.more (by simp)) ?_
    try simp only[Act.put,F3,U3,V3]
    refine wpAnyH_take (i:=23) (oi:=⟨_,_,_,_,_,_⟩) (v:=(.int .i64 (n:Int))) rfl (by kernel_rfl) (by kernel_rfl) (by kernel_rfl) (fun _ _ _ h=>h) (Or.inl ⟨by rfl,?_⟩) (kW.more (by simp)) ?_
    ·intro w' hSw;clear hSw;(go_simp;(try simp only[E1.o]);try with_reducible rfl)
    try simp only[Act.put,F3,U3,V3]
    refine wpAnyH_take (i:=24) (oi:=⟨_,_,_,_,_,_⟩) (v:=(.slice A n c)) rfl (by kernel_rfl) (by kernel_rfl) (by kernel_rfl) (fun _ _ _ h=>h) (Or.inl ⟨by rfl,?_⟩) (kW.more (by simp)) ?_
    ·intro w' hSw;clear hSw;(go_simp;try with_reducible rfl)
    try simp only[Act.put,F3,U3,V3]
    refine wpAnyH_ready (rs:=[3]) (by kernel_rfl) (by simp) ?_
    refine q9 rfl (fun K hK=> ?_)
    go_simp
    refine (l9 s.n0 3 hs.n0.1 hs.n0.2 (by omega) (by omega) _).mono ?_
    rintro e w' ⟨rfl,rfl⟩
    go_wp2_with fail
    refine hK.out _ _ (kW.more (by simp)) (fun _=> ?_)
    clear hK K
    try simp only[Act.put,F3,U3,V3]
    refine wpAnyH_ready (rs:=[9]) (by kernel_rfl) (by simp) ?_
    refine q9 rfl (fun K hK=> ?_)
    go_simp
    refine (l9 s.n2 4 hs.n2.1 hs.n2.2 (by omega) (by omega) _).mono ?_
    rintro e w' ⟨rfl,rfl⟩
    go_wp2_with fail
    refine hK.out _ _ (kW.more (by simp)) (fun _=> ?_)
    clear hK K
    try simp only[Act.put,F3,U3,V3]
    refine wpAnyH_ready (rs:=[14]) (by kernel_rfl) (by simp) ?_
    refine q9 rfl (fun K hK=> ?_)
    go_simp
    refine (l9 s.n3 256 hs.n3.1 hs.n3.2 (by omega) (by omega) _).mono ?_
    rintro e w' ⟨rfl,rfl⟩
    go_wp2_with fail
    refine hK.out _ _ (kW.more (by simp)) (fun _=> ?_)
    clear hK K
    try simp only[Act.put,F3,U3,V3]
    refine wpAnyH_ready (rs:=[17]) (by kernel_rfl) (by simp) ?_
    refine q9 rfl (fun K hK=> ?_)
    go_simp
    refine (GN F s.b _ _ (HV.o _ kW)).mono ?_
    rintro e w' ⟨rfl,kk⟩;replace kW:=kW.then kk (by simp);clear kk
    go_wp2_with fail
    refine hK.out _ _ (kW.more (by simp)) (fun _=> ?_)
    clear hK K
    try simp only[Act.put,F3,U3,V3]
    refine wpAnyH_ready (rs:=[25]) (by kernel_rfl) (by simp) ?_
    refine q9 rfl (fun K hK=> ?_)
    go_simp
    refine (dQ [gb] (.slice A n c) (s.b.take 1024) _ (HB.o _ kW) (by rw[HN1.o];omega)).mono ?_
    rintro e w5 ⟨ev,G,rfl,q1,q2,q3⟩;have kz:=kW.size;replace kW:=kW.then q3 (by simp);have H4:=U0 (U2 q1 (U2 q2 kz));clear q1 q2 q3 kz
    go_wp2_with fail
    refine hK.out _ _ (kW.more (by simp)) (fun _=> ?_)
    clear hK K
    try simp only[Act.put,F3,U3,V3]
    have han:(vI s).name.length=32:=iL _
    have M1:=HM2.o.over kW
    have M4:=M1.setL 44 (x9 (vI s) ev) (IG (vI s) ev j6 F6 han) (F':=G) ⟨j6,han,G7.nil _ _,H4.o.1,F8.nil _ _,xA.nil _ _,G7.nil _ _⟩ (fun y hy=>by have h1:=H4.o.2.1 y hy;have h2:=HM2.o.row.lt;have h3:=H4.o.2.2;omega)
    have ht:=M1.row.there (o:=44) (n:=(x9 (vI s) ev).toArray.size) (by simp only[U4];rw[y9 han,G8 M1.val.rn M1.val.an];decide)
    have hb:=fT (vI s) ev han H4.o.1.one
    have ho:=all_oneCell_toArray (IB (vI s) H4.o.1.one)
    have hi:(prog.info? 28).map (·.size)=some (x9 (vI s) ev).toArray.size:=by rw[U4,y9 han];exact Q9
    have kS:=((kW.more (by simp)):U1 [tb] u2 _).setL (vs:=x9 (vI s) ev) (g:=tb) (o:=44) (.inl (by simp))
    have hb2:prog.built 28 [(0,.int .i64 (s.n0 % 3)),(1,.int .i64 (1+seq)),(2,.int .i64 (s.n2 % 4)),(3,.int .i64 bal),(4,.int .i64 (s.n3 % 256)),(5,.agg (U7 (X8 (s.b.take 32))).toArray),(6,ev)]=some (x9 (vI s) ev).toArray:=by rw[←HNS.o.2.1,←HNS.o.2.2];exact hb
    obtain⟨XL,hXL⟩:∃ XL,x9 (vI s) ev=XL:=⟨_,rfl⟩
    rw[hXL] at M4 ht hb2 ho hi kS
    have HS:=U0 (U2 M4 (U2 ht (U2 hb2 (U2 ho (U2 hi kS)))))
    clear M1 M4 ht hb hb2 ho hi kS hXL
    refine wpAnyH_take (i:=26) (oi:=⟨_,_,_,_,_,_⟩) (v:= .agg XL.toArray) rfl (by kernel_rfl) (by kernel_rfl) (by kernel_rfl) (fun _ _ _ h=>h) (TG 28 _ rfl ?_ _ ?_) (kW.more (by simp)) ?_
    ·rfl
    ·simp only[List.map_toArray,List.map_cons,List.map_nil]
     go_simp
     exact HS.o.2.2.1
    try simp only[Act.put,F3,U3,V3]
    refine T9 27 ⟨_,_,_,_,_,_⟩ _ (kW.more (by simp)) ?_
    try simp only[Act.put,F3,U3,V3]
    refine wpAnyH_ready (rs:=[28]) (by kernel_rfl) (by simp) ?_
    refine q9 rfl (fun K hK=> ?_)
    rw[if_pos (by rfl)]
    refine wp_store_mid 28 (.tmp 79) (.tmp 78) rfl tb 44 XL.toArray rfl rfl HS.o.2.1 HS.o.2.2.2.2.1 HS.o.2.2.2.1 ?_
    refine hK.out _ _ HS.o.2.2.2.2.2 (fun _=> ?_)
    clear hK K
    refine wpAnyH_done (by kernel_rfl) ?_ _
    go_wp2_with fail
    go_meet
    exact⟨_,_,_,_,_,_,by rw[E.o];exact HS.o.1⟩
   ·exact absurd HG.o (by rw[HKK.o];decide)
   ·exact absurd HG.o (by rw[HKK.o];decide)
   ·exact absurd HG.o (by rw[HKK.o];decide)
   ·have E:=U0 (show GA s={{{UB s with num:=num} with seq:=seq} with bytes:=s.b.take 3000} by (try rw[←HNS.o.1]);(try rw[←HNS.o.2.1]);(try rw[←HNS.o.2.2]);exact madeP6 s HKK.o)
    obtain⟨A,c,gb,rfl,hc,hm,hse,hgF⟩:=id hv
    obtain⟨n,hn⟩:∃ n,(s.b.take 3000).length=n:=⟨_,rfl⟩
    have e1:(if 3000<(s.b.length:Int) then 3000 else (s.b.length:Int)).toNat=n:=by rw[←hn,List.length_take];split<;>omega
    have hn1:n≤3000:=by rw[←hn,List.length_take];omega
    have E1:=U0 e1
    have HB:=U0 (show G7 u2 [gb] (.slice A n c) (s.b.take 3000) from⟨A,c,gb,by rw[hn],by rw[List.length_take];omega,hm,(hse.keep HM2.o.kp (by simp)).take 3000,fun _=>by simp⟩)
    have HN1:=U0 hn
    clear e1 hn hse hgF
    go_wp2_with (simp only[E1.o];generalize (if 3000<(s.b.length:Int) then 3000 else (s.b.length:Int))=zz;go_at_call 27;refine (dQ [gb] (.slice A n c) (s.b.take 3000) _ HB.o (by rw[HN1.o];omega)).mono ?_;intro e u4 hq;obtain⟨ev,G,rfl,q1,q2,q3⟩:=hq;obtain⟨A5,c5,g6,e5, -⟩:=id q1;rw[HN1.o] at e5;subst e5;have N0:=HM2.o.over q3;have N1:=N0.num num;have N2:=N1.seq seq;have g3:=(N0.row.pk j6 F6).c3;have e3:=N0.row.free 3;have g4:=(N1.row.pk j6 F6).c4;have e4:=N1.row.free 4;have g5:=(N2.row.pk j6 F6).d4;have e5:=N2.row.free 86;have H4:=U0 (U2 q1 (U2 q2 (U2 N2 q3)));clear q1 q2 q3 N0 N1 N2)
    go_meet
    have k2:=(xC u4 tb 3 (.int .i64 num)).then (xC (u4.setCell ⟨tb,3,none⟩ (.int .i64 num)) tb 4 (.int .i64 seq)) (fun x hx=> .inl hx)
    have q1:=H4.o.1.keep k2 (fun y hy=>by have h1:=(H4.o.2.1 y hy).1;have h2:=HM2.o.row.lt;simp;omega)
    have M4:=H4.o.2.2.1.set 86 (.slice A5 n c5) (aH j6 F6 (s.b.take 3000) _) (F':=G) ⟨j6,F6,G7.nil _ _,G7.nil _ _,F8.nil _ _,xA.nil _ _,q1⟩ (fun y hy=>by have h1:=H4.o.2.1 y hy;have h2:=HM2.o.row.lt;have h3:=k2.size;omega)
    exact⟨_,_,_,_,_,_,by rw[E.o];exact M4⟩
   ·exact absurd HG.o (by rw[HKK.o];decide)
   ·have M1:=HM2.o.num num
    have g1:=(M1.row.pk j6 F6).c6
    have g2:=M1.row.free 6
    have E:=U0 (show GA s={{UB s with num:=num} with ready:=decide (seq % 2=0)} by (try rw[←HNS.o.1]);(try rw[←HNS.o.2.1]);(try rw[←HNS.o.2.2]);exact madeP8 s HKK.o)
    have ht:seq.tmod 2=seq % 2:=Int.tmod_eq_emod_of_nonneg bseq.1
    have HM3:=U0 (M1.rdy (decide (seq % 2=0)))
    clear M1
    go_wp2_with fail
    go_meet
    exact⟨_,_,_,_,_,_,by rw[E.o];exact HM3.o⟩
   ·exact absurd HG.o (by rw[HKK.o];decide)
   ·exact absurd HG.o (by rw[HKK.o];decide)
   ·have M1:=HM2.o.bal bal
    have g1:=(M1.row.pk j6 F6).c4
    have g2:=M1.row.free 4
    obtain⟨k,hk⟩:∃ k:Nat,s.n2 % 9=(k:Int):=⟨(s.n2 % 9).toNat,by omega⟩
    have hk8:k≤8:=by omega
    have HKn:=U0 hk
    have E:=U0 (show GA s={({{UB s with ballot:=bal} with seq:=seq}:PK) with votes:=uG s k} by rw[←HNS.o.2.1,←HNS.o.2.2,show k=(s.n2 % 9).toNat by have:=HKn.o;omega];exact SV s HKK.o)
    have HM3:=U0 (M1.seq seq)
    clear M1 hk
    obtain⟨i0,hi0,hz0,hz1,hz2⟩:=info_parts UH
    have HI:=U0 (U2 hi0 (U2 hz0 (U2 hz1 hz2)))
    clear hi0 hz0 hz1 hz2
    go_wp2_with fail
    go_loopw [8] (fun v8 wx=>∃ i:Nat,i≤k∧v8= .int .i64 (i:Int)∧∃ A c T G,mvS w wx tb Y Z ({{UB s with ballot:=bal} with seq:=seq}:PK) s i A c T G) (fun v8 _=>k-(intOf v8).toNat)
    case atStart=>exact⟨0,by omega,rfl,none,0,[],[],⟨HM3.o.sr,HM3.o.zr,HM3.o.row,rfl,qA.nil _ _ _,by simp[d9],by simp,by simp,by simp,HM3.o.kp,HM3.o.gt⟩⟩
    case round=>
     obtain⟨i,hi,rfl,A,c,T,G,hV⟩:=hrel
     have zn:wr.cell? ⟨w.heap.size,5,none⟩=some (.int .i64 s.n2):=(hV.sr.cell 5).trans (by rw[←HY.o];rfl)
     have HV:=U0 hV
     clear hV z0 z1 z2 z3 z5 y3 y4 y5 y6 f3 f4 f5 f6 g1 g2
     by_cases hlt:i<k
     ·have hlt':(i:Int)<(k:Int):=by omega
      have hwi:IntKind.i64.wrap ((i:Int)+1)=(i:Int)+1:=Z8 _ (by omega) (by omega)
      have hne:(i:Int)+1≠0:=by omega
      obtain⟨q,hq⟩:∃ q,bal.toNat/(i+1)=q:=⟨_,rfl⟩
      have hqb:q≤bal.toNat:=by rw[←hq];exact Nat.div_le_self _ _
      have hdv:bal.tdiv ((i:Int)+1)=(q:Int):=by
       rw[Int.tdiv_eq_ediv_of_nonneg bbal.1,←hq]
       obtain⟨m,rfl⟩:=Int.eq_ofNat_of_zero_le bbal.1
       rw[Int.toNat_natCast]
       push_cast
       rfl
      have hwq0:IntKind.i64.wrap (q:Int)=(q:Int):=Z8 _ (by omega) (by omega)
      have hwq:IntKind.i64.wrap (1+(q:Int))=1+(q:Int):=Z8 _ (by omega) (by omega)
      obtain⟨x,hx⟩:∃ x,IntKind.i64.wrap (s.n0+(i:Int))=x:=⟨_,rfl⟩
      obtain⟨y,hy⟩:∃ y,IntKind.i64.wrap (s.n3+IntKind.i64.wrap (7*(i:Int)))=y:=⟨_,rfl⟩
      have h7:IntKind.i64.wrap (7*(i:Int))=7*(i:Int):=Z8 _ (by omega) (by omega)
      have hxi:OA x:=by rw[←hx];exact XK _
      have hyi:OA y:=by rw[←hy];exact XK _
      obtain⟨cf,hcf⟩:∃ cf,vG x y=cf:=⟨_,rfl⟩
      have HCF:=U0 hcf
      have HVT:=U0 (show zS s i=⟨1+(q:Int),cf⟩ by unfold zS;rw[hx,hy,hcf,HNS.o.2.2,hq])
      rw[h7] at hy
      clear hcf hq hqb
      go_upto_region 29 with (go_at_call 115;refine (l9 s.n2 9 hs.n2.1 hs.n2.2 (by omega) (by omega) _).mono ?_;rintro e w1 ⟨rfl,rfl⟩;rw[HKn.o])
      clear zn
      have HP:=U0 (fun w' (hk:U1 (tb::Z6 (.slice A i c)) wr w')=>(show w'.cell? ⟨w.heap.size,3,none⟩=some (.int .i64 s.n0)∧w'.cell? ⟨w.heap.size,6,none⟩=some (.int .i64 s.n3) from by
       have hr:=hk.row HV.o.sr (fun hm=>by have h1:=HV.o.gt;have h2:=HV.o.hh w.heap.size;simp at hm;rcases hm with hm|hm;·omega
                                           ·have:=h2 hm;omega)
       exact⟨(hr.cell 3).trans (by rw[←HY.o];rfl),(hr.cell 6).trans (by rw[←HY.o];rfl)⟩))
      have kW:=(U1.refl [] wr).drew
      have kS:U1 (tb::Z6 (.slice A i c)) wr wr.drew:=kW.more (by simp)
      refine wp_region_held_drew (S:=U1 (tb::Z6 (.slice A i c)) wr) (by kernel_rfl) kS (fun _=> ?_)
      obtain⟨W0,hW0⟩:∃ W,wr.drew=W:=⟨_,rfl⟩
      rw[hW0] at kW kS ⊢
      clear hW0
      refine T9 0 ⟨_,_,_,_,_,_⟩ _ kS ?_
      try simp only[Act.put,F3,U3,V3]
      refine T9 2 ⟨_,_,_,_,_,_⟩ _ kS ?_
      try simp only[Act.put,F3,U3,V3]
      refine T9 3 ⟨_,_,_,_,_,_⟩ _ kS ?_
      try simp only[Act.put,F3,U3,V3]
      refine T9 4 ⟨_,_,_,_,_,_⟩ _ kS ?_
      try simp only[Act.put,F3,U3,V3]
      refine T9 5 ⟨_,_,_,_,_,_⟩ _ kS ?_
      try simp only[Act.put,F3,U3,V3]
      refine T9 6 ⟨_,_,_,_,_,_⟩ _ kS ?_
      try simp only[Act.put,F3,U3,V3]
      refine T9 7 ⟨_,_,_,_,_,_⟩ _ kS ?_
      try simp only[Act.put,F3,U3,V3]
      refine T9 8 ⟨_,_,_,_,_,_⟩ _ kS ?_
      try simp only[Act.put,F3,U3,V3]
      refine wpAnyH_take (i:=9) (oi:=⟨_,_,_,_,_,_⟩) (v:= ?_) rfl (by kernel_rfl) (by kernel_rfl) (by kernel_rfl) (fun _ _ _ h=>h) (Or.inl ⟨by rfl,?_⟩) kS ?_
      rotate_left
      ·intro w' hSw;have xc:=(HP.o w' hSw).1;clear hSw;(go_simp;try with_reducible rfl)
      try simp only[Act.put,F3,U3,V3]
      refine T9 10 ⟨_,_,_,_,_,_⟩ _ kS ?_
      try simp only[Act.put,F3,U3,V3]
      refine T9 11 ⟨_,_,_,_,_,_⟩ _ kS ?_
      try simp only[Act.put,F3,U3,V3]
      refine T9 12 ⟨_,_,_,_,_,_⟩ _ kS ?_
      try simp only[Act.put,F3,U3,V3]
      refine T9 13 ⟨_,_,_,_,_,_⟩ _ kS ?_
      try simp only[Act.put,F3,U3,V3]
      refine wpAnyH_take (i:=14) (oi:=⟨_,_,_,_,_,_⟩) (v:= ?_) rfl (by kernel_rfl) (by kernel_rfl) (by kernel_rfl) (fun _ _ _ h=>h) (Or.inl ⟨by rfl,?_⟩) kS ?_
      rotate_left
      ·intro w' hSw;have xc:=(HP.o w' hSw).2;clear hSw;(go_simp;try with_reducible rfl)
      try simp only[Act.put,F3,U3,V3]
      refine T9 15 ⟨_,_,_,_,_,_⟩ _ kS ?_
      try simp only[Act.put,F3,U3,V3]
      refine T9 16 ⟨_,_,_,_,_,_⟩ _ kS ?_
      try simp only[Act.put,F3,U3,V3]
      refine T9 17 ⟨_,_,_,_,_,_⟩ _ kS ?_
      try simp only[Act.put,F3,U3,V3]
      refine wpAnyH_ready (rs:=[1,18]) (by kernel_rfl) (by simp) ?_
      refine AllReadyH.cons (o:=⟨_,_,_,_,_,_⟩) rfl (fun K hK=> ?_) (q9 rfl (fun K hK=> ?_))
      ·skip
       have xv:=((kW.row HV.o.row (by simp)).pk j6 F6).d3
       go_simp
       refine hK.out _ _ kS (fun _=> ?_)
       clear hK K
       try simp only[Act.put,F3,U3,V3]
       refine wpAnyH_ready (rs:=[18]) (by kernel_rfl) (by simp) ?_
       refine q9 rfl (fun K hK=> ?_)
       go_simp
       refine (KH x y hxi hyi (y % 1048576).toNat (by omega) _).mono ?_
       rw[show UU (x % 1125899906842624) (y % 1048576).toNat=vG x y from rfl,HCF.o]
       intro e w5 hq5
       obtain⟨ev,G2,rfl,q1,q2,q3⟩:=hq5
       obtain⟨A7,c7,g7,rfl, -⟩:=id q1
       replace q2:I9 wr w5 G2:=fun y hy=>⟨Nat.le_trans kW.size (q2 y hy).1,(q2 y hy).2⟩
       replace kW:=kW.then q3 (by simp)
       replace kS:U1 (tb::Z6 (.slice A i c)) wr w5:=kW.more (by simp)
       have HC:=U0 (U2 q1 (U2 q2 kW))
       clear q1 q2 q3
       dsimp only[bA]
       go_wp2_with fail
       refine hK.out _ _ kS (fun _=> ?_)
       clear hK K
       try simp only[Act.put,F3,U3,V3]
       refine T9 19 ⟨_,_,_,_,_,_⟩ _ kS ?_
       try simp only[Act.put,F3,U3,V3]
       refine wpAnyH_ready (rs:=[20]) (by kernel_rfl) (by simp) ?_
       refine q9 rfl (fun K hK=> ?_)
       go_simp
       have kN:=(U1.refl [] w5).alloc (.cells #[.int .i64 (1+(q:Int)),.int .i64 cf.num,.int .i64 cf.full,.slice A7 cf.chain.length c7] 69)
       replace kW:=kW.then kN (by simp)
       replace kS:U1 (tb::Z6 (.slice A i c)) wr (w5.alloc (.cells #[.int .i64 (1+(q:Int)),.int .i64 cf.num,.int .i64 cf.full,.slice A7 cf.chain.length c7] 69)):=kW.more (by simp)
       refine hK.out _ _ kS (fun _=> ?_)
       clear hK K
       try simp only[Act.put,F3,U3,V3]
       refine wpAnyH_ready (rs:=[21]) (by kernel_rfl) (by simp) ?_
       refine q9 rfl (fun K hK=> ?_)
       refine oC _ rfl (.tmp 157) (.tmp 176) 32 rfl 69 i0 (.agg #[.int .i64 0,.int .i64 0,.int .i64 0,.slice none 0 0]) 4 48 underlying32 HI.o.1 HI.o.2.1 HI.o.2.2.1 HI.o.2.2.2 rfl (by decide) (.slice A i c) i (Z9 T) rfl (HV.o.own.keep kW (by simp)) (some ⟨w5.heap.size,0,none⟩) w5.heap.size 1 1 #[.int .i64 (1+(q:Int)),.int .i64 cf.num,.int .i64 cf.full,.slice A7 cf.chain.length c7].toList rfl (rE (l5.new w5 69 #[.int .i64 (1+(q:Int)),.int .i64 cf.num,.int .i64 cf.full,.slice A7 cf.chain.length c7]) 1 4 rfl) (by intro u hu;simp at hu;rcases hu with rfl|rfl|rfl|rfl<;>rfl) (by omega) (by unfold maxLen;omega) ?_
       intro A6 c6 w6 hown6 hkb6 hloc6
       have k6:U1 (Z6 (.slice A i c)) wr w6:=(kW.more (by simp)).then hkb6 (fun x hx=> .inl hx)
       replace kS:U1 (tb::Z6 (.slice A i c)) wr w6:=k6.more (fun x hx=>List.mem_cons_of_mem _ hx)
       have r6:=k6.row HV.o.row (fun hm=>Nat.lt_irrefl _ (HV.o.hh tb hm))
       have M7:=HV.o.step j6 F6 HC.o.2.2 (by rw[HVT.o];exact HC.o.1) HC.o.2.1 ((((U1.refl [] w5).alloc (.cells #[.int .i64 (1+(q:Int)),.int .i64 cf.num,.int .i64 cf.full,.slice A7 cf.chain.length c7] 69)).more (by simp)).then hkb6 (fun x hx=> .inl hx)) (by rw[HVT.o];exact hown6) (fun x hx=>(hloc6 x hx).imp id (fun h=>Nat.le_of_lt (Nat.lt_of_lt_of_le (by simp) h)))
       have xv6:=(r6.pk j6 F6).d3
       have xf6:=r6.free 85
       have H7:=U0 M7
       clear M7 hown6 hkb6 hloc6 k6 r6
       refine hK.out _ _ kS (fun _=> ?_)
       clear hK K
       try simp only[Act.put,F3,U3,V3]
       refine T9 22 ⟨_,_,_,_,_,_⟩ _ kS ?_
       try simp only[Act.put,F3,U3,V3]
       refine wpAnyH_ready (rs:=[23]) (by kernel_rfl) (by simp) ?_
       refine q9 rfl (fun K hK=> ?_)
       go_simp
       replace kS:=kS.setCell ⟨tb,85,none⟩ (.slice A6 (i+1) c6) (.inl (by simp))
       refine hK.out _ _ kS (fun _=> ?_)
       clear hK K
       try simp only[Act.put,F3,U3,V3]
       refine wpAnyH_done (by kernel_rfl) ?_ _
       go_wp2_with fail
       go_roundw
       case rel=>exact⟨i+1,by omega,by go_num,A6,c6,_,_,H7.o⟩
       case measure=>simp[intOf];omega
      ·skip
       go_simp
       refine (KH x y hxi hyi (y % 1048576).toNat (by omega) _).mono ?_
       rw[show UU (x % 1125899906842624) (y % 1048576).toNat=vG x y from rfl,HCF.o]
       intro e w5 hq5
       obtain⟨ev,G2,rfl,q1,q2,q3⟩:=hq5
       obtain⟨A7,c7,g7,rfl, -⟩:=id q1
       replace q2:I9 wr w5 G2:=fun y hy=>⟨Nat.le_trans kW.size (q2 y hy).1,(q2 y hy).2⟩
       replace kW:=kW.then q3 (by simp)
       replace kS:U1 (tb::Z6 (.slice A i c)) wr w5:=kW.more (by simp)
       have HC:=U0 (U2 q1 (U2 q2 kW))
       clear q1 q2 q3
       dsimp only[bA]
       go_wp2_with fail
       refine hK.out _ _ kS (fun _=> ?_)
       clear hK K
       try simp only[Act.put,F3,U3,V3]
       refine T9 19 ⟨_,_,_,_,_,_⟩ _ kS ?_
       try simp only[Act.put,F3,U3,V3]
       refine wpAnyH_ready (rs:=[1,20]) (by kernel_rfl) (by simp) ?_
       refine AllReadyH.cons (o:=⟨_,_,_,_,_,_⟩) rfl (fun K hK=> ?_) (q9 rfl (fun K hK=> ?_))
       ·skip
        have xv:=((kW.row HV.o.row (by simp)).pk j6 F6).d3
        go_simp
        refine hK.out _ _ kS (fun _=> ?_)
        clear hK K
        try simp only[Act.put,F3,U3,V3]
        refine wpAnyH_ready (rs:=[20]) (by kernel_rfl) (by simp) ?_
        refine q9 rfl (fun K hK=> ?_)
        go_simp
        have kN:=(U1.refl [] w5).alloc (.cells #[.int .i64 (1+(q:Int)),.int .i64 cf.num,.int .i64 cf.full,.slice A7 cf.chain.length c7] 69)
        replace kW:=kW.then kN (by simp)
        replace kS:U1 (tb::Z6 (.slice A i c)) wr (w5.alloc (.cells #[.int .i64 (1+(q:Int)),.int .i64 cf.num,.int .i64 cf.full,.slice A7 cf.chain.length c7] 69)):=kW.more (by simp)
        refine hK.out _ _ kS (fun _=> ?_)
        clear hK K
        try simp only[Act.put,F3,U3,V3]
        refine wpAnyH_ready (rs:=[21]) (by kernel_rfl) (by simp) ?_
        refine q9 rfl (fun K hK=> ?_)
        refine oC _ rfl (.tmp 157) (.tmp 176) 32 rfl 69 i0 (.agg #[.int .i64 0,.int .i64 0,.int .i64 0,.slice none 0 0]) 4 48 underlying32 HI.o.1 HI.o.2.1 HI.o.2.2.1 HI.o.2.2.2 rfl (by decide) (.slice A i c) i (Z9 T) rfl (HV.o.own.keep kW (by simp)) (some ⟨w5.heap.size,0,none⟩) w5.heap.size 1 1 #[.int .i64 (1+(q:Int)),.int .i64 cf.num,.int .i64 cf.full,.slice A7 cf.chain.length c7].toList rfl (rE (l5.new w5 69 #[.int .i64 (1+(q:Int)),.int .i64 cf.num,.int .i64 cf.full,.slice A7 cf.chain.length c7]) 1 4 rfl) (by intro u hu;simp at hu;rcases hu with rfl|rfl|rfl|rfl<;>rfl) (by omega) (by unfold maxLen;omega) ?_
        intro A6 c6 w6 hown6 hkb6 hloc6
        have k6:U1 (Z6 (.slice A i c)) wr w6:=(kW.more (by simp)).then hkb6 (fun x hx=> .inl hx)
        replace kS:U1 (tb::Z6 (.slice A i c)) wr w6:=k6.more (fun x hx=>List.mem_cons_of_mem _ hx)
        have r6:=k6.row HV.o.row (fun hm=>Nat.lt_irrefl _ (HV.o.hh tb hm))
        have M7:=HV.o.step j6 F6 HC.o.2.2 (by rw[HVT.o];exact HC.o.1) HC.o.2.1 ((((U1.refl [] w5).alloc (.cells #[.int .i64 (1+(q:Int)),.int .i64 cf.num,.int .i64 cf.full,.slice A7 cf.chain.length c7] 69)).more (by simp)).then hkb6 (fun x hx=> .inl hx)) (by rw[HVT.o];exact hown6) (fun x hx=>(hloc6 x hx).imp id (fun h=>Nat.le_of_lt (Nat.lt_of_lt_of_le (by simp) h)))
        have xv6:=(r6.pk j6 F6).d3
        have xf6:=r6.free 85
        have H7:=U0 M7
        clear M7 hown6 hkb6 hloc6 k6 r6
        refine hK.out _ _ kS (fun _=> ?_)
        clear hK K
        try simp only[Act.put,F3,U3,V3]
        refine T9 22 ⟨_,_,_,_,_,_⟩ _ kS ?_
        try simp only[Act.put,F3,U3,V3]
        refine wpAnyH_ready (rs:=[23]) (by kernel_rfl) (by simp) ?_
        refine q9 rfl (fun K hK=> ?_)
        go_simp
        replace kS:=kS.setCell ⟨tb,85,none⟩ (.slice A6 (i+1) c6) (.inl (by simp))
        refine hK.out _ _ kS (fun _=> ?_)
        clear hK K
        try simp only[Act.put,F3,U3,V3]
        refine wpAnyH_done (by kernel_rfl) ?_ _
        go_wp2_with fail
        go_roundw
        case rel=>exact⟨i+1,by omega,by go_num,A6,c6,_,_,H7.o⟩
        case measure=>simp[intOf];omega
       ·skip
        go_simp
        have kN:=(U1.refl [] w5).alloc (.cells #[.int .i64 (1+(q:Int)),.int .i64 cf.num,.int .i64 cf.full,.slice A7 cf.chain.length c7] 69)
        replace kW:=kW.then kN (by simp)
        replace kS:U1 (tb::Z6 (.slice A i c)) wr (w5.alloc (.cells #[.int .i64 (1+(q:Int)),.int .i64 cf.num,.int .i64 cf.full,.slice A7 cf.chain.length c7] 69)):=kW.more (by simp)
        refine hK.out _ _ kS (fun _=> ?_)
        clear hK K
        try simp only[Act.put,F3,U3,V3]
        refine wpAnyH_ready (rs:=[1]) (by kernel_rfl) (by simp) ?_
        refine q9 rfl (fun K hK=> ?_)
        have xv:=((kW.row HV.o.row (by simp)).pk j6 F6).d3
        go_simp
        refine hK.out _ _ kS (fun _=> ?_)
        clear hK K
        try simp only[Act.put,F3,U3,V3]
        refine wpAnyH_ready (rs:=[21]) (by kernel_rfl) (by simp) ?_
        refine q9 rfl (fun K hK=> ?_)
        refine oC _ rfl (.tmp 157) (.tmp 176) 32 rfl 69 i0 (.agg #[.int .i64 0,.int .i64 0,.int .i64 0,.slice none 0 0]) 4 48 underlying32 HI.o.1 HI.o.2.1 HI.o.2.2.1 HI.o.2.2.2 rfl (by decide) (.slice A i c) i (Z9 T) rfl (HV.o.own.keep kW (by simp)) (some ⟨w5.heap.size,0,none⟩) w5.heap.size 1 1 #[.int .i64 (1+(q:Int)),.int .i64 cf.num,.int .i64 cf.full,.slice A7 cf.chain.length c7].toList rfl (rE (l5.new w5 69 #[.int .i64 (1+(q:Int)),.int .i64 cf.num,.int .i64 cf.full,.slice A7 cf.chain.length c7]) 1 4 rfl) (by intro u hu;simp at hu;rcases hu with rfl|rfl|rfl|rfl<;>rfl) (by omega) (by unfold maxLen;omega) ?_
        intro A6 c6 w6 hown6 hkb6 hloc6
        have k6:U1 (Z6 (.slice A i c)) wr w6:=(kW.more (by simp)).then hkb6 (fun x hx=> .inl hx)
        replace kS:U1 (tb::Z6 (.slice A i c)) wr w6:=k6.more (fun x hx=>List.mem_cons_of_mem _ hx)
        have r6:=k6.row HV.o.row (fun hm=>Nat.lt_irrefl _ (HV.o.hh tb hm))
        have M7:=HV.o.step j6 F6 HC.o.2.2 (by rw[HVT.o];exact HC.o.1) HC.o.2.1 ((((U1.refl [] w5).alloc (.cells #[.int .i64 (1+(q:Int)),.int .i64 cf.num,.int .i64 cf.full,.slice A7 cf.chain.length c7] 69)).more (by simp)).then hkb6 (fun x hx=> .inl hx)) (by rw[HVT.o];exact hown6) (fun x hx=>(hloc6 x hx).imp id (fun h=>Nat.le_of_lt (Nat.lt_of_lt_of_le (by simp) h)))
        have xv6:=(r6.pk j6 F6).d3
        have xf6:=r6.free 85
        have H7:=U0 M7
        clear M7 hown6 hkb6 hloc6 k6 r6
        refine hK.out _ _ kS (fun _=> ?_)
        clear hK K
        try simp only[Act.put,F3,U3,V3]
        refine T9 22 ⟨_,_,_,_,_,_⟩ _ kS ?_
        try simp only[Act.put,F3,U3,V3]
        refine wpAnyH_ready (rs:=[23]) (by kernel_rfl) (by simp) ?_
        refine q9 rfl (fun K hK=> ?_)
        go_simp
        replace kS:=kS.setCell ⟨tb,85,none⟩ (.slice A6 (i+1) c6) (.inl (by simp))
        refine hK.out _ _ kS (fun _=> ?_)
        clear hK K
        try simp only[Act.put,F3,U3,V3]
        refine wpAnyH_done (by kernel_rfl) ?_ _
        go_wp2_with fail
        go_roundw
        case rel=>exact⟨i+1,by omega,by go_num,A6,c6,_,_,H7.o⟩
        case measure=>simp[intOf];omega
     ·obtain rfl:i=k:=by omega
      have hlt': ¬(i:Int)<(i:Int):=by omega
      go_wp2_with (go_at_call 115;refine (l9 s.n2 9 hs.n2.1 hs.n2.2 (by omega) (by omega) _).mono ?_;rintro e w1 ⟨rfl,rfl⟩;rw[HKn.o])
      go_meet
      obtain⟨F2,hF⟩:=HV.o.done j6 F6 rfl rfl rfl rfl
      exact⟨_,_,_,_,_,_,by rw[E.o];exact hF⟩
   ·exact absurd HG.o (by rw[HKK.o];decide)
   ·exact absurd HG.o (by rw[HKK.o];decide)
   ·exact absurd HG.o (by rw[HKK.o];decide)
  case rest=>
   obtain⟨ev,av,cv,vv,bw,G,hM⟩:=hcut
   generalize wc=u5 at*
   obtain⟨XL,hXL⟩:∃ XL,q8 (GA s) ev av cv vv bw=XL:=⟨_,rfl⟩
   have xl:XL.length=87:=by rw[←hXL];exact G8 hM.val.rn hM.val.an
   have xo:∀ y∈XL,y.oneCell'=true:=by rw[←hXL];exact yA hM.val.re.one hM.val.ae.one hM.val.cc.one hM.val.vs.one hM.val.bs.one
   have hrow:=hM.row
   rw[hXL] at hrow
   have rr:=hM.zr.setL (vs:=XL) (o:=0)
   rw[F7 (by rw[xl,U4];exact HR.o.2.2.2.symm)] at rr
   have ht:=hM.zr.there (o:=0) (n:=XL.toArray.size) (by simp only[U4];have:=HR.o.2.2.2;omega)
   have hJ:(prog.info? 34).map (·.size)=some XL.toArray.size:=by rw[U4,xl];exact I5
   have hJl:(prog.info? 34).map (·.size)=some XL.length:=by rw[xl];exact I5
   have HS:=U0 (U2 hrow.rangeAll (U2 rr (U2 ht (U2 hJl (U2 hJ (all_oneCell_toArray xo))))))
   have HX:=U0 (U2 hXL hM)
   clear hrow rr ht hJ hJl xl xo hXL hM
   go_wp2_with (first
    |(refine wpList_load_mid rfl 34 (.tmp 4) rfl tb 0 rfl _ _ HS.o.1 underlying34 rfl HS.o.2.2.2.1 ?_)
    |(refine wpList_store_mid rfl 34 (.tmp 2) (.tmp 197) rfl (w.heap.size+1) 0 XL.toArray rfl rfl HS.o.2.2.1 HS.o.2.2.2.2.1 HS.o.2.2.2.2.2 ?_))
   refine bodyPost_ret (results_cell_row rfl _ _ (w.heap.size+1) 34 _ (0,0) _ rfl HS.o.2.1 underlying34 rfl HS.o.2.2.2.2.1) rfl ?_
   have ks:=(U1.refl [w.heap.size+1] u5).setL (vs:=XL) (g:=w.heap.size+1) (o:=0) (by simp)
   have ksz:=ks.size
   refine⟨ev,av,cv,vv,bw,G,by rw[HX.o.1],HX.o.2.val.keep ks (fun y hy=>by have h1:=(HX.o.2.new y hy).1;have h2:=HX.o.2.gt;simp;omega),fun y hy=>⟨by have h1:=(HX.o.2.new y hy).1;have h2:=HX.o.2.gt;omega,by have h1:=(HX.o.2.new y hy).2;omega⟩,HX.o.2.kp.setL (.inr (by omega))⟩
theorem eU (F:List Nat) (s:SD) (v:Value) (w:World) (hs:XU s) (h41:s.n2 % 4=1) (hv:G7 w F v s.b):
 Calls prog 39 #[.agg (sdL s v).toArray] w (MADE s w):=by
 by_cases h:1+s.kind % 14∈([1,3,4,5,7,9,10,12,13,14]:List Int)
 ·exact YV F s v w hs h41 hv h
 ·refine ZV F s v w hs h41 hv ?_
  simp only[List.mem_cons,List.not_mem_nil,or_false,not_or] at h ⊢
  omega
end Go.Proofs.YthfdkonhjpdflaaGreatDoor
