import Derived.Test.YthfdkonhjpdflaaGreatDoorPk29
namespace Go.Proofs.YthfdkonhjpdflaaGreatDoor
open Go.RowKit Go.Proofs.Tryz
set_option linter.unusedVariables false
set_option maxRecDepth 100000
set_option linter.unusedSimpArgs false
set_option maxHeartbeats 16000000
structure nO (w:World) (sb p g:Nat) (r:RS) (part:Int):Prop where
 row:aC w sb 104 #[.pointer (some ⟨p,0,none⟩),.int .i64 part]
 rd:jg w p g r
 ne:sb≠p
 gl:r.l≠[]→g≠sb
 len:r.l.length≤1000000
theorem nO.keep {S:List Nat} {w w':World} {sb p g:Nat} {r:RS} {part:Int} (h:nO w sb p g r part) (hk:ag S w w') (h1:sb∉S) (h2:p∉S) (h3:r.l≠[]→g∉S):nO w' sb p g r part:=
 ⟨hk.row h.row h1,h.rd.keep hk h2 h3,h.ne,h.gl,h.len⟩
theorem nO.over {w w':World} {sb p g:Nat} {r:RS} {part:Int} (h:nO w sb p g r part) (hk:ag [] w w'):nO w' sb p g r part:=h.keep hk (by simp) (by simp) (by simp)
theorem nO.read {w w':World} {sb p g:Nat} {r r':RS} {part:Int} (h:nO w sb p g r part) (hr:jg w' p g r') (hk:ag [p] w w') (hl:r'.l≠[]→r.l≠[]) (hs:r'.l.length≤r.l.length):nO w' sb p g r' part:=
 ⟨hk.row h.row (by have:=h.ne;simp[this]),hr,h.ne,fun hne=>h.gl (hl hne),Nat.le_trans hs h.len⟩
theorem nO.part {w:World} {sb p g:Nat} {r:RS} {part:Int} (h:nO w sb p g r part) (x:Int):nO (w.setCell ⟨sb,1,none⟩ (.int .i64 x)) sb p g r x:=
 ⟨h.row.set 1 _,h.rd.keep (fE w sb 1 _) (by have:=h.ne;simp;exact fun e=>this e.symm) (fun hne=>by have:=h.gl hne;simp[this]),h.ne,h.gl,h.len⟩
def bD (part e:Int):Int:=if part=0 then e else part
theorem eQ (w:World) (sb p g:Nat) (r:RS) (part:Int) (h:nO w sb p g r part):
 Calls prog 95 #[.pointer (some ⟨sb,0,none⟩)] w fun e w'=>e= .returned (.int .i64 (bD part r.e))∧w=w':=by
 have c0:w.cell? ⟨sb,0,none⟩=some (.pointer (some ⟨p,0,none⟩)):=h.row.cell 0
 have c1:w.cell? ⟨sb,1,none⟩=some (.int .i64 part):=h.row.cell 1
 have H:=aa h
 clear h
 by_cases hp:part=0
 ·have hb:(part !=0)=false:=by simp[hp]
  have HE:=aa (show bD part r.e=r.e by unfold bD;rw[if_pos hp])
  clear hp
  go_enter func95,ntmps95
  go_wp2_with (first
   |(go_at_call 141;refine (pu p g r _ H.o.rd).mono ?_;rintro e w' ⟨rfl,rfl⟩))
  go_ret
  exact⟨by rw[HE.o];rfl,rfl⟩
 ·have hb:(part !=0)=true:=by simp[hp]
  have HE:=aa (show bD part r.e=part by unfold bD;rw[if_neg hp])
  clear hp
  go_enter func95,ntmps95
  go_wp2_with fail
  go_ret
  exact⟨by rw[HE.o];rfl,rfl⟩
theorem BO (r:RS) (n:Nat):(r.take n).length≤r.l.length:=by
 unfold RS.take
 split
 ·rw[List.length_take];omega
 ·simp
theorem jN (r:RS) (n:Int):(r.text n).1.length≤r.l.length:=by
 unfold RS.text RS.raw
 split
 ·simp
 ·exact Nat.le_trans (BO _ _) (RS.count_short r n)
def gT (r:RS) (part:Int):RQ × RS × Int:=
 if bD part (r.text 2048).2.e=0 then ((dC (r.text 2048).1).1,(r.text 2048).2,(dC (r.text 2048).1).2) else (aV,(r.text 2048).2,part)
theorem qB (p g sb:Nat) (r:RS) (part:Int) (w:World) (hs:nO w sb p g r part):
 Calls prog 143 #[.pointer (some ⟨sb,0,none⟩),.func (.func 30) #[] #[]] w fun e w'=>∃ ev G,e= .returned (.agg (bE (gT r part).1 ev).toArray)∧l5 w' G (gT r part).1 ev∧bP w w' G∧nO w' sb p g (gT r part).2.1 (gT r part).2.2∧ag [sb,p] w w':=by
 obtain⟨x1,hx1⟩:∃ x,(r.text 2048).1=x:=⟨_,rfl⟩
 obtain⟨r1,hr1⟩:∃ x,(r.text 2048).2=x:=⟨_,rfl⟩
 have S1:aH ((r1.l≠[]→r.l≠[])∧r1.l.length≤r.l.length):=aa (by rw[←hr1];exact⟨dO,fG _ _⟩)
 have hxl:x1.length≤1000000:=by rw[←hx1];exact Nat.le_trans (jN r 2048) hs.len
 obtain⟨Z,hZ⟩:∃ Z,bE aV ay=Z:=⟨_,rfl⟩
 have zv:=nM
 have zl:=pJ
 have zo:=yo
 rw[hZ] at zv zl zo
 have kA:=(ag.refl [] w).alloc (.cells Z.toArray 26)
 have rA:=aC.new w 26 Z.toArray
 obtain⟨wA,hwA⟩:∃ wA,w.alloc (.cells Z.toArray 26)=wA:=⟨_,rfl⟩
 rw[hwA] at kA rA
 have kB:=(ag.refl [] wA).alloc (.cells Z.toArray 26)
 have rB:=aC.new wA 26 Z.toArray
 obtain⟨wB,hwB⟩:∃ wB,wA.alloc (.cells Z.toArray 26)=wB:=⟨_,rfl⟩
 rw[hwB] at kB rB
 have kk:=kA.then kB (by simp)
 have hsl:=hs.row.lt
 have hpl:=hs.rd.lt
 have HS:=aa (ah (hs.over kk) (ah (kB.row rA (by simp)) (ah rB (ah kk (ah (fun hne=>hs.rd.gl hne) rA.lt)))))
 have HW:=aa (ah hwA (ah hwB zv))
 have HZ:=aa (ah hZ (ah zl zo))
 have HX:=aa (ah hx1 (ah hr1 hxl))
 have hI:(prog.info? 26).map (·.size)=some Z.length:=by rw[zl];exact bN
 have hJ:(prog.info? 26).map (·.size)=some Z.toArray.size:=by rw[az];exact hI
 have HI:=aa (ah hI hJ)
 clear hZ zv zl zo kA rA hwA kB rB hwB kk hs hx1 hr1 hxl hI hJ
 have hnA:w.heap.size≠sb:=by omega
 have hnp:w.heap.size≠p:=by omega
 have c0:wB.cell? ⟨sb,0,none⟩=some (.pointer (some ⟨p,0,none⟩)):=HS.o.1.row.cell 0
 go_enter func143,ntmps143
 go_upto_region 3 with (first
  |(with_reducible refine aD _ _ rfl 26 rfl _ HW.o.2.2 HW.o.1 ?_)
  |(with_reducible refine aD _ _ rfl 26 rfl _ HW.o.2.2 HW.o.2.1 ?_)
  |(go_at_call 104;refine (kI p g r 2048 _ HS.o.1.rd (by have:=HS.o.1.len;omega)).mono ?_;intro e u1 hq;unfold jM at hq;rw[HX.o.1,HX.o.2.1] at hq;obtain⟨ue,rfl,hfr,hr,hk⟩:=hq;obtain⟨A6,c6,G6,rfl,hb6,hn6⟩:=hfr.gives;have Q:=aa (HS.o.1.read hr hk S1.o.1 S1.o.2);have K1:=aa hk;have B6:=aa (ah hb6 hn6);clear hr hk hfr hb6 hn6))
 have RA:=aa (K1.o.row HS.o.2.1 (by simp[hnp]))
 have RB:=aa (K1.o.row HS.o.2.2.1 (by have:=HS.o.2.2.2.2.2;simp;omega))
 have KW:aH (ag [sb,p] w u1):=aa ((HS.o.2.2.2.1.more (by simp)).then K1.o (by simp))
 clear c0 K1
 by_cases hf:bD part r1.e=0
 ·have HF:=aa hf
  have hE:aH (gT r part=((dC x1).1,r1,(dC x1).2)):=aa (by unfold gT;rw[HX.o.2.1,HX.o.1,if_pos hf])
  clear hf
  obtain⟨q,hq⟩:∃ q,(dC x1).1=q:=⟨_,rfl⟩
  obtain⟨E,hEE⟩:∃ q,(dC x1).2=q:=⟨_,rfl⟩
  rw[hq,hEE] at hE
  have HQ:=aa (ah hq hEE)
  clear hq hEE
  go_upto_region 5 with (first
   |(go_at_call 95;refine (eQ _ sb p g r1 part Q.o).mono ?_;rintro e u9 ⟨rfl,rfl⟩;rw[HF.o]))
  go_upto_region 6 with (first
   |(go_at_call 30;refine (oM G6 x1 _ _ B6.o.1 HX.o.2.2).mono ?_;rintro e u2 ⟨ev,G,rfl,gv,gn,gk⟩;rw[HQ.o.1,HQ.o.2] at*;have Q2:=aa (Q.o.over gk);have RA2:=aa (gk.row RA.o (by simp));have KW2:=aa (KW.o.then gk (by simp));have GV:=aa (ah gv gn);have hLl:aH ((bE q ev).length=37∧∀ u∈bE q ev,u.oneCell'=true):=aa ⟨bB gv.1,dR q gv.2.one⟩;clear gv gn gk)
   |(with_reducible refine aD _ _ rfl 26 rfl _ HW.o.2.2 rfl ?_)
   |(refine wpList_store_mid rfl 26 (.tmp 7) (.tmp 22) rfl u2.heap.size 0 (bE q ev).toArray rfl rfl ((aC.new u2 26 Z.toArray).there (by simp only[az];have h1:=hLl.o.1;have h2:=HZ.o.2.1;omega)) (by rw[az,hLl.o.1];exact bN) (all_oneCell_toArray hLl.o.2) ?_))
  have k3:=(ag.refl [] u2).alloc (.cells Z.toArray 26)
  have r3:=(aC.new u2 26 Z.toArray).setL (vs:=bE q ev) (o:=0)
  rw[aR (by simp only[az];have h1:=hLl.o.1;have h2:=HZ.o.2.1;omega)] at r3
  have k4:ag [] u2 ((u2.alloc (.cells Z.toArray 26)).setCells u2.heap.size 0 (bE q ev)):=k3.setL (.inr (Nat.le_refl _))
  try simp only[Act.put]
  obtain⟨u3,hu3⟩:∃ u3,(u2.alloc (.cells Z.toArray 26)).setCells u2.heap.size 0 (bE q ev)=u3:=⟨_,rfl⟩
  rw[hu3] at r3 k4 ⊢
  have Q3:=aa (Q2.o.over k4)
  have y1:u3.cell? ⟨sb,1,none⟩=some (.int .i64 part):=Q3.o.row.cell 1
  have y2:=Q3.o.row.free 1
  have hsl2:=Q2.o.row.lt
  have hnu:u2.heap.size≠sb:=by omega
  have k5:=fE u3 sb 1 (.int .i64 E)
  have Q5:=aa (Q3.o.part E)
  have R5:=aa (k5.row r3 (by simp[hnu]))
  have RA5:=aa (k5.row (k4.row RA2.o (by simp)) (by simp[hnA]))
  have K5:=aa (ah ((KW2.o.then k4 (by simp)).then k5 (by simp)) (ah k4 k5))
  clear k3 r3 k4 hu3 k5
  go_upto_region 7 with fail
  obtain⟨u5,hu5⟩:∃ u5,u3.setCell ⟨sb,1,none⟩ (.int .i64 E)=u5:=⟨_,rfl⟩
  rw[hu5] at Q5 R5 RA5 K5 ⊢
  clear hu5 y1 y2
  have r6:=RA5.o.setL (vs:=bE q ev) (o:=0)
  rw[aR (by simp only[az];have h1:=hLl.o.1;have h2:=HZ.o.2.1;omega)] at r6
  have R6:=aa r6
  clear r6
  go_wp2_with (first
   |(refine wpList_load_mid rfl 26 (.tmp 7) rfl u2.heap.size 0 rfl (bE q ev) _ R5.o.rangeAll underlying26 rfl (by rw[hLl.o.1];exact bN) ?_)
   |(refine wpList_store_mid rfl 26 (.tmp 4) (.tmp 28) rfl w.heap.size 0 (bE q ev).toArray rfl rfl (RA5.o.there (by simp only[az];have h1:=hLl.o.1;have h2:=HZ.o.2.1;omega)) (by rw[az,hLl.o.1];exact bN) (all_oneCell_toArray hLl.o.2) ?_))
  refine bodyPost_ret (results_cell_row rfl _ _ w.heap.size 26 _ (0,0) _ rfl R6.o underlying26 rfl (by rw[az,hLl.o.1];exact bN)) rfl ?_
  have k6:=(ag.refl [w.heap.size] u5).setL (vs:=bE q ev) (g:=w.heap.size) (o:=0) (by simp)
  have hGl:∀ y∈G,w.heap.size<y∧sb<y:=fun y hy=>by have h1:=(GV.o.2 y hy).1;have h2:=RA.o.lt;have h3:=Q.o.row.lt;omega
  rw[hE.o]
  refine⟨ev,G,rfl,?_,fun y hy=>⟨by have:=hGl y hy;omega,?_⟩,Q5.o.keep k6 (by simp;exact fun e=>hnA e.symm) (by simp;exact fun e=>hnp e.symm) (fun hne=>by have:=HS.o.2.2.2.2.1 (S1.o.1 hne);simp;omega),K5.o.1.then k6 (by simp)⟩
  ·exact⟨GV.o.1.1,(((GV.o.1.2).keep K5.o.2.1 (by simp)).keep K5.o.2.2 (fun y hy=>by have:=hGl y hy;simp;omega)).keep k6 (fun y hy=>by have:=hGl y hy;simp;omega)⟩
  ·have h1:=(GV.o.2 y hy).2;have h2:=K5.o.2.1.size;have h3:=K5.o.2.2.size;have h4:=k6.size;omega
 ·have hfb:(bD part r1.e !=0)=true:=by simp[hf]
  have hE:aH (gT r part=(aV,r1,part)):=aa (by unfold gT;rw[HX.o.2.1,if_neg hf])
  clear hf
  have r6:=RA.o.setL (vs:=Z) (o:=0)
  rw[aR (by rfl)] at r6
  have R6:=aa r6
  clear r6
  go_wp2_with (first
   |(go_at_call 95;refine (eQ _ sb p g r1 part Q.o).mono ?_;rintro e u9 ⟨rfl,rfl⟩)
   |(refine wpList_load_mid rfl 26 (.tmp 5) rfl wA.heap.size 0 rfl Z _ RB.o.rangeAll underlying26 rfl HI.o.1 ?_)
   |(refine wpList_store_mid rfl 26 (.tmp 4) (.tmp 17) rfl w.heap.size 0 Z.toArray rfl rfl (RA.o.there (by simp only[az];omega)) HI.o.2 (all_oneCell_toArray HZ.o.2.2) ?_))
  refine bodyPost_ret (results_cell_row rfl _ _ w.heap.size 26 _ (0,0) _ rfl R6.o underlying26 rfl HI.o.2) rfl ?_
  have k6:=(ag.refl [w.heap.size] u1).setL (vs:=Z) (g:=w.heap.size) (o:=0) (by simp)
  rw[hE.o]
  refine⟨ay,[],by rw[←HZ.o.1],⟨aK,aS.nil _ _⟩,fun y hy=>by simp at hy,Q.o.keep k6 (by simp;exact fun e=>hnA e.symm) (by simp;exact fun e=>hnp e.symm) (fun hne=>by have:=HS.o.2.2.2.2.1 (S1.o.1 hne);simp;omega),KW.o.then k6 (by simp)⟩
def gQ (r:RS) (part:Int):AN × RS × Int:=
 if bD part (r.text 2048).2.e=0 then ((dB (r.text 2048).1).1,(r.text 2048).2,(dB (r.text 2048).1).2) else (aY,(r.text 2048).2,part)
theorem qA (p g sb:Nat) (r:RS) (part:Int) (w:World) (hs:nO w sb p g r part):
 Calls prog 144 #[.pointer (some ⟨sb,0,none⟩),.func (.func 32) #[] #[]] w fun e w'=>∃ ev G,e= .returned (.agg (bK (gQ r part).1 ev).toArray)∧mM w' G (gQ r part).1 ev∧bP w w' G∧nO w' sb p g (gQ r part).2.1 (gQ r part).2.2∧ag [sb,p] w w':=by
 obtain⟨x1,hx1⟩:∃ x,(r.text 2048).1=x:=⟨_,rfl⟩
 obtain⟨r1,hr1⟩:∃ x,(r.text 2048).2=x:=⟨_,rfl⟩
 have S1:aH ((r1.l≠[]→r.l≠[])∧r1.l.length≤r.l.length):=aa (by rw[←hr1];exact⟨dO,fG _ _⟩)
 have hxl:x1.length≤1000000:=by rw[←hx1];exact Nat.le_trans (jN r 2048) hs.len
 obtain⟨Z,hZ⟩:∃ Z,bK aY ay=Z:=⟨_,rfl⟩
 have zv:=qR
 have zl:=sO
 have zo:=xO
 rw[hZ] at zv zl zo
 have kA:=(ag.refl [] w).alloc (.cells Z.toArray 28)
 have rA:=aC.new w 28 Z.toArray
 obtain⟨wA,hwA⟩:∃ wA,w.alloc (.cells Z.toArray 28)=wA:=⟨_,rfl⟩
 rw[hwA] at kA rA
 have kB:=(ag.refl [] wA).alloc (.cells Z.toArray 28)
 have rB:=aC.new wA 28 Z.toArray
 obtain⟨wB,hwB⟩:∃ wB,wA.alloc (.cells Z.toArray 28)=wB:=⟨_,rfl⟩
 rw[hwB] at kB rB
 have kk:=kA.then kB (by simp)
 have hsl:=hs.row.lt
 have hpl:=hs.rd.lt
 have HS:=aa (ah (hs.over kk) (ah (kB.row rA (by simp)) (ah rB (ah kk (ah (fun hne=>hs.rd.gl hne) rA.lt)))))
 have HW:=aa (ah hwA (ah hwB zv))
 have HZ:=aa (ah hZ (ah zl zo))
 have HX:=aa (ah hx1 (ah hr1 hxl))
 have hI:(prog.info? 28).map (·.size)=some Z.length:=by rw[zl];exact bR
 have hJ:(prog.info? 28).map (·.size)=some Z.toArray.size:=by rw[az];exact hI
 have HI:=aa (ah hI hJ)
 clear hZ zv zl zo kA rA hwA kB rB hwB kk hs hx1 hr1 hxl hI hJ
 have hnA:w.heap.size≠sb:=by omega
 have hnp:w.heap.size≠p:=by omega
 have c0:wB.cell? ⟨sb,0,none⟩=some (.pointer (some ⟨p,0,none⟩)):=HS.o.1.row.cell 0
 go_enter func144,ntmps144
 go_upto_region 3 with (first
  |(with_reducible refine aD _ _ rfl 28 rfl _ HW.o.2.2 HW.o.1 ?_)
  |(with_reducible refine aD _ _ rfl 28 rfl _ HW.o.2.2 HW.o.2.1 ?_)
  |(go_at_call 104;refine (kI p g r 2048 _ HS.o.1.rd (by have:=HS.o.1.len;omega)).mono ?_;intro e u1 hq;unfold jM at hq;rw[HX.o.1,HX.o.2.1] at hq;obtain⟨ue,rfl,hfr,hr,hk⟩:=hq;obtain⟨A6,c6,G6,rfl,hb6,hn6⟩:=hfr.gives;have Q:=aa (HS.o.1.read hr hk S1.o.1 S1.o.2);have K1:=aa hk;have B6:=aa (ah hb6 hn6);clear hr hk hfr hb6 hn6))
 have RA:=aa (K1.o.row HS.o.2.1 (by simp[hnp]))
 have RB:=aa (K1.o.row HS.o.2.2.1 (by have:=HS.o.2.2.2.2.2;simp;omega))
 have KW:aH (ag [sb,p] w u1):=aa ((HS.o.2.2.2.1.more (by simp)).then K1.o (by simp))
 clear c0 K1
 by_cases hf:bD part r1.e=0
 ·have HF:=aa hf
  have hE:aH (gQ r part=((dB x1).1,r1,(dB x1).2)):=aa (by unfold gQ;rw[HX.o.2.1,HX.o.1,if_pos hf])
  clear hf
  obtain⟨q,hq⟩:∃ q,(dB x1).1=q:=⟨_,rfl⟩
  obtain⟨E,hEE⟩:∃ q,(dB x1).2=q:=⟨_,rfl⟩
  rw[hq,hEE] at hE
  have HQ:=aa (ah hq hEE)
  clear hq hEE
  go_upto_region 5 with (first
   |(go_at_call 95;refine (eQ _ sb p g r1 part Q.o).mono ?_;rintro e u9 ⟨rfl,rfl⟩;rw[HF.o]))
  go_upto_region 6 with (first
   |(go_at_call 32;refine (oH G6 x1 _ _ B6.o.1 HX.o.2.2).mono ?_;rintro e u2 ⟨ev,G,rfl,gv,gn,gk⟩;rw[HQ.o.1,HQ.o.2] at*;have Q2:=aa (Q.o.over gk);have RA2:=aa (gk.row RA.o (by simp));have KW2:=aa (KW.o.then gk (by simp));have GV:=aa (ah gv gn);have hLl:aH ((bK q ev).length=38∧∀ u∈bK q ev,u.oneCell'=true):=aa ⟨bL gv.1,eB q gv.2.one⟩;clear gv gn gk)
   |(with_reducible refine aD _ _ rfl 28 rfl _ HW.o.2.2 rfl ?_)
   |(refine wpList_store_mid rfl 28 (.tmp 7) (.tmp 22) rfl u2.heap.size 0 (bK q ev).toArray rfl rfl ((aC.new u2 28 Z.toArray).there (by simp only[az];have h1:=hLl.o.1;have h2:=HZ.o.2.1;omega)) (by rw[az,hLl.o.1];exact bR) (all_oneCell_toArray hLl.o.2) ?_))
  have k3:=(ag.refl [] u2).alloc (.cells Z.toArray 28)
  have r3:=(aC.new u2 28 Z.toArray).setL (vs:=bK q ev) (o:=0)
  rw[aR (by simp only[az];have h1:=hLl.o.1;have h2:=HZ.o.2.1;omega)] at r3
  have k4:ag [] u2 ((u2.alloc (.cells Z.toArray 28)).setCells u2.heap.size 0 (bK q ev)):=k3.setL (.inr (Nat.le_refl _))
  try simp only[Act.put]
  obtain⟨u3,hu3⟩:∃ u3,(u2.alloc (.cells Z.toArray 28)).setCells u2.heap.size 0 (bK q ev)=u3:=⟨_,rfl⟩
  rw[hu3] at r3 k4 ⊢
  have Q3:=aa (Q2.o.over k4)
  have y1:u3.cell? ⟨sb,1,none⟩=some (.int .i64 part):=Q3.o.row.cell 1
  have y2:=Q3.o.row.free 1
  have hsl2:=Q2.o.row.lt
  have hnu:u2.heap.size≠sb:=by omega
  have k5:=fE u3 sb 1 (.int .i64 E)
  have Q5:=aa (Q3.o.part E)
  have R5:=aa (k5.row r3 (by simp[hnu]))
  have RA5:=aa (k5.row (k4.row RA2.o (by simp)) (by simp[hnA]))
  have K5:=aa (ah ((KW2.o.then k4 (by simp)).then k5 (by simp)) (ah k4 k5))
  clear k3 r3 k4 hu3 k5
  go_upto_region 7 with fail
  obtain⟨u5,hu5⟩:∃ u5,u3.setCell ⟨sb,1,none⟩ (.int .i64 E)=u5:=⟨_,rfl⟩
  rw[hu5] at Q5 R5 RA5 K5 ⊢
  clear hu5 y1 y2
  have r6:=RA5.o.setL (vs:=bK q ev) (o:=0)
  rw[aR (by simp only[az];have h1:=hLl.o.1;have h2:=HZ.o.2.1;omega)] at r6
  have R6:=aa r6
  clear r6
  go_wp2_with (first
   |(refine wpList_load_mid rfl 28 (.tmp 7) rfl u2.heap.size 0 rfl (bK q ev) _ R5.o.rangeAll underlying28 rfl (by rw[hLl.o.1];exact bR) ?_)
   |(refine wpList_store_mid rfl 28 (.tmp 4) (.tmp 28) rfl w.heap.size 0 (bK q ev).toArray rfl rfl (RA5.o.there (by simp only[az];have h1:=hLl.o.1;have h2:=HZ.o.2.1;omega)) (by rw[az,hLl.o.1];exact bR) (all_oneCell_toArray hLl.o.2) ?_))
  refine bodyPost_ret (results_cell_row rfl _ _ w.heap.size 28 _ (0,0) _ rfl R6.o underlying28 rfl (by rw[az,hLl.o.1];exact bR)) rfl ?_
  have k6:=(ag.refl [w.heap.size] u5).setL (vs:=bK q ev) (g:=w.heap.size) (o:=0) (by simp)
  have hGl:∀ y∈G,w.heap.size<y∧sb<y:=fun y hy=>by have h1:=(GV.o.2 y hy).1;have h2:=RA.o.lt;have h3:=Q.o.row.lt;omega
  rw[hE.o]
  refine⟨ev,G,rfl,?_,fun y hy=>⟨by have:=hGl y hy;omega,?_⟩,Q5.o.keep k6 (by simp;exact fun e=>hnA e.symm) (by simp;exact fun e=>hnp e.symm) (fun hne=>by have:=HS.o.2.2.2.2.1 (S1.o.1 hne);simp;omega),K5.o.1.then k6 (by simp)⟩
  ·exact⟨GV.o.1.1,(((GV.o.1.2).keep K5.o.2.1 (by simp)).keep K5.o.2.2 (fun y hy=>by have:=hGl y hy;simp;omega)).keep k6 (fun y hy=>by have:=hGl y hy;simp;omega)⟩
  ·have h1:=(GV.o.2 y hy).2;have h2:=K5.o.2.1.size;have h3:=K5.o.2.2.size;have h4:=k6.size;omega
 ·have hfb:(bD part r1.e !=0)=true:=by simp[hf]
  have hE:aH (gQ r part=(aY,r1,part)):=aa (by unfold gQ;rw[HX.o.2.1,if_neg hf])
  clear hf
  have r6:=RA.o.setL (vs:=Z) (o:=0)
  rw[aR (by rfl)] at r6
  have R6:=aa r6
  clear r6
  go_wp2_with (first
   |(go_at_call 95;refine (eQ _ sb p g r1 part Q.o).mono ?_;rintro e u9 ⟨rfl,rfl⟩)
   |(refine wpList_load_mid rfl 28 (.tmp 5) rfl wA.heap.size 0 rfl Z _ RB.o.rangeAll underlying28 rfl HI.o.1 ?_)
   |(refine wpList_store_mid rfl 28 (.tmp 4) (.tmp 17) rfl w.heap.size 0 Z.toArray rfl rfl (RA.o.there (by simp only[az];omega)) HI.o.2 (all_oneCell_toArray HZ.o.2.2) ?_))
  refine bodyPost_ret (results_cell_row rfl _ _ w.heap.size 28 _ (0,0) _ rfl R6.o underlying28 rfl HI.o.2) rfl ?_
  have k6:=(ag.refl [w.heap.size] u1).setL (vs:=Z) (g:=w.heap.size) (o:=0) (by simp)
  rw[hE.o]
  refine⟨ay,[],by rw[←HZ.o.1],⟨aM,aS.nil _ _⟩,fun y hy=>by simp at hy,Q.o.keep k6 (by simp;exact fun e=>hnA e.symm) (by simp;exact fun e=>hnp e.symm) (fun hne=>by have:=HS.o.2.2.2.2.1 (S1.o.1 hne);simp;omega),KW.o.then k6 (by simp)⟩
def dZ (r:RS) (part:Int):CF × RS × Int:=
 if bD part (r.text 2048).2.e=0 then ((cz (r.text 2048).1).1,(r.text 2048).2,(cz (r.text 2048).1).2) else (aW,(r.text 2048).2,part)
theorem lH (p g sb:Nat) (r:RS) (part:Int) (w:World) (hs:nO w sb p g r part):
 Calls prog 145 #[.pointer (some ⟨sb,0,none⟩),.func (.func 34) #[] #[]] w fun e w'=>∃ ev G,e= .returned (.agg (bZ (dZ r part).1 ev).toArray)∧bq w' G ev (dZ r part).1.chain∧bP w w' G∧nO w' sb p g (dZ r part).2.1 (dZ r part).2.2∧ag [sb,p] w w':=by
 obtain⟨x1,hx1⟩:∃ x,(r.text 2048).1=x:=⟨_,rfl⟩
 obtain⟨r1,hr1⟩:∃ x,(r.text 2048).2=x:=⟨_,rfl⟩
 have S1:aH ((r1.l≠[]→r.l≠[])∧r1.l.length≤r.l.length):=aa (by rw[←hr1];exact⟨dO,fG _ _⟩)
 have hxl:x1.length≤1000000:=by rw[←hx1];exact Nat.le_trans (jN r 2048) hs.len
 obtain⟨Z,hZ⟩:∃ Z,bZ aW ay=Z:=⟨_,rfl⟩
 have zv:=oW
 have zl:=(show (bZ aW ay).length=3 from rfl)
 have zo:=xS
 rw[hZ] at zv zl zo
 have kA:=(ag.refl [] w).alloc (.cells Z.toArray 31)
 have rA:=aC.new w 31 Z.toArray
 obtain⟨wA,hwA⟩:∃ wA,w.alloc (.cells Z.toArray 31)=wA:=⟨_,rfl⟩
 rw[hwA] at kA rA
 have kB:=(ag.refl [] wA).alloc (.cells Z.toArray 31)
 have rB:=aC.new wA 31 Z.toArray
 obtain⟨wB,hwB⟩:∃ wB,wA.alloc (.cells Z.toArray 31)=wB:=⟨_,rfl⟩
 rw[hwB] at kB rB
 have kk:=kA.then kB (by simp)
 have hsl:=hs.row.lt
 have hpl:=hs.rd.lt
 have HS:=aa (ah (hs.over kk) (ah (kB.row rA (by simp)) (ah rB (ah kk (ah (fun hne=>hs.rd.gl hne) rA.lt)))))
 have HW:=aa (ah hwA (ah hwB zv))
 have HZ:=aa (ah hZ (ah zl zo))
 have HX:=aa (ah hx1 (ah hr1 hxl))
 have hI:(prog.info? 31).map (·.size)=some Z.length:=by rw[zl];exact bS
 have hJ:(prog.info? 31).map (·.size)=some Z.toArray.size:=by rw[az];exact hI
 have HI:=aa (ah hI hJ)
 clear hZ zv zl zo kA rA hwA kB rB hwB kk hs hx1 hr1 hxl hI hJ
 have hnA:w.heap.size≠sb:=by omega
 have hnp:w.heap.size≠p:=by omega
 have c0:wB.cell? ⟨sb,0,none⟩=some (.pointer (some ⟨p,0,none⟩)):=HS.o.1.row.cell 0
 go_enter func145,ntmps145
 go_upto_region 3 with (first
  |(with_reducible refine aD _ _ rfl 31 rfl _ HW.o.2.2 HW.o.1 ?_)
  |(with_reducible refine aD _ _ rfl 31 rfl _ HW.o.2.2 HW.o.2.1 ?_)
  |(go_at_call 104;refine (kI p g r 2048 _ HS.o.1.rd (by have:=HS.o.1.len;omega)).mono ?_;intro e u1 hq;unfold jM at hq;rw[HX.o.1,HX.o.2.1] at hq;obtain⟨ue,rfl,hfr,hr,hk⟩:=hq;obtain⟨A6,c6,G6,rfl,hb6,hn6⟩:=hfr.gives;have Q:=aa (HS.o.1.read hr hk S1.o.1 S1.o.2);have K1:=aa hk;have B6:=aa (ah hb6 hn6);clear hr hk hfr hb6 hn6))
 have RA:=aa (K1.o.row HS.o.2.1 (by simp[hnp]))
 have RB:=aa (K1.o.row HS.o.2.2.1 (by have:=HS.o.2.2.2.2.2;simp;omega))
 have KW:aH (ag [sb,p] w u1):=aa ((HS.o.2.2.2.1.more (by simp)).then K1.o (by simp))
 clear c0 K1
 by_cases hf:bD part r1.e=0
 ·have HF:=aa hf
  have hE:aH (dZ r part=((cz x1).1,r1,(cz x1).2)):=aa (by unfold dZ;rw[HX.o.2.1,HX.o.1,if_pos hf])
  clear hf
  obtain⟨q,hq⟩:∃ q,(cz x1).1=q:=⟨_,rfl⟩
  obtain⟨E,hEE⟩:∃ q,(cz x1).2=q:=⟨_,rfl⟩
  rw[hq,hEE] at hE
  have HQ:=aa (ah hq hEE)
  clear hq hEE
  go_upto_region 5 with (first
   |(go_at_call 95;refine (eQ _ sb p g r1 part Q.o).mono ?_;rintro e u9 ⟨rfl,rfl⟩;rw[HF.o]))
  go_upto_region 6 with (first
   |(go_at_call 34;refine (oJ G6 x1 _ _ B6.o.1 HX.o.2.2).mono ?_;rintro e u2 ⟨ev,G,rfl,gv,gn,gk⟩;rw[HQ.o.1,HQ.o.2] at*;have Q2:=aa (Q.o.over gk);have RA2:=aa (gk.row RA.o (by simp));have KW2:=aa (KW.o.then gk (by simp));have GV:=aa (ah gv gn);have hLl:aH ((bZ q ev).length=3∧∀ u∈bZ q ev,u.oneCell'=true):=aa ⟨rfl,fM q gv.one⟩;clear gv gn gk)
   |(with_reducible refine aD _ _ rfl 31 rfl _ HW.o.2.2 rfl ?_)
   |(refine wpList_store_mid rfl 31 (.tmp 7) (.tmp 22) rfl u2.heap.size 0 (bZ q ev).toArray rfl rfl ((aC.new u2 31 Z.toArray).there (by simp only[az];have h1:=hLl.o.1;have h2:=HZ.o.2.1;omega)) (by rw[az,hLl.o.1];exact bS) (all_oneCell_toArray hLl.o.2) ?_))
  have k3:=(ag.refl [] u2).alloc (.cells Z.toArray 31)
  have r3:=(aC.new u2 31 Z.toArray).setL (vs:=bZ q ev) (o:=0)
  rw[aR (by simp only[az];have h1:=hLl.o.1;have h2:=HZ.o.2.1;omega)] at r3
  have k4:ag [] u2 ((u2.alloc (.cells Z.toArray 31)).setCells u2.heap.size 0 (bZ q ev)):=k3.setL (.inr (Nat.le_refl _))
  try simp only[Act.put]
  obtain⟨u3,hu3⟩:∃ u3,(u2.alloc (.cells Z.toArray 31)).setCells u2.heap.size 0 (bZ q ev)=u3:=⟨_,rfl⟩
  rw[hu3] at r3 k4 ⊢
  have Q3:=aa (Q2.o.over k4)
  have y1:u3.cell? ⟨sb,1,none⟩=some (.int .i64 part):=Q3.o.row.cell 1
  have y2:=Q3.o.row.free 1
  have hsl2:=Q2.o.row.lt
  have hnu:u2.heap.size≠sb:=by omega
  have k5:=fE u3 sb 1 (.int .i64 E)
  have Q5:=aa (Q3.o.part E)
  have R5:=aa (k5.row r3 (by simp[hnu]))
  have RA5:=aa (k5.row (k4.row RA2.o (by simp)) (by simp[hnA]))
  have K5:=aa (ah ((KW2.o.then k4 (by simp)).then k5 (by simp)) (ah k4 k5))
  clear k3 r3 k4 hu3 k5
  go_upto_region 7 with fail
  obtain⟨u5,hu5⟩:∃ u5,u3.setCell ⟨sb,1,none⟩ (.int .i64 E)=u5:=⟨_,rfl⟩
  rw[hu5] at Q5 R5 RA5 K5 ⊢
  clear hu5 y1 y2
  have r6:=RA5.o.setL (vs:=bZ q ev) (o:=0)
  rw[aR (by simp only[az];have h1:=hLl.o.1;have h2:=HZ.o.2.1;omega)] at r6
  have R6:=aa r6
  clear r6
  go_wp2_with (first
   |(refine wpList_load_mid rfl 31 (.tmp 7) rfl u2.heap.size 0 rfl (bZ q ev) _ R5.o.rangeAll underlying31 rfl (by rw[hLl.o.1];exact bS) ?_)
   |(refine wpList_store_mid rfl 31 (.tmp 4) (.tmp 28) rfl w.heap.size 0 (bZ q ev).toArray rfl rfl (RA5.o.there (by simp only[az];have h1:=hLl.o.1;have h2:=HZ.o.2.1;omega)) (by rw[az,hLl.o.1];exact bS) (all_oneCell_toArray hLl.o.2) ?_))
  refine bodyPost_ret (results_cell_row rfl _ _ w.heap.size 31 _ (0,0) _ rfl R6.o underlying31 rfl (by rw[az,hLl.o.1];exact bS)) rfl ?_
  have k6:=(ag.refl [w.heap.size] u5).setL (vs:=bZ q ev) (g:=w.heap.size) (o:=0) (by simp)
  have hGl:∀ y∈G,w.heap.size<y∧sb<y:=fun y hy=>by have h1:=(GV.o.2 y hy).1;have h2:=RA.o.lt;have h3:=Q.o.row.lt;omega
  rw[hE.o]
  refine⟨ev,G,rfl,?_,fun y hy=>⟨by have:=hGl y hy;omega,?_⟩,Q5.o.keep k6 (by simp;exact fun e=>hnA e.symm) (by simp;exact fun e=>hnp e.symm) (fun hne=>by have:=HS.o.2.2.2.2.1 (S1.o.1 hne);simp;omega),K5.o.1.then k6 (by simp)⟩
  ·exact (((GV.o.1).keep K5.o.2.1 (by simp)).keep K5.o.2.2 (fun y hy=>by have:=hGl y hy;simp;omega)).keep k6 (fun y hy=>by have:=hGl y hy;simp;omega)
  ·have h1:=(GV.o.2 y hy).2;have h2:=K5.o.2.1.size;have h3:=K5.o.2.2.size;have h4:=k6.size;omega
 ·have hfb:(bD part r1.e !=0)=true:=by simp[hf]
  have hE:aH (dZ r part=(aW,r1,part)):=aa (by unfold dZ;rw[HX.o.2.1,if_neg hf])
  clear hf
  have r6:=RA.o.setL (vs:=Z) (o:=0)
  rw[aR (by rfl)] at r6
  have R6:=aa r6
  clear r6
  go_wp2_with (first
   |(go_at_call 95;refine (eQ _ sb p g r1 part Q.o).mono ?_;rintro e u9 ⟨rfl,rfl⟩)
   |(refine wpList_load_mid rfl 31 (.tmp 5) rfl wA.heap.size 0 rfl Z _ RB.o.rangeAll underlying31 rfl HI.o.1 ?_)
   |(refine wpList_store_mid rfl 31 (.tmp 4) (.tmp 17) rfl w.heap.size 0 Z.toArray rfl rfl (RA.o.there (by simp only[az];omega)) HI.o.2 (all_oneCell_toArray HZ.o.2.2) ?_))
  refine bodyPost_ret (results_cell_row rfl _ _ w.heap.size 31 _ (0,0) _ rfl R6.o underlying31 rfl HI.o.2) rfl ?_
  have k6:=(ag.refl [w.heap.size] u1).setL (vs:=Z) (g:=w.heap.size) (o:=0) (by simp)
  rw[hE.o]
  refine⟨ay,[],by rw[←HZ.o.1],bq.nil _ _,fun y hy=>by simp at hy,Q.o.keep k6 (by simp;exact fun e=>hnA e.symm) (by simp;exact fun e=>hnp e.symm) (fun hne=>by have:=HS.o.2.2.2.2.1 (S1.o.1 hne);simp;omega),KW.o.then k6 (by simp)⟩
def DC (r:RS):RS:=(r.num 1).2
def vS (r:RS) (part:Int):Int:=if 1<(r.num 1).1 then 4 else part
theorem ry (p g sb:Nat) (r:RS) (part:Int) (w:World) (hs:nO w sb p g r part):
 Calls prog 142 #[.pointer (some ⟨sb,0,none⟩)] w fun e w'=>e= .returned (.bool (decide ((r.num 1).1=1)))∧nO w' sb p g (DC r) (vS r part)∧ag [sb,p] w w':=by
 obtain⟨x1,hx1⟩:∃ x,(r.num 1).1=x:=⟨_,rfl⟩
 have c0:w.cell? ⟨sb,0,none⟩=some (.pointer (some ⟨p,0,none⟩)):=hs.row.cell 0
 have H:=aa hs
 have HX:=aa hx1
 rw[hx1]
 clear hs hx1
 by_cases h1:1<x1
 ·have hb:(decide (1<x1))=true:=decide_eq_true h1
  have hb2:(x1==1)=false:=by simp;omega
  have hE:aH (vS r part=4∧decide (x1=1)=false):=aa ⟨by unfold vS;rw[HX.o,if_pos h1],by simp;omega⟩
  go_enter func142,ntmps142
  go_upto_region 3 with (first
   |(go_at_call 94;refine (fP p g r 1 _ H.o.rd).mono ?_;intro e u1 hq;unfold fJ at hq;rw[HX.o] at hq;obtain⟨rfl,hr,hk⟩:=hq;have Q:=aa (H.o.read hr hk cO (bV _ _));have K1:=aa hk;have y:u1.cell? ⟨sb,1,none⟩=some (.int .i64 part):=Q.o.row.cell 1;have y2:=Q.o.row.free 1;clear hr hk))
  go_wp2_with fail
  go_ret
  exact⟨by rw[hE.o.2];rfl,by rw[hE.o.1];exact Q.o.part 4,(K1.o.more (by simp)).setCell _ _ (by simp)⟩
 ·have hE:aH (vS r part=part):=aa (by unfold vS;rw[HX.o,if_neg h1])
  by_cases h2:x1=1
  ·have hE2:aH (decide (x1=1)=true):=aa (decide_eq_true h2)
   have H2:=aa h2
   clear h2 h1
   go_enter func142,ntmps142
   go_wp2_with (first
    |(go_at_call 94;refine (fP p g r 1 _ H.o.rd).mono ?_;intro e u1 hq;unfold fJ at hq;rw[HX.o,H2.o] at hq;obtain⟨rfl,hr,hk⟩:=hq;have Q:=aa (H.o.read hr hk cO (bV _ _));have K1:=aa hk;clear hr hk))
   go_ret
   exact⟨by rw[hE2.o];rfl,by rw[hE.o];exact Q.o,K1.o.more (by simp)⟩
  ·have hb:(decide (1<x1))=false:=decide_eq_false h1
   have hb2:(x1==1)=false:=by simp;omega
   have hE2:aH (decide (x1=1)=false):=aa (decide_eq_false h2)
   clear h2
   go_enter func142,ntmps142
   go_wp2_with (first
    |(go_at_call 94;refine (fP p g r 1 _ H.o.rd).mono ?_;intro e u1 hq;unfold fJ at hq;rw[HX.o] at hq;obtain⟨rfl,hr,hk⟩:=hq;have Q:=aa (H.o.read hr hk cO (bV _ _));have K1:=aa hk;clear hr hk))
   go_ret
   exact⟨by rw[hE2.o];rfl,by rw[hE.o];exact Q.o,K1.o.more (by simp)⟩
end Go.Proofs.YthfdkonhjpdflaaGreatDoor
