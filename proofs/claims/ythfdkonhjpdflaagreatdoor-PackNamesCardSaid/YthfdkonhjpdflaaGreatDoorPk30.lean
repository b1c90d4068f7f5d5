import Derived.Test.YthfdkonhjpdflaaGreatDoorPk29
namespace Go.Proofs.YthfdkonhjpdflaaGreatDoor
open Go.RowKit Go.Proofs.Tryz
set_option linter.unusedVariables false
set_option maxRecDepth 100000
set_option linter.unusedSimpArgs false
set_option maxHeartbeats 16000000
structure sI (w:World) (sb p g:Nat) (r:RS) (part:Int):Prop where
 row:l5 w sb 104 #[.pointer (some ⟨p,0,none⟩),.int .i64 part]
 rd:ME w p g r
 ne:sb≠p
 gl:r.l≠[]→g≠sb
 len:r.l.length≤1000000
theorem sI.keep {S:List Nat} {w w':World} {sb p g:Nat} {r:RS} {part:Int} (h:sI w sb p g r part) (hk:U1 S w w') (h1:sb∉S) (h2:p∉S) (h3:r.l≠[]→g∉S):sI w' sb p g r part:=
 ⟨hk.row h.row h1,h.rd.keep hk h2 h3,h.ne,h.gl,h.len⟩
theorem sI.over {w w':World} {sb p g:Nat} {r:RS} {part:Int} (h:sI w sb p g r part) (hk:U1 [] w w'):sI w' sb p g r part:=h.keep hk (by simp) (by simp) (by simp)
theorem sI.read {w w':World} {sb p g:Nat} {r r':RS} {part:Int} (h:sI w sb p g r part) (hr:ME w' p g r') (hk:U1 [p] w w') (hl:r'.l≠[]→r.l≠[]) (hs:r'.l.length≤r.l.length):sI w' sb p g r' part:=
 ⟨hk.row h.row (by have:=h.ne;simp[this]),hr,h.ne,fun hne=>h.gl (hl hne),Nat.le_trans hs h.len⟩
theorem sI.part {w:World} {sb p g:Nat} {r:RS} {part:Int} (h:sI w sb p g r part) (x:Int):sI (w.setCell ⟨sb,1,none⟩ (.int .i64 x)) sb p g r x:=
 ⟨h.row.set 1 _,h.rd.keep (xC w sb 1 _) (by have:=h.ne;simp;exact fun e=>this e.symm) (fun hne=>by have:=h.gl hne;simp[this]),h.ne,h.gl,h.len⟩
def R8 (part e:Int):Int:=if part=0 then e else part
theorem XB (w:World) (sb p g:Nat) (r:RS) (part:Int) (h:sI w sb p g r part):
 Calls prog 95 #[.pointer (some ⟨sb,0,none⟩)] w fun e w'=>e= .returned (.int .i64 (R8 part r.e))∧w=w':=by
 have c0:w.cell? ⟨sb,0,none⟩=some (.pointer (some ⟨p,0,none⟩)):=h.row.cell 0
 have c1:w.cell? ⟨sb,1,none⟩=some (.int .i64 part):=h.row.cell 1
 have H:=U0 h
 clear h
 by_cases hp:part=0
 ·have hb:(part !=0)=false:=by simp[hp]
  have HE:=U0 (show R8 part r.e=r.e by unfold R8;rw[if_pos hp])
  clear hp
  go_enter func95,ntmps95
  go_wp2_with (first
   |(go_at_call 141;refine (oJ p g r _ H.o.rd).mono ?_;rintro e w' ⟨rfl,rfl⟩))
  go_ret
  exact⟨by rw[HE.o];rfl,rfl⟩
 ·have hb:(part !=0)=true:=by simp[hp]
  have HE:=U0 (show R8 part r.e=part by unfold R8;rw[if_neg hp])
  clear hp
  go_enter func95,ntmps95
  go_wp2_with fail
  go_ret
  exact⟨by rw[HE.o];rfl,rfl⟩
theorem IU (r:RS) (n:Nat):(r.take n).length≤r.l.length:=by
 unfold RS.take
 split
 ·rw[List.length_take];omega
 ·simp
theorem tF (r:RS) (n:Int):(r.text n).1.length≤r.l.length:=by
 unfold RS.text RS.raw
 split
 ·simp
 ·exact Nat.le_trans (IU _ _) (RS.count_short r n)
def sD (r:RS) (part:Int):RQ × RS × Int:=
 if R8 part (r.text 2048).2.e=0 then ((JA (r.text 2048).1).1,(r.text 2048).2,(JA (r.text 2048).1).2) else (I7,(r.text 2048).2,part)
theorem aK (p g sb:Nat) (r:RS) (part:Int) (w:World) (hs:sI w sb p g r part):
 Calls prog 143 #[.pointer (some ⟨sb,0,none⟩),.func (.func 30) #[] #[]] w fun e w'=>∃ ev G,e= .returned (.agg (U8 (sD r part).1 ev).toArray)∧dH w' G (sD r part).1 ev∧I9 w w' G∧sI w' sb p g (sD r part).2.1 (sD r part).2.2∧U1 [sb,p] w w':=by
 obtain⟨x1,hx1⟩:∃ x,(r.text 2048).1=x:=⟨_,rfl⟩
 obtain⟨r1,hr1⟩:∃ x,(r.text 2048).2=x:=⟨_,rfl⟩
 have S1:V5 ((r1.l≠[]→r.l≠[])∧r1.l.length≤r.l.length):=U0 (by rw[←hr1];exact⟨cB,zC _ _⟩)
 have hxl:x1.length≤1000000:=by rw[←hx1];exact Nat.le_trans (tF r 2048) hs.len
 obtain⟨Z,hZ⟩:∃ Z,U8 I7 I4=Z:=⟨_,rfl⟩
 have zv:=nI
 have zl:=uJ
 have zo:=rQ
 rw[hZ] at zv zl zo
 have kA:=(U1.refl [] w).alloc (.cells Z.toArray 26)
 have rA:=l5.new w 26 Z.toArray
 obtain⟨wA,hwA⟩:∃ wA,w.alloc (.cells Z.toArray 26)=wA:=⟨_,rfl⟩
 rw[hwA] at kA rA
 have kB:=(U1.refl [] wA).alloc (.cells Z.toArray 26)
 have rB:=l5.new wA 26 Z.toArray
 obtain⟨wB,hwB⟩:∃ wB,wA.alloc (.cells Z.toArray 26)=wB:=⟨_,rfl⟩
 rw[hwB] at kB rB
 have kk:=kA.then kB (by simp)
 have hsl:=hs.row.lt
 have hpl:=hs.rd.lt
 have HS:=U0 (U2 (hs.over kk) (U2 (kB.row rA (by simp)) (U2 rB (U2 kk (U2 (fun hne=>hs.rd.gl hne) rA.lt)))))
 have HW:=U0 (U2 hwA (U2 hwB zv))
 have HZ:=U0 (U2 hZ (U2 zl zo))
 have HX:=U0 (U2 hx1 (U2 hr1 hxl))
 have hI:(prog.info? 26).map (·.size)=some Z.length:=by rw[zl];exact D9
 have hJ:(prog.info? 26).map (·.size)=some Z.toArray.size:=by rw[U4];exact hI
 have HI:=U0 (U2 hI hJ)
 clear hZ zv zl zo kA rA hwA kB rB hwB kk hs hx1 hr1 hxl hI hJ
 have hnA:w.heap.size≠sb:=by omega
 have hnp:w.heap.size≠p:=by omega
 have c0:wB.cell? ⟨sb,0,none⟩=some (.pointer (some ⟨p,0,none⟩)):=HS.o.1.row.cell 0
 go_enter func143,ntmps143
 go_upto_region 3 with (first
  |(with_reducible refine F5 _ _ rfl 26 rfl _ HW.o.2.2 HW.o.1 ?_)
  |(with_reducible refine F5 _ _ rfl 26 rfl _ HW.o.2.2 HW.o.2.1 ?_)
  |(go_at_call 104;refine (eG p g r 2048 _ HS.o.1.rd (by have:=HS.o.1.len;omega)).mono ?_;intro e u1 hq;unfold sF at hq;rw[HX.o.1,HX.o.2.1] at hq;obtain⟨ue,rfl,hfr,hr,hk⟩:=hq;obtain⟨A6,c6,G6,rfl,hb6,hn6⟩:=hfr.gives;have Q:=U0 (HS.o.1.read hr hk S1.o.1 S1.o.2);have K1:=U0 hk;have B6:=U0 (U2 hb6 hn6);clear hr hk hfr hb6 hn6))
 have RA:=U0 (K1.o.row HS.o.2.1 (by simp[hnp]))
 have RB:=U0 (K1.o.row HS.o.2.2.1 (by have:=HS.o.2.2.2.2.2;simp;omega))
 have KW:V5 (U1 [sb,p] w u1):=U0 ((HS.o.2.2.2.1.more (by simp)).then K1.o (by simp))
 clear c0 K1
 by_cases hf:R8 part r1.e=0
 ·have HF:=U0 hf
  have hE:V5 (sD r part=((JA x1).1,r1,(JA x1).2)):=U0 (by unfold sD;rw[HX.o.2.1,HX.o.1,if_pos hf])
  clear hf
  obtain⟨q,hq⟩:∃ q,(JA x1).1=q:=⟨_,rfl⟩
  obtain⟨E,hEE⟩:∃ q,(JA x1).2=q:=⟨_,rfl⟩
  rw[hq,hEE] at hE
  have HQ:=U0 (U2 hq hEE)
  clear hq hEE
  go_upto_region 5 with (first
   |(go_at_call 95;refine (XB _ sb p g r1 part Q.o).mono ?_;rintro e u9 ⟨rfl,rfl⟩;rw[HF.o]))
  go_upto_region 6 with (first
   |(go_at_call 30;refine (bJ G6 x1 _ _ B6.o.1 HX.o.2.2).mono ?_;rintro e u2 ⟨ev,G,rfl,gv,gn,gk⟩;rw[HQ.o.1,HQ.o.2] at*;have Q2:=U0 (Q.o.over gk);have RA2:=U0 (gk.row RA.o (by simp));have KW2:=U0 (KW.o.then gk (by simp));have GV:=U0 (U2 gv gn);have hLl:V5 ((U8 q ev).length=37∧∀ u∈U8 q ev,u.oneCell'=true):=U0 ⟨O8 gv.1,fB q gv.2.one⟩;clear gv gn gk)
   |(with_reducible refine F5 _ _ rfl 26 rfl _ HW.o.2.2 rfl ?_)
   |(refine wpList_store_mid rfl 26 (.tmp 7) (.tmp 22) rfl u2.heap.size 0 (U8 q ev).toArray rfl rfl ((l5.new u2 26 Z.toArray).there (by simp only[U4];have h1:=hLl.o.1;have h2:=HZ.o.2.1;omega)) (by rw[U4,hLl.o.1];exact D9) (all_oneCell_toArray hLl.o.2) ?_))
  have k3:=(U1.refl [] u2).alloc (.cells Z.toArray 26)
  have r3:=(l5.new u2 26 Z.toArray).setL (vs:=U8 q ev) (o:=0)
  rw[F7 (by simp only[U4];have h1:=hLl.o.1;have h2:=HZ.o.2.1;omega)] at r3
  have k4:U1 [] u2 ((u2.alloc (.cells Z.toArray 26)).setCells u2.heap.size 0 (U8 q ev)):=k3.setL (.inr (Nat.le_refl _))
  try simp only[Act.put]
  obtain⟨u3,hu3⟩:∃ u3,(u2.alloc (.cells Z.toArray 26)).setCells u2.heap.size 0 (U8 q ev)=u3:=⟨_,rfl⟩
  rw[hu3] at r3 k4 ⊢
  have Q3:=U0 (Q2.o.over k4)
  have y1:u3.cell? ⟨sb,1,none⟩=some (.int .i64 part):=Q3.o.row.cell 1
  have y2:=Q3.o.row.free 1
  have hsl2:=Q2.o.row.lt
  have hnu:u2.heap.size≠sb:=by omega
  have k5:=xC u3 sb 1 (.int .i64 E)
  have Q5:=U0 (Q3.o.part E)
  have R5:=U0 (k5.row r3 (by simp[hnu]))
  have RA5:=U0 (k5.row (k4.row RA2.o (by simp)) (by simp[hnA]))
  have K5:=U0 (U2 ((KW2.o.then k4 (by simp)).then k5 (by simp)) (U2 k4 k5))
  clear k3 r3 k4 hu3 k5
  go_upto_region 7 with fail
  obtain⟨u5,hu5⟩:∃ u5,u3.setCell ⟨sb,1,none⟩ (.int .i64 E)=u5:=⟨_,rfl⟩
  rw[hu5] at Q5 R5 RA5 K5 ⊢
  clear hu5 y1 y2
  have r6:=RA5.o.setL (vs:=U8 q ev) (o:=0)
  rw[F7 (by simp only[U4];have h1:=hLl.o.1;have h2:=HZ.o.2.1;omega)] at r6
  have R6:=U0 r6
  clear r6
  go_wp2_with (first
   |(refine wpList_load_mid rfl 26 (.tmp 7) rfl u2.heap.size 0 rfl (U8 q ev) _ R5.o.rangeAll underlying26 rfl (by rw[hLl.o.1];exact D9) ?_)
   |(refine wpList_store_mid rfl 26 (.tmp 4) (.tmp 28) rfl w.heap.size 0 (U8 q ev).toArray rfl rfl (RA5.o.there (by simp only[U4];have h1:=hLl.o.1;have h2:=HZ.o.2.1;omega)) (by rw[U4,hLl.o.1];exact D9) (all_oneCell_toArray hLl.o.2) ?_))
  refine bodyPost_ret (results_cell_row rfl _ _ w.heap.size 26 _ (0,0) _ rfl R6.o underlying26 rfl (by rw[U4,hLl.o.1];exact D9)) rfl ?_
  have k6:=(U1.refl [w.heap.size] u5).setL (vs:=U8 q ev) (g:=w.heap.size) (o:=0) (by simp)
  have hGl:∀ y∈G,w.heap.size<y∧sb<y:=fun y hy=>by have h1:=(GV.o.2 y hy).1;have h2:=RA.o.lt;have h3:=Q.o.row.lt;omega
  rw[hE.o]
  refine⟨ev,G,rfl,?_,fun y hy=>⟨by have:=hGl y hy;omega,?_⟩,Q5.o.keep k6 (by simp;exact fun e=>hnA e.symm) (by simp;exact fun e=>hnp e.symm) (fun hne=>by have:=HS.o.2.2.2.2.1 (S1.o.1 hne);simp;omega),K5.o.1.then k6 (by simp)⟩
  ·exact⟨GV.o.1.1,(((GV.o.1.2).keep K5.o.2.1 (by simp)).keep K5.o.2.2 (fun y hy=>by have:=hGl y hy;simp;omega)).keep k6 (fun y hy=>by have:=hGl y hy;simp;omega)⟩
  ·have h1:=(GV.o.2 y hy).2;have h2:=K5.o.2.1.size;have h3:=K5.o.2.2.size;have h4:=k6.size;omega
 ·have hfb:(R8 part r1.e !=0)=true:=by simp[hf]
  have hE:V5 (sD r part=(I7,r1,part)):=U0 (by unfold sD;rw[HX.o.2.1,if_neg hf])
  clear hf
  have r6:=RA.o.setL (vs:=Z) (o:=0)
  rw[F7 (by rfl)] at r6
  have R6:=U0 r6
  clear r6
  go_wp2_with (first
   |(go_at_call 95;refine (XB _ sb p g r1 part Q.o).mono ?_;rintro e u9 ⟨rfl,rfl⟩)
   |(refine wpList_load_mid rfl 26 (.tmp 5) rfl wA.heap.size 0 rfl Z _ RB.o.rangeAll underlying26 rfl HI.o.1 ?_)
   |(refine wpList_store_mid rfl 26 (.tmp 4) (.tmp 17) rfl w.heap.size 0 Z.toArray rfl rfl (RA.o.there (by simp only[U4];omega)) HI.o.2 (all_oneCell_toArray HZ.o.2.2) ?_))
  refine bodyPost_ret (results_cell_row rfl _ _ w.heap.size 26 _ (0,0) _ rfl R6.o underlying26 rfl HI.o.2) rfl ?_
  have k6:=(U1.refl [w.heap.size] u1).setL (vs:=Z) (g:=w.heap.size) (o:=0) (by simp)
  rw[hE.o]
  refine⟨I4,[],by rw[←HZ.o.1],⟨j6,G7.nil _ _⟩,fun y hy=>by simp at hy,Q.o.keep k6 (by simp;exact fun e=>hnA e.symm) (by simp;exact fun e=>hnp e.symm) (fun hne=>by have:=HS.o.2.2.2.2.1 (S1.o.1 hne);simp;omega),KW.o.then k6 (by simp)⟩
def rD (r:RS) (part:Int):AN × RS × Int:=
 if R8 part (r.text 2048).2.e=0 then ((IA (r.text 2048).1).1,(r.text 2048).2,(IA (r.text 2048).1).2) else (l8,(r.text 2048).2,part)
theorem ZJ (p g sb:Nat) (r:RS) (part:Int) (w:World) (hs:sI w sb p g r part):
 Calls prog 144 #[.pointer (some ⟨sb,0,none⟩),.func (.func 32) #[] #[]] w fun e w'=>∃ ev G,e= .returned (.agg (x9 (rD r part).1 ev).toArray)∧BH w' G (rD r part).1 ev∧I9 w w' G∧sI w' sb p g (rD r part).2.1 (rD r part).2.2∧U1 [sb,p] w w':=by
 obtain⟨x1,hx1⟩:∃ x,(r.text 2048).1=x:=⟨_,rfl⟩
 obtain⟨r1,hr1⟩:∃ x,(r.text 2048).2=x:=⟨_,rfl⟩
 have S1:V5 ((r1.l≠[]→r.l≠[])∧r1.l.length≤r.l.length):=U0 (by rw[←hr1];exact⟨cB,zC _ _⟩)
 have hxl:x1.length≤1000000:=by rw[←hx1];exact Nat.le_trans (tF r 2048) hs.len
 obtain⟨Z,hZ⟩:∃ Z,x9 l8 I4=Z:=⟨_,rfl⟩
 have zv:=vK
 have zl:=IL
 have zo:=TP
 rw[hZ] at zv zl zo
 have kA:=(U1.refl [] w).alloc (.cells Z.toArray 28)
 have rA:=l5.new w 28 Z.toArray
 obtain⟨wA,hwA⟩:∃ wA,w.alloc (.cells Z.toArray 28)=wA:=⟨_,rfl⟩
 rw[hwA] at kA rA
 have kB:=(U1.refl [] wA).alloc (.cells Z.toArray 28)
 have rB:=l5.new wA 28 Z.toArray
 obtain⟨wB,hwB⟩:∃ wB,wA.alloc (.cells Z.toArray 28)=wB:=⟨_,rfl⟩
 rw[hwB] at kB rB
 have kk:=kA.then kB (by simp)
 have hsl:=hs.row.lt
 have hpl:=hs.rd.lt
 have HS:=U0 (U2 (hs.over kk) (U2 (kB.row rA (by simp)) (U2 rB (U2 kk (U2 (fun hne=>hs.rd.gl hne) rA.lt)))))
 have HW:=U0 (U2 hwA (U2 hwB zv))
 have HZ:=U0 (U2 hZ (U2 zl zo))
 have HX:=U0 (U2 hx1 (U2 hr1 hxl))
 have hI:(prog.info? 28).map (·.size)=some Z.length:=by rw[zl];exact Q9
 have hJ:(prog.info? 28).map (·.size)=some Z.toArray.size:=by rw[U4];exact hI
 have HI:=U0 (U2 hI hJ)
 clear hZ zv zl zo kA rA hwA kB rB hwB kk hs hx1 hr1 hxl hI hJ
 have hnA:w.heap.size≠sb:=by omega
 have hnp:w.heap.size≠p:=by omega
 have c0:wB.cell? ⟨sb,0,none⟩=some (.pointer (some ⟨p,0,none⟩)):=HS.o.1.row.cell 0
 go_enter func144,ntmps144
 go_upto_region 3 with (first
  |(with_reducible refine F5 _ _ rfl 28 rfl _ HW.o.2.2 HW.o.1 ?_)
  |(with_reducible refine F5 _ _ rfl 28 rfl _ HW.o.2.2 HW.o.2.1 ?_)
  |(go_at_call 104;refine (eG p g r 2048 _ HS.o.1.rd (by have:=HS.o.1.len;omega)).mono ?_;intro e u1 hq;unfold sF at hq;rw[HX.o.1,HX.o.2.1] at hq;obtain⟨ue,rfl,hfr,hr,hk⟩:=hq;obtain⟨A6,c6,G6,rfl,hb6,hn6⟩:=hfr.gives;have Q:=U0 (HS.o.1.read hr hk S1.o.1 S1.o.2);have K1:=U0 hk;have B6:=U0 (U2 hb6 hn6);clear hr hk hfr hb6 hn6))
 have RA:=U0 (K1.o.row HS.o.2.1 (by simp[hnp]))
 have RB:=U0 (K1.o.row HS.o.2.2.1 (by have:=HS.o.2.2.2.2.2;simp;omega))
 have KW:V5 (U1 [sb,p] w u1):=U0 ((HS.o.2.2.2.1.more (by simp)).then K1.o (by simp))
 clear c0 K1
 by_cases hf:R8 part r1.e=0
 ·have HF:=U0 hf
  have hE:V5 (rD r part=((IA x1).1,r1,(IA x1).2)):=U0 (by unfold rD;rw[HX.o.2.1,HX.o.1,if_pos hf])
  clear hf
  obtain⟨q,hq⟩:∃ q,(IA x1).1=q:=⟨_,rfl⟩
  obtain⟨E,hEE⟩:∃ q,(IA x1).2=q:=⟨_,rfl⟩
  rw[hq,hEE] at hE
  have HQ:=U0 (U2 hq hEE)
  clear hq hEE
  go_upto_region 5 with (first
   |(go_at_call 95;refine (XB _ sb p g r1 part Q.o).mono ?_;rintro e u9 ⟨rfl,rfl⟩;rw[HF.o]))
  go_upto_region 6 with (first
   |(go_at_call 32;refine (YI G6 x1 _ _ B6.o.1 HX.o.2.2).mono ?_;rintro e u2 ⟨ev,G,rfl,gv,gn,gk⟩;rw[HQ.o.1,HQ.o.2] at*;have Q2:=U0 (Q.o.over gk);have RA2:=U0 (gk.row RA.o (by simp));have KW2:=U0 (KW.o.then gk (by simp));have GV:=U0 (U2 gv gn);have hLl:V5 ((x9 q ev).length=38∧∀ u∈x9 q ev,u.oneCell'=true):=U0 ⟨y9 gv.1,IB q gv.2.one⟩;clear gv gn gk)
   |(with_reducible refine F5 _ _ rfl 28 rfl _ HW.o.2.2 rfl ?_)
   |(refine wpList_store_mid rfl 28 (.tmp 7) (.tmp 22) rfl u2.heap.size 0 (x9 q ev).toArray rfl rfl ((l5.new u2 28 Z.toArray).there (by simp only[U4];have h1:=hLl.o.1;have h2:=HZ.o.2.1;omega)) (by rw[U4,hLl.o.1];exact Q9) (all_oneCell_toArray hLl.o.2) ?_))
  have k3:=(U1.refl [] u2).alloc (.cells Z.toArray 28)
  have r3:=(l5.new u2 28 Z.toArray).setL (vs:=x9 q ev) (o:=0)
  rw[F7 (by simp only[U4];have h1:=hLl.o.1;have h2:=HZ.o.2.1;omega)] at r3
  have k4:U1 [] u2 ((u2.alloc (.cells Z.toArray 28)).setCells u2.heap.size 0 (x9 q ev)):=k3.setL (.inr (Nat.le_refl _))
  try simp only[Act.put]
  obtain⟨u3,hu3⟩:∃ u3,(u2.alloc (.cells Z.toArray 28)).setCells u2.heap.size 0 (x9 q ev)=u3:=⟨_,rfl⟩
  rw[hu3] at r3 k4 ⊢
  have Q3:=U0 (Q2.o.over k4)
  have y1:u3.cell? ⟨sb,1,none⟩=some (.int .i64 part):=Q3.o.row.cell 1
  have y2:=Q3.o.row.free 1
  have hsl2:=Q2.o.row.lt
  have hnu:u2.heap.size≠sb:=by omega
  have k5:=xC u3 sb 1 (.int .i64 E)
  have Q5:=U0 (Q3.o.part E)
  have R5:=U0 (k5.row r3 (by simp[hnu]))
  have RA5:=U0 (k5.row (k4.row RA2.o (by simp)) (by simp[hnA]))
  have K5:=U0 (U2 ((KW2.o.then k4 (by simp)).then k5 (by simp)) (U2 k4 k5))
  clear k3 r3 k4 hu3 k5
  go_upto_region 7 with fail
  obtain⟨u5,hu5⟩:∃ u5,u3.setCell ⟨sb,1,none⟩ (.int .i64 E)=u5:=⟨_,rfl⟩
  rw[hu5] at Q5 R5 RA5 K5 ⊢
  clear hu5 y1 y2
  have r6:=RA5.o.setL (vs:=x9 q ev) (o:=0)
  rw[F7 (by simp only[U4];have h1:=hLl.o.1;have h2:=HZ.o.2.1;omega)] at r6
  have R6:=U0 r6
  clear r6
  go_wp2_with (first
   |(refine wpList_load_mid rfl 28 (.tmp 7) rfl u2.heap.size 0 rfl (x9 q ev) _ R5.o.rangeAll underlying28 rfl (by rw[hLl.o.1];exact Q9) ?_)
   |(refine wpList_store_mid rfl 28 (.tmp 4) (.tmp 28) rfl w.heap.size 0 (x9 q ev).toArray rfl rfl (RA5.o.there (by simp only[U4];have h1:=hLl.o.1;have h2:=HZ.o.2.1;omega)) (by rw[U4,hLl.o.1];exact Q9) (all_oneCell_toArray hLl.o.2) ?_))
  refine bodyPost_ret (results_cell_row rfl _ _ w.heap.size 28 _ (0,0) _ rfl R6.o underlying28 rfl (by rw[U4,hLl.o.1];exact Q9)) rfl ?_
  have k6:=(U1.refl [w.heap.size] u5).setL (vs:=x9 q ev) (g:=w.heap.size) (o:=0) (by simp)
  have hGl:∀ y∈G,w.heap.size<y∧sb<y:=fun y hy=>by have h1:=(GV.o.2 y hy).1;have h2:=RA.o.lt;have h3:=Q.o.row.lt;omega
  rw[hE.o]
  refine⟨ev,G,rfl,?_,fun y hy=>⟨by have:=hGl y hy;omega,?_⟩,Q5.o.keep k6 (by simp;exact fun e=>hnA e.symm) (by simp;exact fun e=>hnp e.symm) (fun hne=>by have:=HS.o.2.2.2.2.1 (S1.o.1 hne);simp;omega),K5.o.1.then k6 (by simp)⟩
  ·exact⟨GV.o.1.1,(((GV.o.1.2).keep K5.o.2.1 (by simp)).keep K5.o.2.2 (fun y hy=>by have:=hGl y hy;simp;omega)).keep k6 (fun y hy=>by have:=hGl y hy;simp;omega)⟩
  ·have h1:=(GV.o.2 y hy).2;have h2:=K5.o.2.1.size;have h3:=K5.o.2.2.size;have h4:=k6.size;omega
 ·have hfb:(R8 part r1.e !=0)=true:=by simp[hf]
  have hE:V5 (rD r part=(l8,r1,part)):=U0 (by unfold rD;rw[HX.o.2.1,if_neg hf])
  clear hf
  have r6:=RA.o.setL (vs:=Z) (o:=0)
  rw[F7 (by rfl)] at r6
  have R6:=U0 r6
  clear r6
  go_wp2_with (first
   |(go_at_call 95;refine (XB _ sb p g r1 part Q.o).mono ?_;rintro e u9 ⟨rfl,rfl⟩)
   |(refine wpList_load_mid rfl 28 (.tmp 5) rfl wA.heap.size 0 rfl Z _ RB.o.rangeAll underlying28 rfl HI.o.1 ?_)
   |(refine wpList_store_mid rfl 28 (.tmp 4) (.tmp 17) rfl w.heap.size 0 Z.toArray rfl rfl (RA.o.there (by simp only[U4];omega)) HI.o.2 (all_oneCell_toArray HZ.o.2.2) ?_))
  refine bodyPost_ret (results_cell_row rfl _ _ w.heap.size 28 _ (0,0) _ rfl R6.o underlying28 rfl HI.o.2) rfl ?_
  have k6:=(U1.refl [w.heap.size] u1).setL (vs:=Z) (g:=w.heap.size) (o:=0) (by simp)
  rw[hE.o]
  refine⟨I4,[],by rw[←HZ.o.1],⟨F6,G7.nil _ _⟩,fun y hy=>by simp at hy,Q.o.keep k6 (by simp;exact fun e=>hnA e.symm) (by simp;exact fun e=>hnp e.symm) (fun hne=>by have:=HS.o.2.2.2.2.1 (S1.o.1 hne);simp;omega),KW.o.then k6 (by simp)⟩
def yB (r:RS) (part:Int):CF × RS × Int:=
 if R8 part (r.text 2048).2.e=0 then ((dA (r.text 2048).1).1,(r.text 2048).2,(dA (r.text 2048).1).2) else (V7,(r.text 2048).2,part)
theorem MG (p g sb:Nat) (r:RS) (part:Int) (w:World) (hs:sI w sb p g r part):
 Calls prog 145 #[.pointer (some ⟨sb,0,none⟩),.func (.func 34) #[] #[]] w fun e w'=>∃ ev G,e= .returned (.agg (bA (yB r part).1 ev).toArray)∧F8 w' G ev (yB r part).1.chain∧I9 w w' G∧sI w' sb p g (yB r part).2.1 (yB r part).2.2∧U1 [sb,p] w w':=by
 obtain⟨x1,hx1⟩:∃ x,(r.text 2048).1=x:=⟨_,rfl⟩
 obtain⟨r1,hr1⟩:∃ x,(r.text 2048).2=x:=⟨_,rfl⟩
 have S1:V5 ((r1.l≠[]→r.l≠[])∧r1.l.length≤r.l.length):=U0 (by rw[←hr1];exact⟨cB,zC _ _⟩)
 have hxl:x1.length≤1000000:=by rw[←hx1];exact Nat.le_trans (tF r 2048) hs.len
 obtain⟨Z,hZ⟩:∃ Z,bA V7 I4=Z:=⟨_,rfl⟩
 have zv:=kJ
 have zl:=(show (bA V7 I4).length=3 from rfl)
 have zo:=ZP
 rw[hZ] at zv zl zo
 have kA:=(U1.refl [] w).alloc (.cells Z.toArray 31)
 have rA:=l5.new w 31 Z.toArray
 obtain⟨wA,hwA⟩:∃ wA,w.alloc (.cells Z.toArray 31)=wA:=⟨_,rfl⟩
 rw[hwA] at kA rA
 have kB:=(U1.refl [] wA).alloc (.cells Z.toArray 31)
 have rB:=l5.new wA 31 Z.toArray
 obtain⟨wB,hwB⟩:∃ wB,wA.alloc (.cells Z.toArray 31)=wB:=⟨_,rfl⟩
 rw[hwB] at kB rB
 have kk:=kA.then kB (by simp)
 have hsl:=hs.row.lt
 have hpl:=hs.rd.lt
 have HS:=U0 (U2 (hs.over kk) (U2 (kB.row rA (by simp)) (U2 rB (U2 kk (U2 (fun hne=>hs.rd.gl hne) rA.lt)))))
 have HW:=U0 (U2 hwA (U2 hwB zv))
 have HZ:=U0 (U2 hZ (U2 zl zo))
 have HX:=U0 (U2 hx1 (U2 hr1 hxl))
 have hI:(prog.info? 31).map (·.size)=some Z.length:=by rw[zl];exact S9
 have hJ:(prog.info? 31).map (·.size)=some Z.toArray.size:=by rw[U4];exact hI
 have HI:=U0 (U2 hI hJ)
 clear hZ zv zl zo kA rA hwA kB rB hwB kk hs hx1 hr1 hxl hI hJ
 have hnA:w.heap.size≠sb:=by omega
 have hnp:w.heap.size≠p:=by omega
 have c0:wB.cell? ⟨sb,0,none⟩=some (.pointer (some ⟨p,0,none⟩)):=HS.o.1.row.cell 0
 go_enter func145,ntmps145
 go_upto_region 3 with (first
  |(with_reducible refine F5 _ _ rfl 31 rfl _ HW.o.2.2 HW.o.1 ?_)
  |(with_reducible refine F5 _ _ rfl 31 rfl _ HW.o.2.2 HW.o.2.1 ?_)
  |(go_at_call 104;refine (eG p g r 2048 _ HS.o.1.rd (by have:=HS.o.1.len;omega)).mono ?_;intro e u1 hq;unfold sF at hq;rw[HX.o.1,HX.o.2.1] at hq;obtain⟨ue,rfl,hfr,hr,hk⟩:=hq;obtain⟨A6,c6,G6,rfl,hb6,hn6⟩:=hfr.gives;have Q:=U0 (HS.o.1.read hr hk S1.o.1 S1.o.2);have K1:=U0 hk;have B6:=U0 (U2 hb6 hn6);clear hr hk hfr hb6 hn6))
 have RA:=U0 (K1.o.row HS.o.2.1 (by simp[hnp]))
 have RB:=U0 (K1.o.row HS.o.2.2.1 (by have:=HS.o.2.2.2.2.2;simp;omega))
 have KW:V5 (U1 [sb,p] w u1):=U0 ((HS.o.2.2.2.1.more (by simp)).then K1.o (by simp))
 clear c0 K1
 by_cases hf:R8 part r1.e=0
 ·have HF:=U0 hf
  have hE:V5 (yB r part=((dA x1).1,r1,(dA x1).2)):=U0 (by unfold yB;rw[HX.o.2.1,HX.o.1,if_pos hf])
  clear hf
  obtain⟨q,hq⟩:∃ q,(dA x1).1=q:=⟨_,rfl⟩
  obtain⟨E,hEE⟩:∃ q,(dA x1).2=q:=⟨_,rfl⟩
  rw[hq,hEE] at hE
  have HQ:=U0 (U2 hq hEE)
  clear hq hEE
  go_upto_region 5 with (first
   |(go_at_call 95;refine (XB _ sb p g r1 part Q.o).mono ?_;rintro e u9 ⟨rfl,rfl⟩;rw[HF.o]))
  go_upto_region 6 with (first
   |(go_at_call 34;refine (ZI G6 x1 _ _ B6.o.1 HX.o.2.2).mono ?_;rintro e u2 ⟨ev,G,rfl,gv,gn,gk⟩;rw[HQ.o.1,HQ.o.2] at*;have Q2:=U0 (Q.o.over gk);have RA2:=U0 (gk.row RA.o (by simp));have KW2:=U0 (KW.o.then gk (by simp));have GV:=U0 (U2 gv gn);have hLl:V5 ((bA q ev).length=3∧∀ u∈bA q ev,u.oneCell'=true):=U0 ⟨rfl,MC q gv.one⟩;clear gv gn gk)
   |(with_reducible refine F5 _ _ rfl 31 rfl _ HW.o.2.2 rfl ?_)
   |(refine wpList_store_mid rfl 31 (.tmp 7) (.tmp 22) rfl u2.heap.size 0 (bA q ev).toArray rfl rfl ((l5.new u2 31 Z.toArray).there (by simp only[U4];have h1:=hLl.o.1;have h2:=HZ.o.2.1;omega)) (by rw[U4,hLl.o.1];exact S9) (all_oneCell_toArray hLl.o.2) ?_))
  have k3:=(U1.refl [] u2).alloc (.cells Z.toArray 31)
  have r3:=(l5.new u2 31 Z.toArray).setL (vs:=bA q ev) (o:=0)
  rw[F7 (by simp only[U4];have h1:=hLl.o.1;have h2:=HZ.o.2.1;omega)] at r3
  have k4:U1 [] u2 ((u2.alloc (.cells Z.toArray 31)).setCells u2.heap.size 0 (bA q ev)):=k3.setL (.inr (Nat.le_refl _))
  try simp only[Act.put]
  obtain⟨u3,hu3⟩:∃ u3,(u2.alloc (.cells Z.toArray 31)).setCells u2.heap.size 0 (bA q ev)=u3:=⟨_,rfl⟩
  rw[hu3] at r3 k4 ⊢
  have Q3:=U0 (Q2.o.over k4)
  have y1:u3.cell? ⟨sb,1,none⟩=some (.int .i64 part):=Q3.o.row.cell 1
  have y2:=Q3.o.row.free 1
  have hsl2:=Q2.o.row.lt
  have hnu:u2.heap.size≠sb:=by omega
  have k5:=xC u3 sb 1 (.int .i64 E)
  have Q5:=U0 (Q3.o.part E)
  have R5:=U0 (k5.row r3 (by simp[hnu]))
  have RA5:=U0 (k5.row (k4.row RA2.o (by simp)) (by simp[hnA]))
  have K5:=U0 (U2 ((KW2.o.then k4 (by simp)).then k5 (by simp)) (U2 k4 k5))
  clear k3 r3 k4 hu3 k5
  go_upto_region 7 with fail
  obtain⟨u5,hu5⟩:∃ u5,u3.setCell ⟨sb,1,none⟩ (.int .i64 E)=u5:=⟨_,rfl⟩
  rw[hu5] at Q5 R5 RA5 K5 ⊢
  clear hu5 y1 y2
  have r6:=RA5.o.setL (vs:=bA q ev) (o:=0)
  rw[F7 (by simp only[U4];have h1:=hLl.o.1;have h2:=HZ.o.2.1;omega)] at r6
  have R6:=U0 r6
  clear r6
  go_wp2_with (first
   |(refine wpList_load_mid rfl 31 (.tmp 7) rfl u2.heap.size 0 rfl (bA q ev) _ R5.o.rangeAll underlying31 rfl (by rw[hLl.o.1];exact S9) ?_)
   |(refine wpList_store_mid rfl 31 (.tmp 4) (.tmp 28) rfl w.heap.size 0 (bA q ev).toArray rfl rfl (RA5.o.there (by simp only[U4];have h1:=hLl.o.1;have h2:=HZ.o.2.1;omega)) (by rw[U4,hLl.o.1];exact S9) (all_oneCell_toArray hLl.o.2) ?_))
  refine bodyPost_ret (results_cell_row rfl _ _ w.heap.size 31 _ (0,0) _ rfl R6.o underlying31 rfl (by rw[U4,hLl.o.1];exact S9)) rfl ?_
  have k6:=(U1.refl [w.heap.size] u5).setL (vs:=bA q ev) (g:=w.heap.size) (o:=0) (by simp)
  have hGl:∀ y∈G,w.heap.size<y∧sb<y:=fun y hy=>by have h1:=(GV.o.2 y hy).1;have h2:=RA.o.lt;have h3:=Q.o.row.lt;omega
  rw[hE.o]
  refine⟨ev,G,rfl,?_,fun y hy=>⟨by have:=hGl y hy;omega,?_⟩,Q5.o.keep k6 (by simp;exact fun e=>hnA e.symm) (by simp;exact fun e=>hnp e.symm) (fun hne=>by have:=HS.o.2.2.2.2.1 (S1.o.1 hne);simp;omega),K5.o.1.then k6 (by simp)⟩
  ·exact (((GV.o.1).keep K5.o.2.1 (by simp)).keep K5.o.2.2 (fun y hy=>by have:=hGl y hy;simp;omega)).keep k6 (fun y hy=>by have:=hGl y hy;simp;omega)
  ·have h1:=(GV.o.2 y hy).2;have h2:=K5.o.2.1.size;have h3:=K5.o.2.2.size;have h4:=k6.size;omega
 ·have hfb:(R8 part r1.e !=0)=true:=by simp[hf]
  have hE:V5 (yB r part=(V7,r1,part)):=U0 (by unfold yB;rw[HX.o.2.1,if_neg hf])
  clear hf
  have r6:=RA.o.setL (vs:=Z) (o:=0)
  rw[F7 (by rfl)] at r6
  have R6:=U0 r6
  clear r6
  go_wp2_with (first
   |(go_at_call 95;refine (XB _ sb p g r1 part Q.o).mono ?_;rintro e u9 ⟨rfl,rfl⟩)
   |(refine wpList_load_mid rfl 31 (.tmp 5) rfl wA.heap.size 0 rfl Z _ RB.o.rangeAll underlying31 rfl HI.o.1 ?_)
   |(refine wpList_store_mid rfl 31 (.tmp 4) (.tmp 17) rfl w.heap.size 0 Z.toArray rfl rfl (RA.o.there (by simp only[U4];omega)) HI.o.2 (all_oneCell_toArray HZ.o.2.2) ?_))
  refine bodyPost_ret (results_cell_row rfl _ _ w.heap.size 31 _ (0,0) _ rfl R6.o underlying31 rfl HI.o.2) rfl ?_
  have k6:=(U1.refl [w.heap.size] u1).setL (vs:=Z) (g:=w.heap.size) (o:=0) (by simp)
  rw[hE.o]
  refine⟨I4,[],by rw[←HZ.o.1],F8.nil _ _,fun y hy=>by simp at hy,Q.o.keep k6 (by simp;exact fun e=>hnA e.symm) (by simp;exact fun e=>hnp e.symm) (fun hne=>by have:=HS.o.2.2.2.2.1 (S1.o.1 hne);simp;omega),KW.o.then k6 (by simp)⟩
def FW (r:RS):RS:=(r.num 1).2
def ZN (r:RS) (part:Int):Int:=if 1<(r.num 1).1 then 4 else part
theorem IK (p g sb:Nat) (r:RS) (part:Int) (w:World) (hs:sI w sb p g r part):
 Calls prog 142 #[.pointer (some ⟨sb,0,none⟩)] w fun e w'=>e= .returned (.bool (decide ((r.num 1).1=1)))∧sI w' sb p g (FW r) (ZN r part)∧U1 [sb,p] w w':=by
 obtain⟨x1,hx1⟩:∃ x,(r.num 1).1=x:=⟨_,rfl⟩
 have c0:w.cell? ⟨sb,0,none⟩=some (.pointer (some ⟨p,0,none⟩)):=hs.row.cell 0
 have H:=U0 hs
 have HX:=U0 hx1
 rw[hx1]
 clear hs hx1
 by_cases h1:1<x1
 ·have hb:(decide (1<x1))=true:=decide_eq_true h1
  have hb2:(x1==1)=false:=by simp;omega
  have hE:V5 (ZN r part=4∧decide (x1=1)=false):=U0 ⟨by unfold ZN;rw[HX.o,if_pos h1],by simp;omega⟩
  go_enter func142,ntmps142
  go_upto_region 3 with (first
   |(go_at_call 94;refine (OC p g r 1 _ H.o.rd).mono ?_;intro e u1 hq;unfold FC at hq;rw[HX.o] at hq;obtain⟨rfl,hr,hk⟩:=hq;have Q:=U0 (H.o.read hr hk nA (U9 _ _));have K1:=U0 hk;have y:u1.cell? ⟨sb,1,none⟩=some (.int .i64 part):=Q.o.row.cell 1;have y2:=Q.o.row.free 1;clear hr hk))
  go_wp2_with fail
  go_ret
  exact⟨by rw[hE.o.2];rfl,by rw[hE.o.1];exact Q.o.part 4,(K1.o.more (by simp)).setCell _ _ (by simp)⟩
 ·have hE:V5 (ZN r part=part):=U0 (by unfold ZN;rw[HX.o,if_neg h1])
  by_cases h2:x1=1
  ·have hE2:V5 (decide (x1=1)=true):=U0 (decide_eq_true h2)
   have H2:=U0 h2
   clear h2 h1
   go_enter func142,ntmps142
   go_wp2_with (first
    |(go_at_call 94;refine (OC p g r 1 _ H.o.rd).mono ?_;intro e u1 hq;unfold FC at hq;rw[HX.o,H2.o] at hq;obtain⟨rfl,hr,hk⟩:=hq;have Q:=U0 (H.o.read hr hk nA (U9 _ _));have K1:=U0 hk;clear hr hk))
   go_ret
   exact⟨by rw[hE2.o];rfl,by rw[hE.o];exact Q.o,K1.o.more (by simp)⟩
  ·have hb:(decide (1<x1))=false:=decide_eq_false h1
   have hb2:(x1==1)=false:=by simp;omega
   have hE2:V5 (decide (x1=1)=false):=U0 (decide_eq_false h2)
   clear h2
   go_enter func142,ntmps142
   go_wp2_with (first
    |(go_at_call 94;refine (OC p g r 1 _ H.o.rd).mono ?_;intro e u1 hq;unfold FC at hq;rw[HX.o] at hq;obtain⟨rfl,hr,hk⟩:=hq;have Q:=U0 (H.o.read hr hk nA (U9 _ _));have K1:=U0 hk;clear hr hk))
   go_ret
   exact⟨by rw[hE2.o];rfl,by rw[hE.o];exact Q.o,K1.o.more (by simp)⟩
end Go.Proofs.YthfdkonhjpdflaaGreatDoor
