import Derived.Test.YthfdkonhjpdflaaGreatDoorPkH
namespace Go.Proofs.YthfdkonhjpdflaaGreatDoor
open Go.RowKit Go.Proofs.Tryz
set_option linter.unusedVariables false
set_option maxRecDepth 100000
set_option linter.unusedSimpArgs false
set_option maxHeartbeats 16000000
def PR (r:RS):RS:=r
def QR (r:RS):RS:=((PR r).num 1).2
def TR (r:RS):RS:=((QR r).count 9007199254740991).2
def UR (r:RS):RS:=((TR r).num 1).2
def VR (r:RS):RS:=((UR r).count 9007199254740991).2
def XR (r:RS):RS:=((VR r).raw 32).2
def YR (r:RS):RS:=((XR r).text 1024).2
def IP (r:RS):RQ:=⟨((PR r).num 1).1,((QR r).count 9007199254740991).1,((TR r).num 1).1,((UR r).count 9007199254740991).1,X8 ((VR r).raw 32).1,((XR r).text 1024).1⟩
def JA (b:List UInt8):RQ × Int:=(eL (zA (YR ⟨b,0⟩).end_ (IP ⟨b,0⟩).ok) (IP ⟨b,0⟩) I7,zA (YR ⟨b,0⟩).end_ (IP ⟨b,0⟩).ok)
theorem iC (q:RQ) (ev:Value):U8 q ev=[.int .i64 q.client,.int .i64 q.num,.int .i64 q.kind,.int .i64 q.version]++(U7 q.name++[ev]):=by simp[U8]
theorem rqL_eL (E:Int) (q:RQ) (ev:Value):eL E (U8 q ev) (U8 I7 I4)=U8 (eL E q I7) (eL E ev I4):=by unfold eL;split<;>rfl
theorem eL_rqV {E:Int} {w:World} {G:List Nat} {q:RQ} {ev:Value} (h:dH w G q ev):dH w G (eL E q I7) (eL E ev I4):=by
 unfold eL
 split
 ·exact h
 ·exact⟨j6,G7.nil w G⟩
theorem bJ (F:List Nat) (b:List UInt8) (v:Value) (w:World) (h:G7 w F v b) (hb:b.length≤1000000):
 Calls prog 30 #[v] w fun e w'=>∃ ev G,e= .returned (.tuple #[.agg (U8 (JA b).1 ev).toArray,.int .i64 (JA b).2])∧dH w' G (JA b).1 ev∧I9 w w' G∧U1 [] w w':=by
 obtain⟨zn,hzn⟩:∃ zn,I7.name=zn:=⟨_,rfl⟩
 have hznl:zn.length=32:=by rw[←hzn];exact j6
 obtain⟨Z,hZ⟩:∃ Z,U8 I7 I4=Z:=⟨_,rfl⟩
 have hZ0:Z=U8 ⟨0,0,0,0,zn,[]⟩ I4:=by rw[←hZ,←hzn];rfl
 have zv:=nI
 have zl:Z.length=37:=by rw[←hZ];exact O8 j6
 have zo:∀ u∈Z,u.oneCell'=true:=by rw[←hZ];exact fB _ rfl
 rw[hZ] at zv
 obtain⟨r0,hr0⟩:∃ r,RS.mk b 0=r:=⟨_,rfl⟩
 obtain⟨x1,hx1⟩:∃ x,(r0.num 1).1=x:=⟨_,rfl⟩
 obtain⟨r1,hr1⟩:∃ x,(r0.num 1).2=x:=⟨_,rfl⟩
 have S1:V5 ((r1.l≠[]→r0.l≠[])∧r1.l.length≤r0.l.length):=U0 (by rw[←hr1];exact⟨nA,U9 _ _⟩)
 obtain⟨x2,hx2⟩:∃ x,(r1.count 9007199254740991).1=x:=⟨_,rfl⟩
 obtain⟨r2,hr2⟩:∃ x,(r1.count 9007199254740991).2=x:=⟨_,rfl⟩
 have S2:V5 ((r2.l≠[]→r1.l≠[])∧r2.l.length≤r1.l.length):=U0 (by rw[←hr2];exact⟨W9,RS.count_short _ _⟩)
 obtain⟨x3,hx3⟩:∃ x,(r2.num 1).1=x:=⟨_,rfl⟩
 obtain⟨r3,hr3⟩:∃ x,(r2.num 1).2=x:=⟨_,rfl⟩
 have S3:V5 ((r3.l≠[]→r2.l≠[])∧r3.l.length≤r2.l.length):=U0 (by rw[←hr3];exact⟨nA,U9 _ _⟩)
 obtain⟨x4,hx4⟩:∃ x,(r3.count 9007199254740991).1=x:=⟨_,rfl⟩
 obtain⟨r4,hr4⟩:∃ x,(r3.count 9007199254740991).2=x:=⟨_,rfl⟩
 have S4:V5 ((r4.l≠[]→r3.l≠[])∧r4.l.length≤r3.l.length):=U0 (by rw[←hr4];exact⟨W9,RS.count_short _ _⟩)
 obtain⟨x5,hx5⟩:∃ x,(r4.raw 32).1=x:=⟨_,rfl⟩
 obtain⟨r5,hr5⟩:∃ x,(r4.raw 32).2=x:=⟨_,rfl⟩
 have S5:V5 ((r5.l≠[]→r4.l≠[])∧r5.l.length≤r4.l.length):=U0 (by rw[←hr5];exact⟨qF,aG _ _⟩)
 obtain⟨x6,hx6⟩:∃ x,(r5.text 1024).1=x:=⟨_,rfl⟩
 obtain⟨r6,hr6⟩:∃ x,(r5.text 1024).2=x:=⟨_,rfl⟩
 have S6:V5 ((r6.l≠[]→r5.l≠[])∧r6.l.length≤r5.l.length):=U0 (by rw[←hr6];exact⟨cB,zC _ _⟩)
 have e0:PR ⟨b,0⟩=r0:=by unfold PR;exact hr0
 have e1:QR ⟨b,0⟩=r1:=by unfold QR;rw[e0];exact hr1
 have e2:TR ⟨b,0⟩=r2:=by unfold TR;rw[e1];exact hr2
 have e3:UR ⟨b,0⟩=r3:=by unfold UR;rw[e2];exact hr3
 have e4:VR ⟨b,0⟩=r4:=by unfold VR;rw[e3];exact hr4
 have e5:XR ⟨b,0⟩=r5:=by unfold XR;rw[e4];exact hr5
 have e6:YR ⟨b,0⟩=r6:=by unfold YR;rw[e5];exact hr6
 have eq:IP ⟨b,0⟩=⟨x1,x2,x3,x4,X8 x5,x6⟩:=by unfold IP;rw[e0,e1,e2,e3,e4,e5,hx1,hx2,hx3,hx4,hx5,hx6]
 have HE:=U0 (show JA b=(eL (zA r6.end_ (RQ.ok ⟨x1,x2,x3,x4,X8 x5,x6⟩)) ⟨x1,x2,x3,x4,X8 x5,x6⟩ I7,zA r6.end_ (RQ.ok ⟨x1,x2,x3,x4,X8 x5,x6⟩)) by unfold JA;rw[eq,e6])
 have hnx:(X8 x5).length=32:=by rw[←hx5];exact aD (pE _)
 have hrl:r0.l.length≤1000000:=by rw[←hr0];exact hb
 have HX:=U0 (U2 hr0 (U2 hrl (U2 (U2 hx1 hr1) (U2 (U2 hx2 hr2) (U2 (U2 hx3 hr3) (U2 (U2 hx4 hr4) (U2 (U2 hx5 hr5) (U2 hx6 hr6))))))))
 have HV:=U0 (U2 h hb)
 have HZ:=U0 (U2 zv (U2 zl (U2 zo (U2 hZ hZ0))))
 clear e6 e5 e4 e3 e2 e1 e0 hx1 hx2 hx3 hx4 hx5 hx6 eq h hb zv zl zo hZ hZ0 hzn hrl hr0 hr1 hr2 hr3 hr4 hr5 hr6
 have kA:=(U1.refl [] w).alloc (.cells Z.toArray 26)
 have rA:=l5.new w 26 Z.toArray
 obtain⟨wA,hwA⟩:∃ wA,w.alloc (.cells Z.toArray 26)=wA:=⟨_,rfl⟩
 rw[hwA] at kA rA
 have HA:=U0 (U2 hwA (U2 kA (U2 rA (HV.o.1.keep kA (by simp)))))
 clear kA rA hwA
 go_enter func30,ntmps30
 go_upto_region 2 with (first
  |(with_reducible refine F5 _ _ rfl 26 rfl _ HZ.o.1 HA.o.1 ?_)
  |(go_at_call 93;refine (MF F b v _ HA.o.2.2.2 HV.o.2).mono ?_;rintro e w1 ⟨p,g,rfl,d1,d2,d3,d4⟩;rw[HX.o.1] at d1;have D1:=U0 (U2 d1 (U2 d2 (U2 d3 d4)));clear d1 d2 d3 d4))
 have P0:V5 (dJ w (w1.alloc (.cells Z.toArray 26)) p g w1.heap.size r0 26 (U8 ⟨0,0,0,0,zn,[]⟩ I4) Z):=U0 (by
  have kB:=(U1.refl [] w1).alloc (.cells Z.toArray 26)
  have h1:=HA.o.2.2.1.lt
  have h2:=D1.o.1.lt
  have h3:=D1.o.2.1
  have h4:=HA.o.2.1.size
  refine⟨D1.o.1.keep kB (by simp) (by simp),by omega,h2,fun hne=>⟨?_,D1.o.1.gl hne⟩,HX.o.2.1,?_,kB.row (D1.o.2.2.2.row HA.o.2.2.1 (by simp)) (by simp),(HA.o.2.1.then D1.o.2.2.2 (by simp)).then kB (by simp)⟩
  ·have:=D1.o.2.2.1 (by rw[show b=r0.l by rw[←HX.o.1]];exact hne);omega
  ·rw[←HZ.o.2.2.2.2];exact l5.new _ _ _)
 go_upto_region 3 with (first
  |(with_reducible refine F5 _ _ rfl 26 rfl _ HZ.o.1 rfl ?_))
 obtain⟨tb,htb⟩:∃ tb,w1.heap.size=tb:=⟨_,rfl⟩
 obtain⟨v0,hv0⟩:∃ v0,w1.alloc (.cells Z.toArray 26)=v0:=⟨_,rfl⟩
 rw[htb,hv0] at P0
 rw[htb,hv0]
 clear htb hv0 D1
 go_upto_region 4 with (first
  |(go_at_call 94;refine (OC p g r0 1 _ P0.o.rd).mono ?_;intro e u1 hq;unfold FC at hq;rw[HX.o.2.2.1.1,HX.o.2.2.1.2] at hq;obtain⟨rfl,hr,hk⟩:=hq;have Q:=U0 (P0.o.read hr hk S1.o.1 S1.o.2);have y:u1.cell? ⟨tb,0,none⟩=some (.int .i64 0):=(Q.o.row.cell 0).trans (by simp[U8]);have y2:=Q.o.row.free 0;clear hr hk))
 have P1:=U0 (Q.o.set 0 (.int .i64 x1) (L':=(U8 ⟨x1,0,0,0,zn,[]⟩ I4)) (by simp[U8]))
 obtain⟨v1,hv⟩:∃ v,u1.setCell ⟨tb,0,none⟩ (.int .i64 x1)=v:=⟨_,rfl⟩
 rw[hv] at P1 ⊢
 clear hv y y2 Q P0 S1
 go_upto_region 5 with (first
  |(go_at_call 102;refine (TC p g r1 9007199254740991 _ P1.o.rd).mono ?_;intro e u2 hq;unfold dC at hq;rw[HX.o.2.2.2.1.1,HX.o.2.2.2.1.2] at hq;obtain⟨rfl,hr,hk⟩:=hq;have Q:=U0 (P1.o.read hr hk S2.o.1 S2.o.2);have y:u2.cell? ⟨tb,1,none⟩=some (.int .i64 0):=(Q.o.row.cell 1).trans (by simp[U8]);have y2:=Q.o.row.free 1;clear hr hk))
 have P2:=U0 (Q.o.set 1 (.int .i64 x2) (L':=(U8 ⟨x1,x2,0,0,zn,[]⟩ I4)) (by simp[U8]))
 obtain⟨v2,hv⟩:∃ v,u2.setCell ⟨tb,1,none⟩ (.int .i64 x2)=v:=⟨_,rfl⟩
 rw[hv] at P2 ⊢
 clear hv y y2 Q P1 S2
 go_upto_region 6 with (first
  |(go_at_call 94;refine (OC p g r2 1 _ P2.o.rd).mono ?_;intro e u3 hq;unfold FC at hq;rw[HX.o.2.2.2.2.1.1,HX.o.2.2.2.2.1.2] at hq;obtain⟨rfl,hr,hk⟩:=hq;have Q:=U0 (P2.o.read hr hk S3.o.1 S3.o.2);have y:u3.cell? ⟨tb,2,none⟩=some (.int .i64 0):=(Q.o.row.cell 2).trans (by simp[U8]);have y2:=Q.o.row.free 2;clear hr hk))
 have P3:=U0 (Q.o.set 2 (.int .i64 x3) (L':=(U8 ⟨x1,x2,x3,0,zn,[]⟩ I4)) (by simp[U8]))
 obtain⟨v3,hv⟩:∃ v,u3.setCell ⟨tb,2,none⟩ (.int .i64 x3)=v:=⟨_,rfl⟩
 rw[hv] at P3 ⊢
 clear hv y y2 Q P2 S3
 go_upto_region 7 with (first
  |(go_at_call 102;refine (TC p g r3 9007199254740991 _ P3.o.rd).mono ?_;intro e u4 hq;unfold dC at hq;rw[HX.o.2.2.2.2.2.1.1,HX.o.2.2.2.2.2.1.2] at hq;obtain⟨rfl,hr,hk⟩:=hq;have Q:=U0 (P3.o.read hr hk S4.o.1 S4.o.2);have y:u4.cell? ⟨tb,3,none⟩=some (.int .i64 0):=(Q.o.row.cell 3).trans (by simp[U8]);have y2:=Q.o.row.free 3;clear hr hk))
 have P4:=U0 (Q.o.set 3 (.int .i64 x4) (L':=(U8 ⟨x1,x2,x3,x4,zn,[]⟩ I4)) (by simp[U8]))
 obtain⟨v4,hv⟩:∃ v,u4.setCell ⟨tb,3,none⟩ (.int .i64 x4)=v:=⟨_,rfl⟩
 rw[hv] at P4 ⊢
 clear hv y y2 Q P3 S4
 have ht:∀ wx,l5 wx tb 26 (U8 ⟨x1,x2,x3,x4,zn,[]⟩ I4).toArray→wx.there tb 4 (U7 (X8 x5)).toArray.size:=fun wx hh=>hh.there (by rw[U4,A8,hnx,U4,O8 hznl];omega)
 have hJ:(prog.info? 23).map (·.size)=some (U7 (X8 x5)).toArray.size:=by rw[U4,A8,hnx];exact xB
 have HT:=U0 (U2 ht hJ)
 clear ht hJ
 have HO:=U0 (all_oneCell_toArray (jD (X8 x5)))
 go_upto_region 8 with (first
  |(go_at_call 103;refine (ZH p g r4 _ P4.o.rd (by have:=P4.o.len;omega)).mono ?_;intro e u5 hq;rw[HX.o.2.2.2.2.2.2.1.1,HX.o.2.2.2.2.2.2.1.2] at hq;obtain⟨rfl,hr,hk⟩:=hq;have Q:=U0 (P4.o.read hr hk S5.o.1 S5.o.2);clear hr hk)
  |(refine wpList_store_mid rfl 23 (.tmp 22) (.tmp 21) rfl tb 4 (U7 (X8 x5)).toArray rfl rfl (HT.o.1 _ Q.o.row) HT.o.2 HO.o ?_))
 have P5:=U0 (Q.o.setL 4 (U7 (X8 x5)) (L':=(U8 ⟨x1,x2,x3,x4,X8 x5,[]⟩ I4)) (by rw[iC,iC];exact FE [.int .i64 x1,.int .i64 x2,.int .i64 x3,.int .i64 x4] _ _ _ (by rw[A8,A8,hnx,hznl])))
 obtain⟨v5,hv⟩:∃ v,u5.setCells tb 4 (U7 (X8 x5))=v:=⟨_,rfl⟩
 rw[hv] at P5
 rw[hv]
 simp only[Act.put]
 clear hv Q P4 S5
 have hnx2:(RQ.mk x1 x2 x3 x4 (X8 x5) []).name.length=32:=hnx
 go_upto_region 9 with (first
  |(go_at_call 104;refine (eG p g r5 1024 _ P5.o.rd (by have:=P5.o.len;omega)).mono ?_;intro e u6 hq;unfold sF at hq;rw[HX.o.2.2.2.2.2.2.2.1,HX.o.2.2.2.2.2.2.2.2] at hq;obtain⟨ue,rfl,hfr,hr,hk⟩:=hq;obtain⟨A6,c6,G6,rfl,hb6,hn6⟩:=hfr.gives;have Q:=U0 (P5.o.read hr hk S6.o.1 S6.o.2);have B6:=U0 (U2 hb6 hn6);have y:u6.cell? ⟨tb,36,none⟩=some I4:=(Q.o.row.cell 36).trans (WC hnx2);have y2:=Q.o.row.free 36;clear hr hk hfr hb6 hn6))
 have P6:=U0 (Q.o.set 36 (.slice A6 x6.length c6) (L':=(U8 ⟨x1,x2,x3,x4,X8 x5,x6⟩ (.slice A6 x6.length c6))) (by rw[iC,iC];exact (mD (a:=[.int .i64 x1,.int .i64 x2,.int .i64 x3,.int .i64 x4]++U7 (X8 x5)) (x:=I4) (b:=[]) (k:=36) (by simp) (by simp[A8,hnx]) _).trans (by simp)))
 have B7:V5 (G7 (u6.setCell ⟨tb,36,none⟩ (.slice A6 x6.length c6)) G6 (.slice A6 x6.length c6) x6∧∀ y∈G6,tb<y∧y<u6.heap.size):=U0 (by
  have hlt:∀ y∈G6,tb<y∧y<u6.heap.size:=fun y hy=>⟨by have:=(B6.o.2 y hy).1;have:=P5.o.row.lt;omega,(B6.o.2 y hy).2⟩
  exact⟨B6.o.1.keep (xC u6 tb 36 _) (fun y hy=>by have:=(hlt y hy).1;simp;omega),hlt⟩)
 have hsz:(u6.setCell ⟨tb,36,none⟩ (.slice A6 x6.length c6)).heap.size=u6.heap.size:=World.size_setCell _ _ _
 obtain⟨v6,hv⟩:∃ v,u6.setCell ⟨tb,36,none⟩ (.slice A6 x6.length c6)=v:=⟨_,rfl⟩
 rw[hv] at P6 B7 hsz ⊢
 have HSZ:=U0 hsz
 clear hv y y2 Q P5 S6 hsz
 have hq:V5 (dH v6 G6 ⟨x1,x2,x3,x4,X8 x5,x6⟩ (.slice A6 x6.length c6)):=U0 ⟨hnx,B7.o.1⟩
 have hI:V5 ((prog.info? 26).map (·.size)=some (U8 ⟨x1,x2,x3,x4,X8 x5,x6⟩ (.slice A6 x6.length c6)).length):=U0 (by rw[O8 hnx];exact D9)
 have hxl:(U8 ⟨x1,x2,x3,x4,X8 x5,x6⟩ (.slice A6 x6.length c6)).length=37:=O8 hnx
 have hxo:∀ u∈U8 ⟨x1,x2,x3,x4,X8 x5,x6⟩ (.slice A6 x6.length c6),u.oneCell'=true:=fB _ rfl
 obtain⟨XE,hXE⟩:∃ XE,zA r6.end_ (RQ.ok ⟨x1,x2,x3,x4,X8 x5,x6⟩)=XE:=⟨_,rfl⟩
 obtain⟨XL,hXL⟩:∃ XL,eL XE (U8 ⟨x1,x2,x3,x4,X8 x5,x6⟩ (.slice A6 x6.length c6)) Z=XL:=⟨_,rfl⟩
 have hLl:XL.length=37:=by rw[←hXL];unfold eL;split;exact hxl;exact HZ.o.2.1
 have hLo:∀ u∈XL,u.oneCell'=true:=by rw[←hXL];unfold eL;split;exact hxo;exact HZ.o.2.2.1
 have HXL:=U0 (U2 hXL hXE)
 have HL:=U0 (U2 hLl hLo)
 clear hxl hxo hXL hXE hLl hLo
 go_upto_region 9 with (first
  |fail)
 have rs:∀ wx,l5 wx w.heap.size 26 Z.toArray→l5 (wx.setCells w.heap.size 0 XL) w.heap.size 26 XL.toArray:=fun wx hh=>by
  have:=hh.setL (vs:=XL) (o:=0)
  rw[F7 (by rw[U4,HL.o.1,HZ.o.2.1])] at this
  exact this
 have ht:∀ wx,l5 wx w.heap.size 26 Z.toArray→wx.there w.heap.size 0 XL.toArray.size:=fun wx hh=>hh.there (by simp only[U4];have h1:=HL.o.1;have h2:=HZ.o.2.1;omega)
 have hJ:(prog.info? 26).map (·.size)=some XL.toArray.size:=by rw[U4,HL.o.1];exact D9
 have HS:=U0 (U2 rs (U2 ht hJ))
 have HO2:=U0 (all_oneCell_toArray HL.o.2)
 clear rs ht hJ
 go_wp2_with (first
  |(refine wpList_load_mid rfl 26 (.tmp 5) rfl tb 0 rfl _ _ P6.o.row.rangeAll underlying26 rfl hI.o ?_)
  |(go_at_call 105;refine (ZL G6 p g r6 _ _ _ P6.o.rd hq.o).mono ?_;rintro e w9 ⟨rfl,k9⟩;rw[HXL.o.2,HZ.o.2.2.2.1,HXL.o.1];have P9:=U0 (P6.o.over k9);have K9:=U0 k9;clear k9)
  |(refine wpList_store_mid rfl 26 (.tmp 2) (.tmp 29) rfl w.heap.size 0 XL.toArray rfl rfl (HS.o.2.1 _ P9.o.res) HS.o.2.2 HO2.o ?_))
 refine bodyPost_ret (U5 rfl _ _ w.heap.size 26 _ (0,0) _ rfl (HS.o.1 _ P9.o.res) underlying26 rfl HS.o.2.2) rfl ?_
 have ks:=(U1.refl [w.heap.size] w9).setL (vs:=XL) (g:=w.heap.size) (o:=0) (by simp)
 have hlo:=P9.o.lo
 have hhi:=P9.o.hi
 refine⟨eL XE (.slice A6 x6.length c6) I4,G6,?_,?_,fun y hy=>⟨?_,?_⟩,P9.o.kp.setL (.inr (Nat.le_refl _))⟩
 ·have h1:XL=U8 (eL XE ⟨x1,x2,x3,x4,X8 x5,x6⟩ I7) (eL XE (.slice A6 x6.length c6) I4):=by rw[←HXL.o.1,←HZ.o.2.2.2.1];exact rqL_eL XE _ _
  rw[HE.o,HXL.o.2,←h1]
  rfl
 ·rw[HE.o,HXL.o.2]
  exact eL_rqV ⟨hnx,(hq.o.2.keep K9.o (by simp)).keep ks (fun y hy=>by have:=(B7.o.2 y hy).1;simp;omega)⟩
 ·have:=(B7.o.2 y hy).1;omega
 ·have h1:=(B7.o.2 y hy).2;have h2:=K9.o.size;have h3:=ks.size;have h4:=HSZ.o;omega
def yQ (r:RS):RS:=r
def zQ (r:RS):RS:=((yQ r).num 1).2
def AQ (r:RS):RS:=((zQ r).count 9007199254740991).2
def BQ (r:RS):RS:=((AQ r).num 1).2
def CQ (r:RS):RS:=((BQ r).count 9007199254740991).2
def FQ (r:RS):RS:=((CQ r).num 1).2
def GQ (r:RS):RS:=((FQ r).raw 32).2
def IQ (r:RS):RS:=((GQ r).text 1024).2
def yO (r:RS):AN:=⟨((yQ r).num 1).1,((zQ r).count 9007199254740991).1,((AQ r).num 1).1,((BQ r).count 9007199254740991).1,((CQ r).num 1).1,X8 ((FQ r).raw 32).1,((GQ r).text 1024).1⟩
def IA (b:List UInt8):AN × Int:=(eL (zA (IQ ⟨b,0⟩).end_ (yO ⟨b,0⟩).ok) (yO ⟨b,0⟩) l8,zA (IQ ⟨b,0⟩).end_ (yO ⟨b,0⟩).ok)
theorem zD (q:AN) (ev:Value):x9 q ev=[.int .i64 q.client,.int .i64 q.num,.int .i64 q.code,.int .i64 q.version,.int .i64 q.epoch]++(U7 q.name++[ev]):=by simp[x9]
theorem anL_eL (E:Int) (q:AN) (ev:Value):eL E (x9 q ev) (x9 l8 I4)=x9 (eL E q l8) (eL E ev I4):=by unfold eL;split<;>rfl
theorem eL_anV {E:Int} {w:World} {G:List Nat} {q:AN} {ev:Value} (h:BH w G q ev):BH w G (eL E q l8) (eL E ev I4):=by
 unfold eL
 split
 ·exact h
 ·exact⟨F6,G7.nil w G⟩
theorem YI (F:List Nat) (b:List UInt8) (v:Value) (w:World) (h:G7 w F v b) (hb:b.length≤1000000):
 Calls prog 32 #[v] w fun e w'=>∃ ev G,e= .returned (.tuple #[.agg (x9 (IA b).1 ev).toArray,.int .i64 (IA b).2])∧BH w' G (IA b).1 ev∧I9 w w' G∧U1 [] w w':=by
 obtain⟨zn,hzn⟩:∃ zn,l8.name=zn:=⟨_,rfl⟩
 have hznl:zn.length=32:=by rw[←hzn];exact F6
 obtain⟨Z,hZ⟩:∃ Z,x9 l8 I4=Z:=⟨_,rfl⟩
 have hZ0:Z=x9 ⟨0,0,0,0,0,zn,[]⟩ I4:=by rw[←hZ,←hzn];rfl
 have zv:=vK
 have zl:Z.length=38:=by rw[←hZ];exact y9 F6
 have zo:∀ u∈Z,u.oneCell'=true:=by rw[←hZ];exact IB _ rfl
 rw[hZ] at zv
 obtain⟨r0,hr0⟩:∃ r,RS.mk b 0=r:=⟨_,rfl⟩
 obtain⟨x1,hx1⟩:∃ x,(r0.num 1).1=x:=⟨_,rfl⟩
 obtain⟨r1,hr1⟩:∃ x,(r0.num 1).2=x:=⟨_,rfl⟩
 have S1:V5 ((r1.l≠[]→r0.l≠[])∧r1.l.length≤r0.l.length):=U0 (by rw[←hr1];exact⟨nA,U9 _ _⟩)
 obtain⟨x2,hx2⟩:∃ x,(r1.count 9007199254740991).1=x:=⟨_,rfl⟩
 obtain⟨r2,hr2⟩:∃ x,(r1.count 9007199254740991).2=x:=⟨_,rfl⟩
 have S2:V5 ((r2.l≠[]→r1.l≠[])∧r2.l.length≤r1.l.length):=U0 (by rw[←hr2];exact⟨W9,RS.count_short _ _⟩)
 obtain⟨x3,hx3⟩:∃ x,(r2.num 1).1=x:=⟨_,rfl⟩
 obtain⟨r3,hr3⟩:∃ x,(r2.num 1).2=x:=⟨_,rfl⟩
 have S3:V5 ((r3.l≠[]→r2.l≠[])∧r3.l.length≤r2.l.length):=U0 (by rw[←hr3];exact⟨nA,U9 _ _⟩)
 obtain⟨x4,hx4⟩:∃ x,(r3.count 9007199254740991).1=x:=⟨_,rfl⟩
 obtain⟨r4,hr4⟩:∃ x,(r3.count 9007199254740991).2=x:=⟨_,rfl⟩
 have S4:V5 ((r4.l≠[]→r3.l≠[])∧r4.l.length≤r3.l.length):=U0 (by rw[←hr4];exact⟨W9,RS.count_short _ _⟩)
 obtain⟨x5,hx5⟩:∃ x,(r4.num 1).1=x:=⟨_,rfl⟩
 obtain⟨r5,hr5⟩:∃ x,(r4.num 1).2=x:=⟨_,rfl⟩
 have S5:V5 ((r5.l≠[]→r4.l≠[])∧r5.l.length≤r4.l.length):=U0 (by rw[←hr5];exact⟨nA,U9 _ _⟩)
 obtain⟨x6,hx6⟩:∃ x,(r5.raw 32).1=x:=⟨_,rfl⟩
 obtain⟨r6,hr6⟩:∃ x,(r5.raw 32).2=x:=⟨_,rfl⟩
 have S6:V5 ((r6.l≠[]→r5.l≠[])∧r6.l.length≤r5.l.length):=U0 (by rw[←hr6];exact⟨qF,aG _ _⟩)
 obtain⟨x7,hx7⟩:∃ x,(r6.text 1024).1=x:=⟨_,rfl⟩
 obtain⟨r7,hr7⟩:∃ x,(r6.text 1024).2=x:=⟨_,rfl⟩
 have S7:V5 ((r7.l≠[]→r6.l≠[])∧r7.l.length≤r6.l.length):=U0 (by rw[←hr7];exact⟨cB,zC _ _⟩)
 have e0:yQ ⟨b,0⟩=r0:=by unfold yQ;exact hr0
 have e1:zQ ⟨b,0⟩=r1:=by unfold zQ;rw[e0];exact hr1
 have e2:AQ ⟨b,0⟩=r2:=by unfold AQ;rw[e1];exact hr2
 have e3:BQ ⟨b,0⟩=r3:=by unfold BQ;rw[e2];exact hr3
 have e4:CQ ⟨b,0⟩=r4:=by unfold CQ;rw[e3];exact hr4
 have e5:FQ ⟨b,0⟩=r5:=by unfold FQ;rw[e4];exact hr5
 have e6:GQ ⟨b,0⟩=r6:=by unfold GQ;rw[e5];exact hr6
 have e7:IQ ⟨b,0⟩=r7:=by unfold IQ;rw[e6];exact hr7
 have eq:yO ⟨b,0⟩=⟨x1,x2,x3,x4,x5,X8 x6,x7⟩:=by unfold yO;rw[e0,e1,e2,e3,e4,e5,e6,hx1,hx2,hx3,hx4,hx5,hx6,hx7]
 have HE:=U0 (show IA b=(eL (zA r7.end_ (AN.ok ⟨x1,x2,x3,x4,x5,X8 x6,x7⟩)) ⟨x1,x2,x3,x4,x5,X8 x6,x7⟩ l8,zA r7.end_ (AN.ok ⟨x1,x2,x3,x4,x5,X8 x6,x7⟩)) by unfold IA;rw[eq,e7])
 have hnx:(X8 x6).length=32:=by rw[←hx6];exact aD (pE _)
 have hrl:r0.l.length≤1000000:=by rw[←hr0];exact hb
 have HX:=U0 (U2 hr0 (U2 hrl (U2 (U2 hx1 hr1) (U2 (U2 hx2 hr2) (U2 (U2 hx3 hr3) (U2 (U2 hx4 hr4) (U2 (U2 hx5 hr5) (U2 (U2 hx6 hr6) (U2 hx7 hr7)))))))))
 have HV:=U0 (U2 h hb)
 have HZ:=U0 (U2 zv (U2 zl (U2 zo (U2 hZ hZ0))))
 clear e7 e6 e5 e4 e3 e2 e1 e0 hx1 hx2 hx3 hx4 hx5 hx6 hx7 eq h hb zv zl zo hZ hZ0 hzn hrl hr0 hr1 hr2 hr3 hr4 hr5 hr6 hr7
 have kA:=(U1.refl [] w).alloc (.cells Z.toArray 28)
 have rA:=l5.new w 28 Z.toArray
 obtain⟨wA,hwA⟩:∃ wA,w.alloc (.cells Z.toArray 28)=wA:=⟨_,rfl⟩
 rw[hwA] at kA rA
 have HA:=U0 (U2 hwA (U2 kA (U2 rA (HV.o.1.keep kA (by simp)))))
 clear kA rA hwA
 go_enter func32,ntmps32
 go_upto_region 2 with (first
  |(with_reducible refine F5 _ _ rfl 28 rfl _ HZ.o.1 HA.o.1 ?_)
  |(go_at_call 93;refine (MF F b v _ HA.o.2.2.2 HV.o.2).mono ?_;rintro e w1 ⟨p,g,rfl,d1,d2,d3,d4⟩;rw[HX.o.1] at d1;have D1:=U0 (U2 d1 (U2 d2 (U2 d3 d4)));clear d1 d2 d3 d4))
 have P0:V5 (dJ w (w1.alloc (.cells Z.toArray 28)) p g w1.heap.size r0 28 (x9 ⟨0,0,0,0,0,zn,[]⟩ I4) Z):=U0 (by
  have kB:=(U1.refl [] w1).alloc (.cells Z.toArray 28)
  have h1:=HA.o.2.2.1.lt
  have h2:=D1.o.1.lt
  have h3:=D1.o.2.1
  have h4:=HA.o.2.1.size
  refine⟨D1.o.1.keep kB (by simp) (by simp),by omega,h2,fun hne=>⟨?_,D1.o.1.gl hne⟩,HX.o.2.1,?_,kB.row (D1.o.2.2.2.row HA.o.2.2.1 (by simp)) (by simp),(HA.o.2.1.then D1.o.2.2.2 (by simp)).then kB (by simp)⟩
  ·have:=D1.o.2.2.1 (by rw[show b=r0.l by rw[←HX.o.1]];exact hne);omega
  ·rw[←HZ.o.2.2.2.2];exact l5.new _ _ _)
 go_upto_region 3 with (first
  |(with_reducible refine F5 _ _ rfl 28 rfl _ HZ.o.1 rfl ?_))
 obtain⟨tb,htb⟩:∃ tb,w1.heap.size=tb:=⟨_,rfl⟩
 obtain⟨v0,hv0⟩:∃ v0,w1.alloc (.cells Z.toArray 28)=v0:=⟨_,rfl⟩
 rw[htb,hv0] at P0
 rw[htb,hv0]
 clear htb hv0 D1
 go_upto_region 4 with (first
  |(go_at_call 94;refine (OC p g r0 1 _ P0.o.rd).mono ?_;intro e u1 hq;unfold FC at hq;rw[HX.o.2.2.1.1,HX.o.2.2.1.2] at hq;obtain⟨rfl,hr,hk⟩:=hq;have Q:=U0 (P0.o.read hr hk S1.o.1 S1.o.2);have y:u1.cell? ⟨tb,0,none⟩=some (.int .i64 0):=(Q.o.row.cell 0).trans (by simp[x9]);have y2:=Q.o.row.free 0;clear hr hk))
 have P1:=U0 (Q.o.set 0 (.int .i64 x1) (L':=(x9 ⟨x1,0,0,0,0,zn,[]⟩ I4)) (by simp[x9]))
 obtain⟨v1,hv⟩:∃ v,u1.setCell ⟨tb,0,none⟩ (.int .i64 x1)=v:=⟨_,rfl⟩
 rw[hv] at P1 ⊢
 clear hv y y2 Q P0 S1
 go_upto_region 5 with (first
  |(go_at_call 102;refine (TC p g r1 9007199254740991 _ P1.o.rd).mono ?_;intro e u2 hq;unfold dC at hq;rw[HX.o.2.2.2.1.1,HX.o.2.2.2.1.2] at hq;obtain⟨rfl,hr,hk⟩:=hq;have Q:=U0 (P1.o.read hr hk S2.o.1 S2.o.2);have y:u2.cell? ⟨tb,1,none⟩=some (.int .i64 0):=(Q.o.row.cell 1).trans (by simp[x9]);have y2:=Q.o.row.free 1;clear hr hk))
 have P2:=U0 (Q.o.set 1 (.int .i64 x2) (L':=(x9 ⟨x1,x2,0,0,0,zn,[]⟩ I4)) (by simp[x9]))
 obtain⟨v2,hv⟩:∃ v,u2.setCell ⟨tb,1,none⟩ (.int .i64 x2)=v:=⟨_,rfl⟩
 rw[hv] at P2 ⊢
 clear hv y y2 Q P1 S2
 go_upto_region 6 with (first
  |(go_at_call 94;refine (OC p g r2 1 _ P2.o.rd).mono ?_;intro e u3 hq;unfold FC at hq;rw[HX.o.2.2.2.2.1.1,HX.o.2.2.2.2.1.2] at hq;obtain⟨rfl,hr,hk⟩:=hq;have Q:=U0 (P2.o.read hr hk S3.o.1 S3.o.2);have y:u3.cell? ⟨tb,2,none⟩=some (.int .i64 0):=(Q.o.row.cell 2).trans (by simp[x9]);have y2:=Q.o.row.free 2;clear hr hk))
 have P3:=U0 (Q.o.set 2 (.int .i64 x3) (L':=(x9 ⟨x1,x2,x3,0,0,zn,[]⟩ I4)) (by simp[x9]))
 obtain⟨v3,hv⟩:∃ v,u3.setCell ⟨tb,2,none⟩ (.int .i64 x3)=v:=⟨_,rfl⟩
 rw[hv] at P3 ⊢
 clear hv y y2 Q P2 S3
 go_upto_region 7 with (first
  |(go_at_call 102;refine (TC p g r3 9007199254740991 _ P3.o.rd).mono ?_;intro e u4 hq;unfold dC at hq;rw[HX.o.2.2.2.2.2.1.1,HX.o.2.2.2.2.2.1.2] at hq;obtain⟨rfl,hr,hk⟩:=hq;have Q:=U0 (P3.o.read hr hk S4.o.1 S4.o.2);have y:u4.cell? ⟨tb,3,none⟩=some (.int .i64 0):=(Q.o.row.cell 3).trans (by simp[x9]);have y2:=Q.o.row.free 3;clear hr hk))
 have P4:=U0 (Q.o.set 3 (.int .i64 x4) (L':=(x9 ⟨x1,x2,x3,x4,0,zn,[]⟩ I4)) (by simp[x9]))
 obtain⟨v4,hv⟩:∃ v,u4.setCell ⟨tb,3,none⟩ (.int .i64 x4)=v:=⟨_,rfl⟩
 rw[hv] at P4 ⊢
 clear hv y y2 Q P3 S4
 go_upto_region 8 with (first
  |(go_at_call 94;refine (OC p g r4 1 _ P4.o.rd).mono ?_;intro e u5 hq;unfold FC at hq;rw[HX.o.2.2.2.2.2.2.1.1,HX.o.2.2.2.2.2.2.1.2] at hq;obtain⟨rfl,hr,hk⟩:=hq;have Q:=U0 (P4.o.read hr hk S5.o.1 S5.o.2);have y:u5.cell? ⟨tb,4,none⟩=some (.int .i64 0):=(Q.o.row.cell 4).trans (by simp[x9]);have y2:=Q.o.row.free 4;clear hr hk))
 have P5:=U0 (Q.o.set 4 (.int .i64 x5) (L':=(x9 ⟨x1,x2,x3,x4,x5,zn,[]⟩ I4)) (by simp[x9]))
 obtain⟨v5,hv⟩:∃ v,u5.setCell ⟨tb,4,none⟩ (.int .i64 x5)=v:=⟨_,rfl⟩
 rw[hv] at P5 ⊢
 clear hv y y2 Q P4 S5
 have ht:∀ wx,l5 wx tb 28 (x9 ⟨x1,x2,x3,x4,x5,zn,[]⟩ I4).toArray→wx.there tb 5 (U7 (X8 x6)).toArray.size:=fun wx hh=>hh.there (by rw[U4,A8,hnx,U4,y9 hznl];omega)
 have hJ:(prog.info? 23).map (·.size)=some (U7 (X8 x6)).toArray.size:=by rw[U4,A8,hnx];exact xB
 have HT:=U0 (U2 ht hJ)
 clear ht hJ
 have HO:=U0 (all_oneCell_toArray (jD (X8 x6)))
 go_upto_region 9 with (first
  |(go_at_call 103;refine (ZH p g r5 _ P5.o.rd (by have:=P5.o.len;omega)).mono ?_;intro e u6 hq;rw[HX.o.2.2.2.2.2.2.2.1.1,HX.o.2.2.2.2.2.2.2.1.2] at hq;obtain⟨rfl,hr,hk⟩:=hq;have Q:=U0 (P5.o.read hr hk S6.o.1 S6.o.2);clear hr hk)
  |(refine wpList_store_mid rfl 23 (.tmp 25) (.tmp 24) rfl tb 5 (U7 (X8 x6)).toArray rfl rfl (HT.o.1 _ Q.o.row) HT.o.2 HO.o ?_))
 have P6:=U0 (Q.o.setL 5 (U7 (X8 x6)) (L':=(x9 ⟨x1,x2,x3,x4,x5,X8 x6,[]⟩ I4)) (by rw[zD,zD];exact FE [.int .i64 x1,.int .i64 x2,.int .i64 x3,.int .i64 x4,.int .i64 x5] _ _ _ (by rw[A8,A8,hnx,hznl])))
 obtain⟨v6,hv⟩:∃ v,u6.setCells tb 5 (U7 (X8 x6))=v:=⟨_,rfl⟩
 rw[hv] at P6
 rw[hv]
 simp only[Act.put]
 clear hv Q P5 S6
 have hnx2:(AN.mk x1 x2 x3 x4 x5 (X8 x6) []).name.length=32:=hnx
 go_upto_region 10 with (first
  |(go_at_call 104;refine (eG p g r6 1024 _ P6.o.rd (by have:=P6.o.len;omega)).mono ?_;intro e u7 hq;unfold sF at hq;rw[HX.o.2.2.2.2.2.2.2.2.1,HX.o.2.2.2.2.2.2.2.2.2] at hq;obtain⟨ue,rfl,hfr,hr,hk⟩:=hq;obtain⟨A6,c6,G6,rfl,hb6,hn6⟩:=hfr.gives;have Q:=U0 (P6.o.read hr hk S7.o.1 S7.o.2);have B6:=U0 (U2 hb6 hn6);have y:u7.cell? ⟨tb,37,none⟩=some I4:=(Q.o.row.cell 37).trans (VC hnx2);have y2:=Q.o.row.free 37;clear hr hk hfr hb6 hn6))
 have P7:=U0 (Q.o.set 37 (.slice A6 x7.length c6) (L':=(x9 ⟨x1,x2,x3,x4,x5,X8 x6,x7⟩ (.slice A6 x7.length c6))) (by rw[zD,zD];exact (mD (a:=[.int .i64 x1,.int .i64 x2,.int .i64 x3,.int .i64 x4,.int .i64 x5]++U7 (X8 x6)) (x:=I4) (b:=[]) (k:=37) (by simp) (by simp[A8,hnx]) _).trans (by simp)))
 have B7:V5 (G7 (u7.setCell ⟨tb,37,none⟩ (.slice A6 x7.length c6)) G6 (.slice A6 x7.length c6) x7∧∀ y∈G6,tb<y∧y<u7.heap.size):=U0 (by
  have hlt:∀ y∈G6,tb<y∧y<u7.heap.size:=fun y hy=>⟨by have:=(B6.o.2 y hy).1;have:=P6.o.row.lt;omega,(B6.o.2 y hy).2⟩
  exact⟨B6.o.1.keep (xC u7 tb 37 _) (fun y hy=>by have:=(hlt y hy).1;simp;omega),hlt⟩)
 have hsz:(u7.setCell ⟨tb,37,none⟩ (.slice A6 x7.length c6)).heap.size=u7.heap.size:=World.size_setCell _ _ _
 obtain⟨v7,hv⟩:∃ v,u7.setCell ⟨tb,37,none⟩ (.slice A6 x7.length c6)=v:=⟨_,rfl⟩
 rw[hv] at P7 B7 hsz ⊢
 have HSZ:=U0 hsz
 clear hv y y2 Q P6 S7 hsz
 have hq:V5 (BH v7 G6 ⟨x1,x2,x3,x4,x5,X8 x6,x7⟩ (.slice A6 x7.length c6)):=U0 ⟨hnx,B7.o.1⟩
 have hI:V5 ((prog.info? 28).map (·.size)=some (x9 ⟨x1,x2,x3,x4,x5,X8 x6,x7⟩ (.slice A6 x7.length c6)).length):=U0 (by rw[y9 hnx];exact Q9)
 have hxl:(x9 ⟨x1,x2,x3,x4,x5,X8 x6,x7⟩ (.slice A6 x7.length c6)).length=38:=y9 hnx
 have hxo:∀ u∈x9 ⟨x1,x2,x3,x4,x5,X8 x6,x7⟩ (.slice A6 x7.length c6),u.oneCell'=true:=IB _ rfl
 obtain⟨XE,hXE⟩:∃ XE,zA r7.end_ (AN.ok ⟨x1,x2,x3,x4,x5,X8 x6,x7⟩)=XE:=⟨_,rfl⟩
 obtain⟨XL,hXL⟩:∃ XL,eL XE (x9 ⟨x1,x2,x3,x4,x5,X8 x6,x7⟩ (.slice A6 x7.length c6)) Z=XL:=⟨_,rfl⟩
 have hLl:XL.length=38:=by rw[←hXL];unfold eL;split;exact hxl;exact HZ.o.2.1
 have hLo:∀ u∈XL,u.oneCell'=true:=by rw[←hXL];unfold eL;split;exact hxo;exact HZ.o.2.2.1
 have HXL:=U0 (U2 hXL hXE)
 have HL:=U0 (U2 hLl hLo)
 clear hxl hxo hXL hXE hLl hLo
 go_upto_region 10 with (first
  |fail)
 have rs:∀ wx,l5 wx w.heap.size 28 Z.toArray→l5 (wx.setCells w.heap.size 0 XL) w.heap.size 28 XL.toArray:=fun wx hh=>by
  have:=hh.setL (vs:=XL) (o:=0)
  rw[F7 (by rw[U4,HL.o.1,HZ.o.2.1])] at this
  exact this
 have ht:∀ wx,l5 wx w.heap.size 28 Z.toArray→wx.there w.heap.size 0 XL.toArray.size:=fun wx hh=>hh.there (by simp only[U4];have h1:=HL.o.1;have h2:=HZ.o.2.1;omega)
 have hJ:(prog.info? 28).map (·.size)=some XL.toArray.size:=by rw[U4,HL.o.1];exact Q9
 have HS:=U0 (U2 rs (U2 ht hJ))
 have HO2:=U0 (all_oneCell_toArray HL.o.2)
 clear rs ht hJ
 go_wp2_with (first
  |(refine wpList_load_mid rfl 28 (.tmp 5) rfl tb 0 rfl _ _ P7.o.row.rangeAll underlying28 rfl hI.o ?_)
  |(go_at_call 111;refine (YL G6 p g r7 _ _ _ P7.o.rd hq.o).mono ?_;rintro e w9 ⟨rfl,k9⟩;rw[HXL.o.2,HZ.o.2.2.2.1,HXL.o.1];have P9:=U0 (P7.o.over k9);have K9:=U0 k9;clear k9)
  |(refine wpList_store_mid rfl 28 (.tmp 2) (.tmp 32) rfl w.heap.size 0 XL.toArray rfl rfl (HS.o.2.1 _ P9.o.res) HS.o.2.2 HO2.o ?_))
 refine bodyPost_ret (U5 rfl _ _ w.heap.size 28 _ (0,0) _ rfl (HS.o.1 _ P9.o.res) underlying28 rfl HS.o.2.2) rfl ?_
 have ks:=(U1.refl [w.heap.size] w9).setL (vs:=XL) (g:=w.heap.size) (o:=0) (by simp)
 have hlo:=P9.o.lo
 have hhi:=P9.o.hi
 refine⟨eL XE (.slice A6 x7.length c6) I4,G6,?_,?_,fun y hy=>⟨?_,?_⟩,P9.o.kp.setL (.inr (Nat.le_refl _))⟩
 ·have h1:XL=x9 (eL XE ⟨x1,x2,x3,x4,x5,X8 x6,x7⟩ l8) (eL XE (.slice A6 x7.length c6) I4):=by rw[←HXL.o.1,←HZ.o.2.2.2.1];exact anL_eL XE _ _
  rw[HE.o,HXL.o.2,←h1]
  rfl
 ·rw[HE.o,HXL.o.2]
  exact eL_anV ⟨hnx,(hq.o.2.keep K9.o (by simp)).keep ks (fun y hy=>by have:=(B7.o.2 y hy).1;simp;omega)⟩
 ·have:=(B7.o.2 y hy).1;omega
 ·have h1:=(B7.o.2 y hy).2;have h2:=K9.o.size;have h3:=ks.size;have h4:=HSZ.o;omega
end Go.Proofs.YthfdkonhjpdflaaGreatDoor
