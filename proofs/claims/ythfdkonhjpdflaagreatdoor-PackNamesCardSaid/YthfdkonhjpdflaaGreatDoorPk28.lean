import Derived.Test.YthfdkonhjpdflaaGreatDoorPkH
namespace Go.Proofs.YthfdkonhjpdflaaGreatDoor
open Go.RowKit Go.Proofs.Tryz
set_option linter.unusedVariables false
set_option maxRecDepth 100000
set_option linter.unusedSimpArgs false
set_option maxHeartbeats 16000000
def zO (r:RS):RS:=r
def zQ (r:RS):RS:=((zO r).num 1).2
def zR (r:RS):RS:=((zQ r).count 9007199254740991).2
def zS (r:RS):RS:=((zR r).num 1).2
def zU (r:RS):RS:=((zS r).count 9007199254740991).2
def zV (r:RS):RS:=((zU r).raw 32).2
def zW (r:RS):RS:=((zV r).text 1024).2
def xI (r:RS):RQ:=⟨((zO r).num 1).1,((zQ r).count 9007199254740991).1,((zR r).num 1).1,((zS r).count 9007199254740991).1,bG ((zU r).raw 32).1,((zV r).text 1024).1⟩
def dC (b:List UInt8):RQ × Int:=(eL (dm (zW ⟨b,0⟩).end_ (xI ⟨b,0⟩).ok) (xI ⟨b,0⟩) aV,dm (zW ⟨b,0⟩).end_ (xI ⟨b,0⟩).ok)
theorem fq (q:RQ) (ev:Value):bE q ev=[.int .i64 q.client,.int .i64 q.num,.int .i64 q.kind,.int .i64 q.version]++(aT q.name++[ev]):=by simp[bE]
theorem rqL_eL (E:Int) (q:RQ) (ev:Value):eL E (bE q ev) (bE aV ay)=bE (eL E q aV) (eL E ev ay):=by unfold eL;split<;>rfl
theorem eL_rqV {E:Int} {w:World} {G:List Nat} {q:RQ} {ev:Value} (h:l5 w G q ev):l5 w G (eL E q aV) (eL E ev ay):=by
 unfold eL
 split
 ·exact h
 ·exact⟨aK,aS.nil w G⟩
theorem oM (F:List Nat) (b:List UInt8) (v:Value) (w:World) (h:aS w F v b) (hb:b.length≤1000000):
 Calls prog 30 #[v] w fun e w'=>∃ ev G,e= .returned (.tuple #[.agg (bE (dC b).1 ev).toArray,.int .i64 (dC b).2])∧l5 w' G (dC b).1 ev∧bP w w' G∧ag [] w w':=by
 obtain⟨zn,hzn⟩:∃ zn,aV.name=zn:=⟨_,rfl⟩
 have hznl:zn.length=32:=by rw[←hzn];exact aK
 obtain⟨Z,hZ⟩:∃ Z,bE aV ay=Z:=⟨_,rfl⟩
 have hZ0:Z=bE ⟨0,0,0,0,zn,[]⟩ ay:=by rw[←hZ,←hzn];rfl
 have zv:=nM
 have zl:Z.length=37:=by rw[←hZ];exact bB aK
 have zo:∀ u∈Z,u.oneCell'=true:=by rw[←hZ];exact dR _ rfl
 rw[hZ] at zv
 obtain⟨r0,hr0⟩:∃ r,RS.mk b 0=r:=⟨_,rfl⟩
 obtain⟨x1,hx1⟩:∃ x,(r0.num 1).1=x:=⟨_,rfl⟩
 obtain⟨r1,hr1⟩:∃ x,(r0.num 1).2=x:=⟨_,rfl⟩
 have S1:aH ((r1.l≠[]→r0.l≠[])∧r1.l.length≤r0.l.length):=aa (by rw[←hr1];exact⟨cO,bV _ _⟩)
 obtain⟨x2,hx2⟩:∃ x,(r1.count 9007199254740991).1=x:=⟨_,rfl⟩
 obtain⟨r2,hr2⟩:∃ x,(r1.count 9007199254740991).2=x:=⟨_,rfl⟩
 have S2:aH ((r2.l≠[]→r1.l≠[])∧r2.l.length≤r1.l.length):=aa (by rw[←hr2];exact⟨bW,RS.count_short _ _⟩)
 obtain⟨x3,hx3⟩:∃ x,(r2.num 1).1=x:=⟨_,rfl⟩
 obtain⟨r3,hr3⟩:∃ x,(r2.num 1).2=x:=⟨_,rfl⟩
 have S3:aH ((r3.l≠[]→r2.l≠[])∧r3.l.length≤r2.l.length):=aa (by rw[←hr3];exact⟨cO,bV _ _⟩)
 obtain⟨x4,hx4⟩:∃ x,(r3.count 9007199254740991).1=x:=⟨_,rfl⟩
 obtain⟨r4,hr4⟩:∃ x,(r3.count 9007199254740991).2=x:=⟨_,rfl⟩
 have S4:aH ((r4.l≠[]→r3.l≠[])∧r4.l.length≤r3.l.length):=aa (by rw[←hr4];exact⟨bW,RS.count_short _ _⟩)
 obtain⟨x5,hx5⟩:∃ x,(r4.raw 32).1=x:=⟨_,rfl⟩
 obtain⟨r5,hr5⟩:∃ x,(r4.raw 32).2=x:=⟨_,rfl⟩
 have S5:aH ((r5.l≠[]→r4.l≠[])∧r5.l.length≤r4.l.length):=aa (by rw[←hr5];exact⟨jK,kE _ _⟩)
 obtain⟨x6,hx6⟩:∃ x,(r5.text 1024).1=x:=⟨_,rfl⟩
 obtain⟨r6,hr6⟩:∃ x,(r5.text 1024).2=x:=⟨_,rfl⟩
 have S6:aH ((r6.l≠[]→r5.l≠[])∧r6.l.length≤r5.l.length):=aa (by rw[←hr6];exact⟨dO,fG _ _⟩)
 have e0:zO ⟨b,0⟩=r0:=by unfold zO;exact hr0
 have e1:zQ ⟨b,0⟩=r1:=by unfold zQ;rw[e0];exact hr1
 have e2:zR ⟨b,0⟩=r2:=by unfold zR;rw[e1];exact hr2
 have e3:zS ⟨b,0⟩=r3:=by unfold zS;rw[e2];exact hr3
 have e4:zU ⟨b,0⟩=r4:=by unfold zU;rw[e3];exact hr4
 have e5:zV ⟨b,0⟩=r5:=by unfold zV;rw[e4];exact hr5
 have e6:zW ⟨b,0⟩=r6:=by unfold zW;rw[e5];exact hr6
 have eq:xI ⟨b,0⟩=⟨x1,x2,x3,x4,bG x5,x6⟩:=by unfold xI;rw[e0,e1,e2,e3,e4,e5,hx1,hx2,hx3,hx4,hx5,hx6]
 have HE:=aa (show dC b=(eL (dm r6.end_ (RQ.ok ⟨x1,x2,x3,x4,bG x5,x6⟩)) ⟨x1,x2,x3,x4,bG x5,x6⟩ aV,dm r6.end_ (RQ.ok ⟨x1,x2,x3,x4,bG x5,x6⟩)) by unfold dC;rw[eq,e6])
 have hnx:(bG x5).length=32:=by rw[←hx5];exact gz (iR _)
 have hrl:r0.l.length≤1000000:=by rw[←hr0];exact hb
 have HX:=aa (ah hr0 (ah hrl (ah (ah hx1 hr1) (ah (ah hx2 hr2) (ah (ah hx3 hr3) (ah (ah hx4 hr4) (ah (ah hx5 hr5) (ah hx6 hr6))))))))
 have HV:=aa (ah h hb)
 have HZ:=aa (ah zv (ah zl (ah zo (ah hZ hZ0))))
 clear e6 e5 e4 e3 e2 e1 e0 hx1 hx2 hx3 hx4 hx5 hx6 eq h hb zv zl zo hZ hZ0 hzn hrl hr0 hr1 hr2 hr3 hr4 hr5 hr6
 have kA:=(ag.refl [] w).alloc (.cells Z.toArray 26)
 have rA:=aC.new w 26 Z.toArray
 obtain⟨wA,hwA⟩:∃ wA,w.alloc (.cells Z.toArray 26)=wA:=⟨_,rfl⟩
 rw[hwA] at kA rA
 have HA:=aa (ah hwA (ah kA (ah rA (HV.o.1.keep kA (by simp)))))
 clear kA rA hwA
 go_enter func30,ntmps30
 go_upto_region 2 with (first
  |(with_reducible refine aD _ _ rfl 26 rfl _ HZ.o.1 HA.o.1 ?_)
  |(go_at_call 93;refine (jX F b v _ HA.o.2.2.2 HV.o.2).mono ?_;rintro e w1 ⟨p,g,rfl,d1,d2,d3,d4⟩;rw[HX.o.1] at d1;have D1:=aa (ah d1 (ah d2 (ah d3 d4)));clear d1 d2 d3 d4))
 have P0:aH (oN w (w1.alloc (.cells Z.toArray 26)) p g w1.heap.size r0 26 (bE ⟨0,0,0,0,zn,[]⟩ ay) Z):=aa (by
  have kB:=(ag.refl [] w1).alloc (.cells Z.toArray 26)
  have h1:=HA.o.2.2.1.lt
  have h2:=D1.o.1.lt
  have h3:=D1.o.2.1
  have h4:=HA.o.2.1.size
  refine⟨D1.o.1.keep kB (by simp) (by simp),by omega,h2,fun hne=>⟨?_,D1.o.1.gl hne⟩,HX.o.2.1,?_,kB.row (D1.o.2.2.2.row HA.o.2.2.1 (by simp)) (by simp),(HA.o.2.1.then D1.o.2.2.2 (by simp)).then kB (by simp)⟩
  ·have:=D1.o.2.2.1 (by rw[show b=r0.l by rw[←HX.o.1]];exact hne);omega
  ·rw[←HZ.o.2.2.2.2];exact aC.new _ _ _)
 go_upto_region 3 with (first
  |(with_reducible refine aD _ _ rfl 26 rfl _ HZ.o.1 rfl ?_))
 obtain⟨tb,htb⟩:∃ tb,w1.heap.size=tb:=⟨_,rfl⟩
 obtain⟨v0,hv0⟩:∃ v0,w1.alloc (.cells Z.toArray 26)=v0:=⟨_,rfl⟩
 rw[htb,hv0] at P0
 rw[htb,hv0]
 clear htb hv0 D1
 go_upto_region 4 with (first
  |(go_at_call 94;refine (fP p g r0 1 _ P0.o.rd).mono ?_;intro e u1 hq;unfold fJ at hq;rw[HX.o.2.2.1.1,HX.o.2.2.1.2] at hq;obtain⟨rfl,hr,hk⟩:=hq;have Q:=aa (P0.o.read hr hk S1.o.1 S1.o.2);have y:u1.cell? ⟨tb,0,none⟩=some (.int .i64 0):=(Q.o.row.cell 0).trans (by simp[bE]);have y2:=Q.o.row.free 0;clear hr hk))
 have P1:=aa (Q.o.set 0 (.int .i64 x1) (L':=(bE ⟨x1,0,0,0,zn,[]⟩ ay)) (by simp[bE]))
 obtain⟨v1,hv⟩:∃ v,u1.setCell ⟨tb,0,none⟩ (.int .i64 x1)=v:=⟨_,rfl⟩
 rw[hv] at P1 ⊢
 clear hv y y2 Q P0 S1
 go_upto_region 5 with (first
  |(go_at_call 102;refine (fZ p g r1 9007199254740991 _ P1.o.rd).mono ?_;intro e u2 hq;unfold eZ at hq;rw[HX.o.2.2.2.1.1,HX.o.2.2.2.1.2] at hq;obtain⟨rfl,hr,hk⟩:=hq;have Q:=aa (P1.o.read hr hk S2.o.1 S2.o.2);have y:u2.cell? ⟨tb,1,none⟩=some (.int .i64 0):=(Q.o.row.cell 1).trans (by simp[bE]);have y2:=Q.o.row.free 1;clear hr hk))
 have P2:=aa (Q.o.set 1 (.int .i64 x2) (L':=(bE ⟨x1,x2,0,0,zn,[]⟩ ay)) (by simp[bE]))
 obtain⟨v2,hv⟩:∃ v,u2.setCell ⟨tb,1,none⟩ (.int .i64 x2)=v:=⟨_,rfl⟩
 rw[hv] at P2 ⊢
 clear hv y y2 Q P1 S2
 go_upto_region 6 with (first
  |(go_at_call 94;refine (fP p g r2 1 _ P2.o.rd).mono ?_;intro e u3 hq;unfold fJ at hq;rw[HX.o.2.2.2.2.1.1,HX.o.2.2.2.2.1.2] at hq;obtain⟨rfl,hr,hk⟩:=hq;have Q:=aa (P2.o.read hr hk S3.o.1 S3.o.2);have y:u3.cell? ⟨tb,2,none⟩=some (.int .i64 0):=(Q.o.row.cell 2).trans (by simp[bE]);have y2:=Q.o.row.free 2;clear hr hk))
 have P3:=aa (Q.o.set 2 (.int .i64 x3) (L':=(bE ⟨x1,x2,x3,0,zn,[]⟩ ay)) (by simp[bE]))
 obtain⟨v3,hv⟩:∃ v,u3.setCell ⟨tb,2,none⟩ (.int .i64 x3)=v:=⟨_,rfl⟩
 rw[hv] at P3 ⊢
 clear hv y y2 Q P2 S3
 go_upto_region 7 with (first
  |(go_at_call 102;refine (fZ p g r3 9007199254740991 _ P3.o.rd).mono ?_;intro e u4 hq;unfold eZ at hq;rw[HX.o.2.2.2.2.2.1.1,HX.o.2.2.2.2.2.1.2] at hq;obtain⟨rfl,hr,hk⟩:=hq;have Q:=aa (P3.o.read hr hk S4.o.1 S4.o.2);have y:u4.cell? ⟨tb,3,none⟩=some (.int .i64 0):=(Q.o.row.cell 3).trans (by simp[bE]);have y2:=Q.o.row.free 3;clear hr hk))
 have P4:=aa (Q.o.set 3 (.int .i64 x4) (L':=(bE ⟨x1,x2,x3,x4,zn,[]⟩ ay)) (by simp[bE]))
 obtain⟨v4,hv⟩:∃ v,u4.setCell ⟨tb,3,none⟩ (.int .i64 x4)=v:=⟨_,rfl⟩
 rw[hv] at P4 ⊢
 clear hv y y2 Q P3 S4
 have ht:∀ wx,aC wx tb 26 (bE ⟨x1,x2,x3,x4,zn,[]⟩ ay).toArray→wx.there tb 4 (aT (bG x5)).toArray.size:=fun wx hh=>hh.there (by rw[az,bi,hnx,az,bB hznl];omega)
 have hJ:(prog.info? 23).map (·.size)=some (aT (bG x5)).toArray.size:=by rw[az,bi,hnx];exact dY
 have HT:=aa (ah ht hJ)
 clear ht hJ
 have HO:=aa (all_oneCell_toArray (gJ (bG x5)))
 go_upto_region 8 with (first
  |(go_at_call 103;refine (nD p g r4 _ P4.o.rd (by have:=P4.o.len;omega)).mono ?_;intro e u5 hq;rw[HX.o.2.2.2.2.2.2.1.1,HX.o.2.2.2.2.2.2.1.2] at hq;obtain⟨rfl,hr,hk⟩:=hq;have Q:=aa (P4.o.read hr hk S5.o.1 S5.o.2);clear hr hk)
  |(refine wpList_store_mid rfl 23 (.tmp 22) (.tmp 21) rfl tb 4 (aT (bG x5)).toArray rfl rfl (HT.o.1 _ Q.o.row) HT.o.2 HO.o ?_))
 have P5:=aa (Q.o.setL 4 (aT (bG x5)) (L':=(bE ⟨x1,x2,x3,x4,bG x5,[]⟩ ay)) (by rw[fq,fq];exact jd [.int .i64 x1,.int .i64 x2,.int .i64 x3,.int .i64 x4] _ _ _ (by rw[bi,bi,hnx,hznl])))
 obtain⟨v5,hv⟩:∃ v,u5.setCells tb 4 (aT (bG x5))=v:=⟨_,rfl⟩
 rw[hv] at P5
 rw[hv]
 simp only[Act.put]
 clear hv Q P4 S5
 have hnx2:(RQ.mk x1 x2 x3 x4 (bG x5) []).name.length=32:=hnx
 go_upto_region 9 with (first
  |(go_at_call 104;refine (kI p g r5 1024 _ P5.o.rd (by have:=P5.o.len;omega)).mono ?_;intro e u6 hq;unfold jM at hq;rw[HX.o.2.2.2.2.2.2.2.1,HX.o.2.2.2.2.2.2.2.2] at hq;obtain⟨ue,rfl,hfr,hr,hk⟩:=hq;obtain⟨A6,c6,G6,rfl,hb6,hn6⟩:=hfr.gives;have Q:=aa (P5.o.read hr hk S6.o.1 S6.o.2);have B6:=aa (ah hb6 hn6);have y:u6.cell? ⟨tb,36,none⟩=some ay:=(Q.o.row.cell 36).trans (gq hnx2);have y2:=Q.o.row.free 36;clear hr hk hfr hb6 hn6))
 have P6:=aa (Q.o.set 36 (.slice A6 x6.length c6) (L':=(bE ⟨x1,x2,x3,x4,bG x5,x6⟩ (.slice A6 x6.length c6))) (by rw[fq,fq];exact (gL (a:=[.int .i64 x1,.int .i64 x2,.int .i64 x3,.int .i64 x4]++aT (bG x5)) (x:=ay) (b:=[]) (k:=36) (by simp) (by simp[bi,hnx]) _).trans (by simp)))
 have B7:aH (aS (u6.setCell ⟨tb,36,none⟩ (.slice A6 x6.length c6)) G6 (.slice A6 x6.length c6) x6∧∀ y∈G6,tb<y∧y<u6.heap.size):=aa (by
  have hlt:∀ y∈G6,tb<y∧y<u6.heap.size:=fun y hy=>⟨by have:=(B6.o.2 y hy).1;have:=P5.o.row.lt;omega,(B6.o.2 y hy).2⟩
  exact⟨B6.o.1.keep (fE u6 tb 36 _) (fun y hy=>by have:=(hlt y hy).1;simp;omega),hlt⟩)
 have hsz:(u6.setCell ⟨tb,36,none⟩ (.slice A6 x6.length c6)).heap.size=u6.heap.size:=World.size_setCell _ _ _
 obtain⟨v6,hv⟩:∃ v,u6.setCell ⟨tb,36,none⟩ (.slice A6 x6.length c6)=v:=⟨_,rfl⟩
 rw[hv] at P6 B7 hsz ⊢
 have HSZ:=aa hsz
 clear hv y y2 Q P5 S6 hsz
 have hq:aH (l5 v6 G6 ⟨x1,x2,x3,x4,bG x5,x6⟩ (.slice A6 x6.length c6)):=aa ⟨hnx,B7.o.1⟩
 have hI:aH ((prog.info? 26).map (·.size)=some (bE ⟨x1,x2,x3,x4,bG x5,x6⟩ (.slice A6 x6.length c6)).length):=aa (by rw[bB hnx];exact bN)
 have hxl:(bE ⟨x1,x2,x3,x4,bG x5,x6⟩ (.slice A6 x6.length c6)).length=37:=bB hnx
 have hxo:∀ u∈bE ⟨x1,x2,x3,x4,bG x5,x6⟩ (.slice A6 x6.length c6),u.oneCell'=true:=dR _ rfl
 obtain⟨XE,hXE⟩:∃ XE,dm r6.end_ (RQ.ok ⟨x1,x2,x3,x4,bG x5,x6⟩)=XE:=⟨_,rfl⟩
 obtain⟨XL,hXL⟩:∃ XL,eL XE (bE ⟨x1,x2,x3,x4,bG x5,x6⟩ (.slice A6 x6.length c6)) Z=XL:=⟨_,rfl⟩
 have hLl:XL.length=37:=by rw[←hXL];unfold eL;split;exact hxl;exact HZ.o.2.1
 have hLo:∀ u∈XL,u.oneCell'=true:=by rw[←hXL];unfold eL;split;exact hxo;exact HZ.o.2.2.1
 have HXL:=aa (ah hXL hXE)
 have HL:=aa (ah hLl hLo)
 clear hxl hxo hXL hXE hLl hLo
 go_upto_region 9 with (first
  |fail)
 have rs:∀ wx,aC wx w.heap.size 26 Z.toArray→aC (wx.setCells w.heap.size 0 XL) w.heap.size 26 XL.toArray:=fun wx hh=>by
  have:=hh.setL (vs:=XL) (o:=0)
  rw[aR (by rw[az,HL.o.1,HZ.o.2.1])] at this
  exact this
 have ht:∀ wx,aC wx w.heap.size 26 Z.toArray→wx.there w.heap.size 0 XL.toArray.size:=fun wx hh=>hh.there (by simp only[az];have h1:=HL.o.1;have h2:=HZ.o.2.1;omega)
 have hJ:(prog.info? 26).map (·.size)=some XL.toArray.size:=by rw[az,HL.o.1];exact bN
 have HS:=aa (ah rs (ah ht hJ))
 have HO2:=aa (all_oneCell_toArray HL.o.2)
 clear rs ht hJ
 go_wp2_with (first
  |(refine wpList_load_mid rfl 26 (.tmp 5) rfl tb 0 rfl _ _ P6.o.row.rangeAll underlying26 rfl hI.o ?_)
  |(go_at_call 105;refine (tF G6 p g r6 _ _ _ P6.o.rd hq.o).mono ?_;rintro e w9 ⟨rfl,k9⟩;rw[HXL.o.2,HZ.o.2.2.2.1,HXL.o.1];have P9:=aa (P6.o.over k9);have K9:=aa k9;clear k9)
  |(refine wpList_store_mid rfl 26 (.tmp 2) (.tmp 29) rfl w.heap.size 0 XL.toArray rfl rfl (HS.o.2.1 _ P9.o.res) HS.o.2.2 HO2.o ?_))
 refine bodyPost_ret (aG rfl _ _ w.heap.size 26 _ (0,0) _ rfl (HS.o.1 _ P9.o.res) underlying26 rfl HS.o.2.2) rfl ?_
 have ks:=(ag.refl [w.heap.size] w9).setL (vs:=XL) (g:=w.heap.size) (o:=0) (by simp)
 have hlo:=P9.o.lo
 have hhi:=P9.o.hi
 refine⟨eL XE (.slice A6 x6.length c6) ay,G6,?_,?_,fun y hy=>⟨?_,?_⟩,P9.o.kp.setL (.inr (Nat.le_refl _))⟩
 ·have h1:XL=bE (eL XE ⟨x1,x2,x3,x4,bG x5,x6⟩ aV) (eL XE (.slice A6 x6.length c6) ay):=by rw[←HXL.o.1,←HZ.o.2.2.2.1];exact rqL_eL XE _ _
  rw[HE.o,HXL.o.2,←h1]
  rfl
 ·rw[HE.o,HXL.o.2]
  exact eL_rqV ⟨hnx,(hq.o.2.keep K9.o (by simp)).keep ks (fun y hy=>by have:=(B7.o.2 y hy).1;simp;omega)⟩
 ·have:=(B7.o.2 y hy).1;omega
 ·have h1:=(B7.o.2 y hy).2;have h2:=K9.o.size;have h3:=ks.size;have h4:=HSZ.o;omega
def yB (r:RS):RS:=r
def yC (r:RS):RS:=((yB r).num 1).2
def yD (r:RS):RS:=((yC r).count 9007199254740991).2
def yE (r:RS):RS:=((yD r).num 1).2
def yF (r:RS):RS:=((yE r).count 9007199254740991).2
def yG (r:RS):RS:=((yF r).num 1).2
def yH (r:RS):RS:=((yG r).raw 32).2
def yI (r:RS):RS:=((yH r).text 1024).2
def wF (r:RS):AN:=⟨((yB r).num 1).1,((yC r).count 9007199254740991).1,((yD r).num 1).1,((yE r).count 9007199254740991).1,((yF r).num 1).1,bG ((yG r).raw 32).1,((yH r).text 1024).1⟩
def dB (b:List UInt8):AN × Int:=(eL (dm (yI ⟨b,0⟩).end_ (wF ⟨b,0⟩).ok) (wF ⟨b,0⟩) aY,dm (yI ⟨b,0⟩).end_ (wF ⟨b,0⟩).ok)
theorem ib (q:AN) (ev:Value):bK q ev=[.int .i64 q.client,.int .i64 q.num,.int .i64 q.code,.int .i64 q.version,.int .i64 q.epoch]++(aT q.name++[ev]):=by simp[bK]
theorem anL_eL (E:Int) (q:AN) (ev:Value):eL E (bK q ev) (bK aY ay)=bK (eL E q aY) (eL E ev ay):=by unfold eL;split<;>rfl
theorem eL_anV {E:Int} {w:World} {G:List Nat} {q:AN} {ev:Value} (h:mM w G q ev):mM w G (eL E q aY) (eL E ev ay):=by
 unfold eL
 split
 ·exact h
 ·exact⟨aM,aS.nil w G⟩
theorem oH (F:List Nat) (b:List UInt8) (v:Value) (w:World) (h:aS w F v b) (hb:b.length≤1000000):
 Calls prog 32 #[v] w fun e w'=>∃ ev G,e= .returned (.tuple #[.agg (bK (dB b).1 ev).toArray,.int .i64 (dB b).2])∧mM w' G (dB b).1 ev∧bP w w' G∧ag [] w w':=by
 obtain⟨zn,hzn⟩:∃ zn,aY.name=zn:=⟨_,rfl⟩
 have hznl:zn.length=32:=by rw[←hzn];exact aM
 obtain⟨Z,hZ⟩:∃ Z,bK aY ay=Z:=⟨_,rfl⟩
 have hZ0:Z=bK ⟨0,0,0,0,0,zn,[]⟩ ay:=by rw[←hZ,←hzn];rfl
 have zv:=qR
 have zl:Z.length=38:=by rw[←hZ];exact bL aM
 have zo:∀ u∈Z,u.oneCell'=true:=by rw[←hZ];exact eB _ rfl
 rw[hZ] at zv
 obtain⟨r0,hr0⟩:∃ r,RS.mk b 0=r:=⟨_,rfl⟩
 obtain⟨x1,hx1⟩:∃ x,(r0.num 1).1=x:=⟨_,rfl⟩
 obtain⟨r1,hr1⟩:∃ x,(r0.num 1).2=x:=⟨_,rfl⟩
 have S1:aH ((r1.l≠[]→r0.l≠[])∧r1.l.length≤r0.l.length):=aa (by rw[←hr1];exact⟨cO,bV _ _⟩)
 obtain⟨x2,hx2⟩:∃ x,(r1.count 9007199254740991).1=x:=⟨_,rfl⟩
 obtain⟨r2,hr2⟩:∃ x,(r1.count 9007199254740991).2=x:=⟨_,rfl⟩
 have S2:aH ((r2.l≠[]→r1.l≠[])∧r2.l.length≤r1.l.length):=aa (by rw[←hr2];exact⟨bW,RS.count_short _ _⟩)
 obtain⟨x3,hx3⟩:∃ x,(r2.num 1).1=x:=⟨_,rfl⟩
 obtain⟨r3,hr3⟩:∃ x,(r2.num 1).2=x:=⟨_,rfl⟩
 have S3:aH ((r3.l≠[]→r2.l≠[])∧r3.l.length≤r2.l.length):=aa (by rw[←hr3];exact⟨cO,bV _ _⟩)
 obtain⟨x4,hx4⟩:∃ x,(r3.count 9007199254740991).1=x:=⟨_,rfl⟩
 obtain⟨r4,hr4⟩:∃ x,(r3.count 9007199254740991).2=x:=⟨_,rfl⟩
 have S4:aH ((r4.l≠[]→r3.l≠[])∧r4.l.length≤r3.l.length):=aa (by rw[←hr4];exact⟨bW,RS.count_short _ _⟩)
 obtain⟨x5,hx5⟩:∃ x,(r4.num 1).1=x:=⟨_,rfl⟩
 obtain⟨r5,hr5⟩:∃ x,(r4.num 1).2=x:=⟨_,rfl⟩
 have S5:aH ((r5.l≠[]→r4.l≠[])∧r5.l.length≤r4.l.length):=aa (by rw[←hr5];exact⟨cO,bV _ _⟩)
 obtain⟨x6,hx6⟩:∃ x,(r5.raw 32).1=x:=⟨_,rfl⟩
 obtain⟨r6,hr6⟩:∃ x,(r5.raw 32).2=x:=⟨_,rfl⟩
 have S6:aH ((r6.l≠[]→r5.l≠[])∧r6.l.length≤r5.l.length):=aa (by rw[←hr6];exact⟨jK,kE _ _⟩)
 obtain⟨x7,hx7⟩:∃ x,(r6.text 1024).1=x:=⟨_,rfl⟩
 obtain⟨r7,hr7⟩:∃ x,(r6.text 1024).2=x:=⟨_,rfl⟩
 have S7:aH ((r7.l≠[]→r6.l≠[])∧r7.l.length≤r6.l.length):=aa (by rw[←hr7];exact⟨dO,fG _ _⟩)
 have e0:yB ⟨b,0⟩=r0:=by unfold yB;exact hr0
 have e1:yC ⟨b,0⟩=r1:=by unfold yC;rw[e0];exact hr1
 have e2:yD ⟨b,0⟩=r2:=by unfold yD;rw[e1];exact hr2
 have e3:yE ⟨b,0⟩=r3:=by unfold yE;rw[e2];exact hr3
 have e4:yF ⟨b,0⟩=r4:=by unfold yF;rw[e3];exact hr4
 have e5:yG ⟨b,0⟩=r5:=by unfold yG;rw[e4];exact hr5
 have e6:yH ⟨b,0⟩=r6:=by unfold yH;rw[e5];exact hr6
 have e7:yI ⟨b,0⟩=r7:=by unfold yI;rw[e6];exact hr7
 have eq:wF ⟨b,0⟩=⟨x1,x2,x3,x4,x5,bG x6,x7⟩:=by unfold wF;rw[e0,e1,e2,e3,e4,e5,e6,hx1,hx2,hx3,hx4,hx5,hx6,hx7]
 have HE:=aa (show dB b=(eL (dm r7.end_ (AN.ok ⟨x1,x2,x3,x4,x5,bG x6,x7⟩)) ⟨x1,x2,x3,x4,x5,bG x6,x7⟩ aY,dm r7.end_ (AN.ok ⟨x1,x2,x3,x4,x5,bG x6,x7⟩)) by unfold dB;rw[eq,e7])
 have hnx:(bG x6).length=32:=by rw[←hx6];exact gz (iR _)
 have hrl:r0.l.length≤1000000:=by rw[←hr0];exact hb
 have HX:=aa (ah hr0 (ah hrl (ah (ah hx1 hr1) (ah (ah hx2 hr2) (ah (ah hx3 hr3) (ah (ah hx4 hr4) (ah (ah hx5 hr5) (ah (ah hx6 hr6) (ah hx7 hr7)))))))))
 have HV:=aa (ah h hb)
 have HZ:=aa (ah zv (ah zl (ah zo (ah hZ hZ0))))
 clear e7 e6 e5 e4 e3 e2 e1 e0 hx1 hx2 hx3 hx4 hx5 hx6 hx7 eq h hb zv zl zo hZ hZ0 hzn hrl hr0 hr1 hr2 hr3 hr4 hr5 hr6 hr7
 have kA:=(ag.refl [] w).alloc (.cells Z.toArray 28)
 have rA:=aC.new w 28 Z.toArray
 obtain⟨wA,hwA⟩:∃ wA,w.alloc (.cells Z.toArray 28)=wA:=⟨_,rfl⟩
 rw[hwA] at kA rA
 have HA:=aa (ah hwA (ah kA (ah rA (HV.o.1.keep kA (by simp)))))
 clear kA rA hwA
 go_enter func32,ntmps32
 go_upto_region 2 with (first
  |(with_reducible refine aD _ _ rfl 28 rfl _ HZ.o.1 HA.o.1 ?_)
  |(go_at_call 93;refine (jX F b v _ HA.o.2.2.2 HV.o.2).mono ?_;rintro e w1 ⟨p,g,rfl,d1,d2,d3,d4⟩;rw[HX.o.1] at d1;have D1:=aa (ah d1 (ah d2 (ah d3 d4)));clear d1 d2 d3 d4))
 have P0:aH (oN w (w1.alloc (.cells Z.toArray 28)) p g w1.heap.size r0 28 (bK ⟨0,0,0,0,0,zn,[]⟩ ay) Z):=aa (by
  have kB:=(ag.refl [] w1).alloc (.cells Z.toArray 28)
  have h1:=HA.o.2.2.1.lt
  have h2:=D1.o.1.lt
  have h3:=D1.o.2.1
  have h4:=HA.o.2.1.size
  refine⟨D1.o.1.keep kB (by simp) (by simp),by omega,h2,fun hne=>⟨?_,D1.o.1.gl hne⟩,HX.o.2.1,?_,kB.row (D1.o.2.2.2.row HA.o.2.2.1 (by simp)) (by simp),(HA.o.2.1.then D1.o.2.2.2 (by simp)).then kB (by simp)⟩
  ·have:=D1.o.2.2.1 (by rw[show b=r0.l by rw[←HX.o.1]];exact hne);omega
  ·rw[←HZ.o.2.2.2.2];exact aC.new _ _ _)
 go_upto_region 3 with (first
  |(with_reducible refine aD _ _ rfl 28 rfl _ HZ.o.1 rfl ?_))
 obtain⟨tb,htb⟩:∃ tb,w1.heap.size=tb:=⟨_,rfl⟩
 obtain⟨v0,hv0⟩:∃ v0,w1.alloc (.cells Z.toArray 28)=v0:=⟨_,rfl⟩
 rw[htb,hv0] at P0
 rw[htb,hv0]
 clear htb hv0 D1
 go_upto_region 4 with (first
  |(go_at_call 94;refine (fP p g r0 1 _ P0.o.rd).mono ?_;intro e u1 hq;unfold fJ at hq;rw[HX.o.2.2.1.1,HX.o.2.2.1.2] at hq;obtain⟨rfl,hr,hk⟩:=hq;have Q:=aa (P0.o.read hr hk S1.o.1 S1.o.2);have y:u1.cell? ⟨tb,0,none⟩=some (.int .i64 0):=(Q.o.row.cell 0).trans (by simp[bK]);have y2:=Q.o.row.free 0;clear hr hk))
 have P1:=aa (Q.o.set 0 (.int .i64 x1) (L':=(bK ⟨x1,0,0,0,0,zn,[]⟩ ay)) (by simp[bK]))
 obtain⟨v1,hv⟩:∃ v,u1.setCell ⟨tb,0,none⟩ (.int .i64 x1)=v:=⟨_,rfl⟩
 rw[hv] at P1 ⊢
 clear hv y y2 Q P0 S1
 go_upto_region 5 with (first
  |(go_at_call 102;refine (fZ p g r1 9007199254740991 _ P1.o.rd).mono ?_;intro e u2 hq;unfold eZ at hq;rw[HX.o.2.2.2.1.1,HX.o.2.2.2.1.2] at hq;obtain⟨rfl,hr,hk⟩:=hq;have Q:=aa (P1.o.read hr hk S2.o.1 S2.o.2);have y:u2.cell? ⟨tb,1,none⟩=some (.int .i64 0):=(Q.o.row.cell 1).trans (by simp[bK]);have y2:=Q.o.row.free 1;clear hr hk))
 have P2:=aa (Q.o.set 1 (.int .i64 x2) (L':=(bK ⟨x1,x2,0,0,0,zn,[]⟩ ay)) (by simp[bK]))
 obtain⟨v2,hv⟩:∃ v,u2.setCell ⟨tb,1,none⟩ (.int .i64 x2)=v:=⟨_,rfl⟩
 rw[hv] at P2 ⊢
 clear hv y y2 Q P1 S2
 go_upto_region 6 with (first
  |(go_at_call 94;refine (fP p g r2 1 _ P2.o.rd).mono ?_;intro e u3 hq;unfold fJ at hq;rw[HX.o.2.2.2.2.1.1,HX.o.2.2.2.2.1.2] at hq;obtain⟨rfl,hr,hk⟩:=hq;have Q:=aa (P2.o.read hr hk S3.o.1 S3.o.2);have y:u3.cell? ⟨tb,2,none⟩=some (.int .i64 0):=(Q.o.row.cell 2).trans (by simp[bK]);have y2:=Q.o.row.free 2;clear hr hk))
 have P3:=aa (Q.o.set 2 (.int .i64 x3) (L':=(bK ⟨x1,x2,x3,0,0,zn,[]⟩ ay)) (by simp[bK]))
 obtain⟨v3,hv⟩:∃ v,u3.setCell ⟨tb,2,none⟩ (.int .i64 x3)=v:=⟨_,rfl⟩
 rw[hv] at P3 ⊢
 clear hv y y2 Q P2 S3
 go_upto_region 7 with (first
  |(go_at_call 102;refine (fZ p g r3 9007199254740991 _ P3.o.rd).mono ?_;intro e u4 hq;unfold eZ at hq;rw[HX.o.2.2.2.2.2.1.1,HX.o.2.2.2.2.2.1.2] at hq;obtain⟨rfl,hr,hk⟩:=hq;have Q:=aa (P3.o.read hr hk S4.o.1 S4.o.2);have y:u4.cell? ⟨tb,3,none⟩=some (.int .i64 0):=(Q.o.row.cell 3).trans (by simp[bK]);have y2:=Q.o.row.free 3;clear hr hk))
 have P4:=aa (Q.o.set 3 (.int .i64 x4) (L':=(bK ⟨x1,x2,x3,x4,0,zn,[]⟩ ay)) (by simp[bK]))
 obtain⟨v4,hv⟩:∃ v,u4.setCell ⟨tb,3,none⟩ (.int .i64 x4)=v:=⟨_,rfl⟩
 rw[hv] at P4 ⊢
 clear hv y y2 Q P3 S4
 go_upto_region 8 with (first
  |(go_at_call 94;refine (fP p g r4 1 _ P4.o.rd).mono ?_;intro e u5 hq;unfold fJ at hq;rw[HX.o.2.2.2.2.2.2.1.1,HX.o.2.2.2.2.2.2.1.2] at hq;obtain⟨rfl,hr,hk⟩:=hq;have Q:=aa (P4.o.read hr hk S5.o.1 S5.o.2);have y:u5.cell? ⟨tb,4,none⟩=some (.int .i64 0):=(Q.o.row.cell 4).trans (by simp[bK]);have y2:=Q.o.row.free 4;clear hr hk))
 have P5:=aa (Q.o.set 4 (.int .i64 x5) (L':=(bK ⟨x1,x2,x3,x4,x5,zn,[]⟩ ay)) (by simp[bK]))
 obtain⟨v5,hv⟩:∃ v,u5.setCell ⟨tb,4,none⟩ (.int .i64 x5)=v:=⟨_,rfl⟩
 rw[hv] at P5 ⊢
 clear hv y y2 Q P4 S5
 have ht:∀ wx,aC wx tb 28 (bK ⟨x1,x2,x3,x4,x5,zn,[]⟩ ay).toArray→wx.there tb 5 (aT (bG x6)).toArray.size:=fun wx hh=>hh.there (by rw[az,bi,hnx,az,bL hznl];omega)
 have hJ:(prog.info? 23).map (·.size)=some (aT (bG x6)).toArray.size:=by rw[az,bi,hnx];exact dY
 have HT:=aa (ah ht hJ)
 clear ht hJ
 have HO:=aa (all_oneCell_toArray (gJ (bG x6)))
 go_upto_region 9 with (first
  |(go_at_call 103;refine (nD p g r5 _ P5.o.rd (by have:=P5.o.len;omega)).mono ?_;intro e u6 hq;rw[HX.o.2.2.2.2.2.2.2.1.1,HX.o.2.2.2.2.2.2.2.1.2] at hq;obtain⟨rfl,hr,hk⟩:=hq;have Q:=aa (P5.o.read hr hk S6.o.1 S6.o.2);clear hr hk)
  |(refine wpList_store_mid rfl 23 (.tmp 25) (.tmp 24) rfl tb 5 (aT (bG x6)).toArray rfl rfl (HT.o.1 _ Q.o.row) HT.o.2 HO.o ?_))
 have P6:=aa (Q.o.setL 5 (aT (bG x6)) (L':=(bK ⟨x1,x2,x3,x4,x5,bG x6,[]⟩ ay)) (by rw[ib,ib];exact jd [.int .i64 x1,.int .i64 x2,.int .i64 x3,.int .i64 x4,.int .i64 x5] _ _ _ (by rw[bi,bi,hnx,hznl])))
 obtain⟨v6,hv⟩:∃ v,u6.setCells tb 5 (aT (bG x6))=v:=⟨_,rfl⟩
 rw[hv] at P6
 rw[hv]
 simp only[Act.put]
 clear hv Q P5 S6
 have hnx2:(AN.mk x1 x2 x3 x4 x5 (bG x6) []).name.length=32:=hnx
 go_upto_region 10 with (first
  |(go_at_call 104;refine (kI p g r6 1024 _ P6.o.rd (by have:=P6.o.len;omega)).mono ?_;intro e u7 hq;unfold jM at hq;rw[HX.o.2.2.2.2.2.2.2.2.1,HX.o.2.2.2.2.2.2.2.2.2] at hq;obtain⟨ue,rfl,hfr,hr,hk⟩:=hq;obtain⟨A6,c6,G6,rfl,hb6,hn6⟩:=hfr.gives;have Q:=aa (P6.o.read hr hk S7.o.1 S7.o.2);have B6:=aa (ah hb6 hn6);have y:u7.cell? ⟨tb,37,none⟩=some ay:=(Q.o.row.cell 37).trans (gp hnx2);have y2:=Q.o.row.free 37;clear hr hk hfr hb6 hn6))
 have P7:=aa (Q.o.set 37 (.slice A6 x7.length c6) (L':=(bK ⟨x1,x2,x3,x4,x5,bG x6,x7⟩ (.slice A6 x7.length c6))) (by rw[ib,ib];exact (gL (a:=[.int .i64 x1,.int .i64 x2,.int .i64 x3,.int .i64 x4,.int .i64 x5]++aT (bG x6)) (x:=ay) (b:=[]) (k:=37) (by simp) (by simp[bi,hnx]) _).trans (by simp)))
 have B7:aH (aS (u7.setCell ⟨tb,37,none⟩ (.slice A6 x7.length c6)) G6 (.slice A6 x7.length c6) x7∧∀ y∈G6,tb<y∧y<u7.heap.size):=aa (by
  have hlt:∀ y∈G6,tb<y∧y<u7.heap.size:=fun y hy=>⟨by have:=(B6.o.2 y hy).1;have:=P6.o.row.lt;omega,(B6.o.2 y hy).2⟩
  exact⟨B6.o.1.keep (fE u7 tb 37 _) (fun y hy=>by have:=(hlt y hy).1;simp;omega),hlt⟩)
 have hsz:(u7.setCell ⟨tb,37,none⟩ (.slice A6 x7.length c6)).heap.size=u7.heap.size:=World.size_setCell _ _ _
 obtain⟨v7,hv⟩:∃ v,u7.setCell ⟨tb,37,none⟩ (.slice A6 x7.length c6)=v:=⟨_,rfl⟩
 rw[hv] at P7 B7 hsz ⊢
 have HSZ:=aa hsz
 clear hv y y2 Q P6 S7 hsz
 have hq:aH (mM v7 G6 ⟨x1,x2,x3,x4,x5,bG x6,x7⟩ (.slice A6 x7.length c6)):=aa ⟨hnx,B7.o.1⟩
 have hI:aH ((prog.info? 28).map (·.size)=some (bK ⟨x1,x2,x3,x4,x5,bG x6,x7⟩ (.slice A6 x7.length c6)).length):=aa (by rw[bL hnx];exact bR)
 have hxl:(bK ⟨x1,x2,x3,x4,x5,bG x6,x7⟩ (.slice A6 x7.length c6)).length=38:=bL hnx
 have hxo:∀ u∈bK ⟨x1,x2,x3,x4,x5,bG x6,x7⟩ (.slice A6 x7.length c6),u.oneCell'=true:=eB _ rfl
 obtain⟨XE,hXE⟩:∃ XE,dm r7.end_ (AN.ok ⟨x1,x2,x3,x4,x5,bG x6,x7⟩)=XE:=⟨_,rfl⟩
 obtain⟨XL,hXL⟩:∃ XL,eL XE (bK ⟨x1,x2,x3,x4,x5,bG x6,x7⟩ (.slice A6 x7.length c6)) Z=XL:=⟨_,rfl⟩
 have hLl:XL.length=38:=by rw[←hXL];unfold eL;split;exact hxl;exact HZ.o.2.1
 have hLo:∀ u∈XL,u.oneCell'=true:=by rw[←hXL];unfold eL;split;exact hxo;exact HZ.o.2.2.1
 have HXL:=aa (ah hXL hXE)
 have HL:=aa (ah hLl hLo)
 clear hxl hxo hXL hXE hLl hLo
 go_upto_region 10 with (first
  |fail)
 have rs:∀ wx,aC wx w.heap.size 28 Z.toArray→aC (wx.setCells w.heap.size 0 XL) w.heap.size 28 XL.toArray:=fun wx hh=>by
  have:=hh.setL (vs:=XL) (o:=0)
  rw[aR (by rw[az,HL.o.1,HZ.o.2.1])] at this
  exact this
 have ht:∀ wx,aC wx w.heap.size 28 Z.toArray→wx.there w.heap.size 0 XL.toArray.size:=fun wx hh=>hh.there (by simp only[az];have h1:=HL.o.1;have h2:=HZ.o.2.1;omega)
 have hJ:(prog.info? 28).map (·.size)=some XL.toArray.size:=by rw[az,HL.o.1];exact bR
 have HS:=aa (ah rs (ah ht hJ))
 have HO2:=aa (all_oneCell_toArray HL.o.2)
 clear rs ht hJ
 go_wp2_with (first
  |(refine wpList_load_mid rfl 28 (.tmp 5) rfl tb 0 rfl _ _ P7.o.row.rangeAll underlying28 rfl hI.o ?_)
  |(go_at_call 111;refine (tC G6 p g r7 _ _ _ P7.o.rd hq.o).mono ?_;rintro e w9 ⟨rfl,k9⟩;rw[HXL.o.2,HZ.o.2.2.2.1,HXL.o.1];have P9:=aa (P7.o.over k9);have K9:=aa k9;clear k9)
  |(refine wpList_store_mid rfl 28 (.tmp 2) (.tmp 32) rfl w.heap.size 0 XL.toArray rfl rfl (HS.o.2.1 _ P9.o.res) HS.o.2.2 HO2.o ?_))
 refine bodyPost_ret (aG rfl _ _ w.heap.size 28 _ (0,0) _ rfl (HS.o.1 _ P9.o.res) underlying28 rfl HS.o.2.2) rfl ?_
 have ks:=(ag.refl [w.heap.size] w9).setL (vs:=XL) (g:=w.heap.size) (o:=0) (by simp)
 have hlo:=P9.o.lo
 have hhi:=P9.o.hi
 refine⟨eL XE (.slice A6 x7.length c6) ay,G6,?_,?_,fun y hy=>⟨?_,?_⟩,P9.o.kp.setL (.inr (Nat.le_refl _))⟩
 ·have h1:XL=bK (eL XE ⟨x1,x2,x3,x4,x5,bG x6,x7⟩ aY) (eL XE (.slice A6 x7.length c6) ay):=by rw[←HXL.o.1,←HZ.o.2.2.2.1];exact anL_eL XE _ _
  rw[HE.o,HXL.o.2,←h1]
  rfl
 ·rw[HE.o,HXL.o.2]
  exact eL_anV ⟨hnx,(hq.o.2.keep K9.o (by simp)).keep ks (fun y hy=>by have:=(B7.o.2 y hy).1;simp;omega)⟩
 ·have:=(B7.o.2 y hy).1;omega
 ·have h1:=(B7.o.2 y hy).2;have h2:=K9.o.size;have h3:=ks.size;have h4:=HSZ.o;omega
end Go.Proofs.YthfdkonhjpdflaaGreatDoor
