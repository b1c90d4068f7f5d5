import Derived.Test.YthfdkonhjpdflaaGreatDoorGRA
import Derived.Test.YthfdkonhjpdflaaGreatDoorRCB
namespace Go.Proofs.YthfdkonhjpdflaaGreatDoor
open Go.RowKit Go.WideShapes Go.Proofs.Tryz
set_option linter.unusedVariables false
set_option maxRecDepth 100000
set_option linter.unusedSimpArgs false
set_option maxHeartbeats 16000000
section
theorem LA {P:Program} (w:World) {ops:Array Oper} {rest:List Oper} {o:Oper} {a:Act} {Q:Exit→Act→World→Prop} (hgd:o.guard=none) (t:TypeId) (parts:Array (Nat × Operand)) (ho:o.op= .build t parts)
 (cells:Array Value) (hb:P.built t (parts.map fun (i,x)=>(i,a.eval x)).toList=some cells) (h:wpList P ops Q rest (a.put o.dst (.agg cells)) w):wpList P ops Q (o::rest) a w:=
 wpList_plain hgd fun K hK=>by
  unfold Oper.wp execOp
  simp only[ho,Sem.run_bind,run_build w t _ cells hb,Result.andThen_ok]
  exact hK _ _ h
end
structure YN (w0 w:World) (p g:Nat) (r:RS) (T:TypeId) (Z:List Value):Prop where
 rd:YA w p g r
 lo:w0.heap.size<p
 gl:r.l≠[]→w0.heap.size<g
 len:r.l.length≤1000000
 res:l5 w w0.heap.size T Z.toArray
 kp:U1 [] w0 w
theorem YN.read {w0 w w':World} {p g:Nat} {r r':RS} {T:TypeId} {Z:List Value} (h:YN w0 w p g r T Z) (hr:YA w' p g r') (hk:U1 [p] w w') (hl:r'.l≠[]→r.l≠[]) (hs:r'.l.length≤r.l.length):YN w0 w' p g r' T Z:=
 ⟨hr,h.lo,fun hne=>h.gl (hl hne),Nat.le_trans hs h.len,hk.row h.res (by have:=h.lo;simp;omega),h.kp.then hk (fun x hx=> .inr (by simp at hx;have:=h.lo;omega))⟩
structure YD (w0 w:World) (p g tb:Nat) (r:RS) (T:TypeId) (L Z:List Value):Prop where
 rd:YA w p g r
 lo:w0.heap.size<p
 hi:p<tb
 gl:r.l≠[]→w0.heap.size<g∧g<tb
 len:r.l.length≤1000000
 row:l5 w tb T L.toArray
 res:l5 w w0.heap.size T Z.toArray
 kp:U1 [] w0 w
theorem YN.box {w0 w:World} {p g:Nat} {r:RS} {T:TypeId} {Z:List Value} (h:YN w0 w p g r T Z) (L:List Value):YD w0 (w.alloc (.cells L.toArray T)) p g w.heap.size r T L Z:=by
 have kB:=(U1.refl [] w).alloc (.cells L.toArray T)
 exact⟨h.rd.keep kB (by simp) (by simp),h.lo,h.rd.lt,fun hne=>⟨h.gl hne,h.rd.gl hne⟩,h.len,l5.new _ _ _,kB.row h.res (by simp),h.kp.then kB (by simp)⟩
theorem YD.read {w0 w w':World} {p g tb:Nat} {r r':RS} {T:TypeId} {L Z:List Value} (h:YD w0 w p g tb r T L Z) (hr:YA w' p g r') (hk:U1 [p] w w') (hl:r'.l≠[]→r.l≠[]) (hs:r'.l.length≤r.l.length):YD w0 w' p g tb r' T L Z:=
 ⟨hr,h.lo,h.hi,fun hne=>h.gl (hl hne),Nat.le_trans hs h.len,hk.row h.row (by have:=h.hi;simp;omega),hk.row h.res (by have:=h.lo;simp;omega),h.kp.then hk (fun x hx=> .inr (by simp at hx;have:=h.lo;omega))⟩
theorem YD.keep {w0 w w':World} {p g tb:Nat} {r:RS} {T:TypeId} {L L' Z:List Value} (h:YD w0 w p g tb r T L Z) (hk:U1 [tb] w w') (hrow:l5 w' tb T L'.toArray):YD w0 w' p g tb r T L' Z:=
 ⟨h.rd.keep hk (by have:=h.hi;simp;omega) (fun hne=>by have:=h.gl hne;simp;omega),h.lo,h.hi,h.gl,h.len,hrow,hk.row h.res (by have:=h.lo;have:=h.hi;simp;omega),h.kp.then hk (fun x hx=> .inr (by simp at hx;have:=h.lo;have:=h.hi;omega))⟩
theorem YD.set {w0 w:World} {p g tb:Nat} {r:RS} {T:TypeId} {L L' Z:List Value} (h:YD w0 w p g tb r T L Z) (k:Nat) (u:Value) (he:L.toArray.setIfInBounds k u=L'.toArray):YD w0 (w.setCell ⟨tb,k,none⟩ u) p g tb r T L' Z:=
 h.keep ((U1.refl [tb] w).setCell ⟨tb,k,none⟩ u (.inl (by simp))) (by rw[←he];exact h.row.set k u)
theorem YD.setL {w0 w:World} {p g tb:Nat} {r:RS} {T:TypeId} {L L' Z:List Value} (h:YD w0 w p g tb r T L Z) (k:Nat) (us:List Value) (he:KA L.toArray k us=L'.toArray):YD w0 (w.setCells tb k us) p g tb r T L' Z:=
 h.keep ((U1.refl [tb] w).setL (.inl (by simp))) (by rw[←he];exact h.row.setL)
theorem YD.over {w0 w w':World} {p g tb:Nat} {r:RS} {T:TypeId} {L Z:List Value} (h:YD w0 w p g tb r T L Z) (hk:U1 [] w w'):YD w0 w' p g tb r T L Z:=
 h.keep (hk.more (by simp)) (hk.row h.row (by simp))
theorem tT (x1 x2 x3 x4:Int):prog.built 26 [(0,.int .i64 x1),(1,.int .i64 x2),(2,.int .i64 x3),(3,.int .i64 x4)]=some (U8 ⟨x1,x2,x3,x4,I7.name,[]⟩ I4).toArray:=by kernel_rfl
theorem PQ:prog.built 26 []=some (U8 I7 I4).toArray:=by kernel_rfl
theorem mH (F:List Nat) (b:List UInt8) (v:Value) (w:World) (h:G7 w F v b) (hb:b.length≤1000000):
 Calls prog 31 #[v] w fun e w'=>∃ ev G,e= .returned (.tuple #[.agg (U8 (JA b).1 ev).toArray,.int .i64 (JA b).2])∧dH w' G (JA b).1 ev∧I9 w w' G∧U1 [] w w':=by
 obtain⟨zn,hzn⟩:∃ zn,I7.name=zn:=⟨_,rfl⟩
 have hznl:zn.length=32:=by rw[←hzn];exact j6
 obtain⟨Z,hZ⟩:∃ Z,U8 I7 I4=Z:=⟨_,rfl⟩
 have zv:=nI
 have zl:Z.length=37:=by rw[←hZ];exact O8 j6
 have zo:∀ u∈Z,u.oneCell'=true:=by rw[←hZ];exact fB _ rfl
 have b0:=PQ
 have bn:=tT
 rw[hZ] at zv b0
 rw[hzn] at bn
 obtain⟨r0,hr0⟩:∃ r,RS.mk b 0=r:=⟨_,rfl⟩
 obtain⟨x1,hx1⟩:∃ x,(r0.num 1).1=x:=⟨_,rfl⟩
 obtain⟨r1,hr1⟩:∃ x,(r0.num 1).2=x:=⟨_,rfl⟩
 have S1:V5 ((r1.l≠[]→r0.l≠[])∧r1.l.length≤r0.l.length):=U0 (by rw[←hr1];exact⟨nA,U9 _ _⟩)
 obtain⟨x2,hx2⟩:∃ x,(r1.count 9007199254740991).1=x:=⟨_,rfl⟩
 obtain⟨r2,hr2⟩:∃ x,(r1.count 9007199254740991).2=x:=⟨_,rfl⟩
 have S2:V5 ((r2.l≠[]→r1.l≠[])∧r2.l.length≤r1.l.length):=U0 (by rw[←hr2];exact⟨W9,RS.count_short _ _⟩)
 obtain⟨x3,hx3⟩:∃ x,(r2.num 1).1=x:=⟨_,rfl⟩
 obtain⟨r3,hr3⟩:∃ x,(r2.num 1).2=x:=⟨_,rfl⟩
 have S3:V5 ((r3.l≠[]→r2.l≠[])∧r3.l.length≤r2.l.length):=U0 (by rw[←hr3];exact⟨nA,U9 _ _⟩)
 obtain⟨x4,hx4⟩:∃ x,(r3.count 9007199254740991).1=x:=⟨_,rfl⟩
 obtain⟨r4,hr4⟩:∃ x,(r3.count 9007199254740991).2=x:=⟨_,rfl⟩
 have S4:V5 ((r4.l≠[]→r3.l≠[])∧r4.l.length≤r3.l.length):=U0 (by rw[←hr4];exact⟨W9,RS.count_short _ _⟩)
 obtain⟨x5,hx5⟩:∃ x,(r4.raw 32).1=x:=⟨_,rfl⟩
 obtain⟨r5,hr5⟩:∃ x,(r4.raw 32).2=x:=⟨_,rfl⟩
 have S5:V5 ((r5.l≠[]→r4.l≠[])∧r5.l.length≤r4.l.length):=U0 (by rw[←hr5];exact⟨qF,aG _ _⟩)
 obtain⟨x6,hx6⟩:∃ x,(r5.text 1024).1=x:=⟨_,rfl⟩
 obtain⟨r6,hr6⟩:∃ x,(r5.text 1024).2=x:=⟨_,rfl⟩
 have S6:V5 ((r6.l≠[]→r5.l≠[])∧r6.l.length≤r5.l.length):=U0 (by rw[←hr6];exact⟨cB,zC _ _⟩)
 have e0:PR ⟨b,0⟩=r0:=by unfold PR;exact hr0
 have e1:QR ⟨b,0⟩=r1:=by unfold QR;rw[e0];exact hr1
 have e2:TR ⟨b,0⟩=r2:=by unfold TR;rw[e1];exact hr2
 have e3:UR ⟨b,0⟩=r3:=by unfold UR;rw[e2];exact hr3
 have e4:VR ⟨b,0⟩=r4:=by unfold VR;rw[e3];exact hr4
 have e5:XR ⟨b,0⟩=r5:=by unfold XR;rw[e4];exact hr5
 have e6:YR ⟨b,0⟩=r6:=by unfold YR;rw[e5];exact hr6
 have eq:IP ⟨b,0⟩=⟨x1,x2,x3,x4,X8 x5,x6⟩:=by unfold IP;rw[e0,e1,e2,e3,e4,e5,hx1,hx2,hx3,hx4,hx5,hx6]
 have HE:=U0 (show JA b=(eL (zA r6.end_ (RQ.ok ⟨x1,x2,x3,x4,X8 x5,x6⟩)) ⟨x1,x2,x3,x4,X8 x5,x6⟩ I7,zA r6.end_ (RQ.ok ⟨x1,x2,x3,x4,X8 x5,x6⟩)) by unfold JA;rw[eq,e6])
 have hnx:(X8 x5).length=32:=by rw[←hx5];exact aD (pE _)
 have hrl:r0.l.length≤1000000:=by rw[←hr0];exact hb
 have X1:=U0 (U2 hx1 hr1)
 have X2:=U0 (U2 hx2 hr2)
 have X3:=U0 (U2 hx3 hr3)
 have X4:=U0 (U2 hx4 hr4)
 have X5:=U0 (U2 hx5 hr5)
 have X6:=U0 (U2 hx6 hr6)
 have HZ:=U0 (U2 zv (U2 zl (U2 zo (U2 hZ (U2 b0 (U2 bn (U2 (all_oneCell_toArray zo) (show (prog.info? 26).map (·.size)=some Z.toArray.size by rw[U4,zl];exact D9))))))))
 clear e6 e5 e4 e3 e2 e1 e0 hx1 hr1 hx2 hr2 hx3 hr3 hx4 hr4 hx5 hr5 hx6 hr6 eq zv zl zo b0 bn
 have kA:=(U1.refl [] w).alloc (.cells Z.toArray 26)
 have rA:=l5.new w 26 Z.toArray
 obtain⟨wA,hwA⟩:∃ wA,w.alloc (.cells Z.toArray 26)=wA:=⟨_,rfl⟩
 rw[hwA] at kA rA
 have hA:=h.keep kA (by simp)
 obtain⟨A,c,g0,rfl,h2,h3,h4,h5⟩:=hA
 have HA:=U0 (U2 hwA (U2 kA (U2 rA (U2 h4 (U2 hb (U2 hr0 (U2 hrl hZ)))))))
 have HN:=U0 (U2 hnx hznl)
 clear kA rA hwA h2 h3 h4 h5 h hb hr0 hrl hzn hZ hnx hznl
 go_enter func31,ntmps31
 go_upto_region 2 with (first
  |(with_reducible refine F5 _ _ rfl 26 rfl _ HZ.o.1 HA.o.1 ?_)
  |(go_at_call 98;refine (bH A g0 c b.length b _ rfl HA.o.2.2.2.1 (by have:=HA.o.2.2.2.2.1;omega)).mono ?_;rintro e w1 ⟨p,g,rfl,d1,d2,d3,d4⟩;rw[HA.o.2.2.2.2.2.1] at d1;have P0:V5 (YN w w1 p g r0 26 Z):=U0 ⟨d1,by have:=HA.o.2.2.1.lt;omega,fun hne=>by have:=d3 (by rw[show b=r0.l by rw[←HA.o.2.2.2.2.2.1]];exact hne);have:=HA.o.2.2.1.lt;omega,HA.o.2.2.2.2.2.2.1,d4.row HA.o.2.2.1 (by simp),HA.o.2.1.then d4 (by simp)⟩;clear d1 d2 d3 d4))
 go_upto_region 3 with (first
  |(go_at_call 106;with_reducible refine Calls.mono (jC p g r0 1 _ P0.o.rd (by have:=P0.o.len;omega)) ?_;intro e u1 hq;unfold ZB at hq;rw[X1.o.1,X1.o.2] at hq;obtain⟨rfl,hr,hk⟩:=hq;have P1:=U0 (P0.o.read hr hk S1.o.1 S1.o.2);clear hr hk)
  |(go_at_call 107;with_reducible refine Calls.mono (vB p g r1 9007199254740991 _ P1.o.rd (by have:=P1.o.len;omega)) ?_;intro e u2 hq;unfold jB at hq;rw[X2.o.1,X2.o.2] at hq;obtain⟨rfl,hr,hk⟩:=hq;have P2:=U0 (P1.o.read hr hk S2.o.1 S2.o.2);clear hr hk)
  |(go_at_call 106;with_reducible refine Calls.mono (jC p g r2 1 _ P2.o.rd (by have:=P2.o.len;omega)) ?_;intro e u3 hq;unfold ZB at hq;rw[X3.o.1,X3.o.2] at hq;obtain⟨rfl,hr,hk⟩:=hq;have P3:=U0 (P2.o.read hr hk S3.o.1 S3.o.2);clear hr hk)
  |(go_at_call 107;with_reducible refine Calls.mono (vB p g r3 9007199254740991 _ P3.o.rd (by have:=P3.o.len;omega)) ?_;intro e u4 hq;unfold jB at hq;rw[X4.o.1,X4.o.2] at hq;obtain⟨rfl,hr,hk⟩:=hq;have P4:=U0 (P3.o.read hr hk S4.o.1 S4.o.2);clear hr hk;obtain⟨tb,htb⟩:∃ b,u4.heap.size=b:=⟨_,rfl⟩;obtain⟨uB,huB⟩:∃ W,u4.alloc (.cells Z.toArray 26)=W:=⟨_,rfl⟩;have PB:V5 (YD w uB p g tb r4 26 Z Z):=U0 (by rw[←huB,←htb];exact P4.o.box Z);have HB:=U0 (U2 huB htb);clear huB htb;(try dsimp only);rename_i hK;refine hK _ _ ?_;clear hK;refine LA _ rfl 26 _ rfl (U8 ⟨x1,x2,x3,x4,zn,[]⟩ I4).toArray (by simp only[List.map_toArray,List.map_cons,List.map_nil];go_simp;exact HZ.o.2.2.2.2.2.1 x1 x2 x3 x4) ?_)
  |(with_reducible refine F5 _ _ rfl 26 rfl _ HZ.o.1 HB.o.1 ?_;rw[HB.o.2])
  |(refine wpList_store_mid rfl 26 (.tmp 5) (.tmp 16) rfl tb 0 (U8 ⟨x1,x2,x3,x4,zn,[]⟩ I4).toArray rfl rfl (PB.o.row.there (by rw[U4,U4,O8 HN.o.2,HZ.o.2.1];omega)) (by rw[U4,O8 HN.o.2];exact D9) (all_oneCell_toArray (fB _ rfl)) ?_))
 have PC:V5 (YD w (uB.setCells tb 0 (U8 ⟨x1,x2,x3,x4,zn,[]⟩ I4)) p g tb r4 26 (U8 ⟨x1,x2,x3,x4,zn,[]⟩ I4) Z):=U0 (PB.o.setL 0 (U8 ⟨x1,x2,x3,x4,zn,[]⟩ I4) (F7 (by rw[U4,O8 HN.o.2,HZ.o.2.1])))
 obtain⟨uC,huC⟩:∃ W,uB.setCells tb 0 (U8 ⟨x1,x2,x3,x4,zn,[]⟩ I4)=W:=⟨_,rfl⟩
 rw[huC] at PC
 rw[huC]
 simp only[Act.put]
 clear huC PB HB P0 P1 P2 P3 P4 S1 S2 S3 S4 X1 X2 X3 X4
 have hjN:(prog.info? 23).map (·.size)=some (U7 (X8 x5)).toArray.size:=by rw[U4,A8,HN.o.1];exact xB
 have HT:=U0 (U2 hjN (all_oneCell_toArray (jD (X8 x5))))
 clear hjN
 go_upto_region 4 with (first
  |(go_at_call 108;refine (aL p g r4 _ PC.o.rd (by have:=PC.o.len;omega)).mono ?_;intro e u5 hq;rw[X5.o.1,X5.o.2] at hq;obtain⟨rfl,hr,hk⟩:=hq;have Q:=U0 (PC.o.read hr hk S5.o.1 S5.o.2);clear hr hk)
  |(refine wpList_store_mid rfl 23 (.tmp 19) (.tmp 18) rfl tb 4 (U7 (X8 x5)).toArray rfl rfl (Q.o.row.there (by rw[U4,A8,HN.o.1,U4,O8 HN.o.2];omega)) HT.o.1 HT.o.2 ?_))
 have P5:=U0 (Q.o.setL 4 (U7 (X8 x5)) (L':=(U8 ⟨x1,x2,x3,x4,X8 x5,[]⟩ I4)) (by rw[iC,iC];exact FE [.int .i64 x1,.int .i64 x2,.int .i64 x3,.int .i64 x4] _ _ _ (by rw[A8,A8,HN.o.1,HN.o.2])))
 obtain⟨v5,hv⟩:∃ v,u5.setCells tb 4 (U7 (X8 x5))=v:=⟨_,rfl⟩
 rw[hv] at P5
 rw[hv]
 simp only[Act.put]
 clear hv Q S5 PC
 have hnx2:(RQ.mk x1 x2 x3 x4 (X8 x5) []).name.length=32:=HN.o.1
 go_upto_region 5 with (first
  |(go_at_call 109;refine (uE p g r5 1024 _ P5.o.rd (by have:=P5.o.len;omega)).mono ?_;intro e u6 hq;unfold GD at hq;rw[X6.o.1,X6.o.2] at hq;obtain⟨ue,rfl,hfr,hr,hk⟩:=hq;obtain⟨A6,c6,G6,rfl,hb6,hn6⟩:=hfr.gives;have Q:=U0 (P5.o.read hr hk S6.o.1 S6.o.2);have B6:=U0 (U2 hb6 hn6);have y:u6.cell? ⟨tb,36,none⟩=some I4:=(Q.o.row.cell 36).trans (WC hnx2);have y2:=Q.o.row.free 36;clear hr hk hfr hb6 hn6))
 have P6:=U0 (Q.o.set 36 (.slice A6 x6.length c6) (L':=(U8 ⟨x1,x2,x3,x4,X8 x5,x6⟩ (.slice A6 x6.length c6))) (by rw[iC,iC];exact (mD (a:=[.int .i64 x1,.int .i64 x2,.int .i64 x3,.int .i64 x4]++U7 (X8 x5)) (x:=I4) (b:=[]) (k:=36) (by simp) (by simp[A8,HN.o.1]) _).trans (by simp)))
 have B7:V5 (G7 (u6.setCell ⟨tb,36,none⟩ (.slice A6 x6.length c6)) G6 (.slice A6 x6.length c6) x6∧∀ y∈G6,tb<y∧y<u6.heap.size):=U0 (by
  have hlt:∀ y∈G6,tb<y∧y<u6.heap.size:=fun y hy=>⟨by have:=(B6.o.2 y hy).1;have:=P5.o.row.lt;omega,(B6.o.2 y hy).2⟩
  exact⟨B6.o.1.keep (xC u6 tb 36 _) (fun y hy=>by have:=(hlt y hy).1;simp;omega),hlt⟩)
 have hsz:(u6.setCell ⟨tb,36,none⟩ (.slice A6 x6.length c6)).heap.size=u6.heap.size:=World.size_setCell _ _ _
 obtain⟨v6,hv⟩:∃ v,u6.setCell ⟨tb,36,none⟩ (.slice A6 x6.length c6)=v:=⟨_,rfl⟩
 rw[hv] at P6 B7 hsz ⊢
 have HSZ:=U0 hsz
 clear hv y y2 Q P5 S6 hsz B6
 have hq:V5 (dH v6 G6 ⟨x1,x2,x3,x4,X8 x5,x6⟩ (.slice A6 x6.length c6)):=U0 ⟨HN.o.1,B7.o.1⟩
 have HY:V5 ((U8 ⟨x1,x2,x3,x4,X8 x5,x6⟩ (.slice A6 x6.length c6)).length=37∧(∀ u∈U8 ⟨x1,x2,x3,x4,X8 x5,x6⟩ (.slice A6 x6.length c6),u.oneCell'=true)∧(prog.info? 26).map (·.size)=some (U8 ⟨x1,x2,x3,x4,X8 x5,x6⟩ (.slice A6 x6.length c6)).length):=U0 ⟨O8 HN.o.1,fB _ rfl,by rw[O8 HN.o.1];exact D9⟩
 obtain⟨L6,hL6⟩:∃ l,U8 ⟨x1,x2,x3,x4,X8 x5,x6⟩ (.slice A6 x6.length c6)=l:=⟨_,rfl⟩
 obtain⟨q,hqq⟩:∃ q,(RQ.mk x1 x2 x3 x4 (X8 x5) x6)=q:=⟨_,rfl⟩
 have HQ:=U0 (U2 hL6 hqq)
 rw[hL6] at P6 HY
 rw[hqq] at hq HE
 have hLq:U8 q (.slice A6 x6.length c6)=L6:=by rw[←hqq];exact hL6
 have HCk:V5 (Calls prog 80 #[.agg L6.toArray] v6 fun e w'=>e= .returned (.int .i64 (O9 q.ok))∧U1 [] v6 w'):=U0 (by rw[←hLq];exact XG G6 q _ _ hq.o)
 have HLq:=U0 hLq
 clear hLq
 have HJ:(prog.info? 26).map (·.size)=some L6.toArray.size:=by rw[U4];exact HY.o.2.2
 have HO:=U0 (U2 HJ (all_oneCell_toArray HY.o.2.1))
 clear HJ hL6
 have bad:∀ (c:Int) (wx:World),U1 [] v6 wx→c≠0→zA r6.end_ q.ok=c→∃ ev G,Ending.returned (.tuple #[.agg Z.toArray,.int .i64 c])= .returned (.tuple #[.agg (U8 (JA b).1 ev).toArray,.int .i64 (JA b).2])∧dH (wx.setCells w.heap.size 0 Z) G (JA b).1 ev∧I9 w (wx.setCells w.heap.size 0 Z) G∧U1 [] w (wx.setCells w.heap.size 0 Z):=by
  intro c wx hk hc he
  rw[HE.o,he]
  unfold eL
  rw[if_neg hc]
  refine⟨I4,[],by rw[HA.o.2.2.2.2.2.2.2],⟨j6,G7.nil _ _⟩,by simp[I9],(P6.o.kp.then hk (by simp)).setL (.inr (Nat.le_refl _))⟩
 have rsZ:∀ wx,l5 wx w.heap.size 26 Z.toArray→l5 (wx.setCells w.heap.size 0 Z) w.heap.size 26 Z.toArray:=fun wx hh=>by
  have:=hh.setL (vs:=Z) (o:=0)
  rw[F7 (by rw[U4])] at this
  exact this
 have rsL:∀ wx,l5 wx w.heap.size 26 Z.toArray→l5 (wx.setCells w.heap.size 0 L6) w.heap.size 26 L6.toArray:=fun wx hh=>by
  have:=hh.setL (vs:=L6) (o:=0)
  rw[F7 (by rw[U4,HY.o.1,HZ.o.2.1])] at this
  exact this
 have HR:=U0 (U2 rsZ (U2 rsL bad))
 clear rsZ rsL bad
 have hb0:∀ w,(Instr.build 26 #[]).run prog w= .ok (.agg Z.toArray) w:=fun w=>run_build w 26 #[] _ HZ.o.2.2.2.2.1
 by_cases he:r6.e=0
 ·have he':(r6.e !=0)=false:=by simp[he]
  by_cases hl:r6.end_=0
  ·have hl':(r6.end_ !=0)=false:=by simp[hl]
   cases hok:q.ok
   ·have HP:=U0 (show zA r6.end_ q.ok=4 by rw[hl,hok];rfl)
    have HK:=U0 hok
    clear he hl hok
    go_wp2_with (first
     |(go_at_call 110;refine (p8 p g r6 _ P6.o.rd).mono ?_;rintro e wy ⟨rfl,rfl⟩)
     |(go_at_call 101;refine (SC p g r6 _ P6.o.rd).mono ?_;rintro e wy ⟨rfl,rfl⟩)
     |(refine j5 26 (.tmp 5) rfl tb 0 rfl _ _ P6.o.row.rangeAll underlying26 rfl HY.o.2.2 ?_ ?_;·rfl)
     |(go_at_call 80;refine HCk.o.mono ?_;rintro e w9 ⟨rfl,k9⟩;rw[HK.o];have P9:=U0 (P6.o.over k9);have K9:=U0 k9;clear k9)
     |(refine wpList_store_mid rfl 26 (.tmp 2) (.tmp 37) rfl w.heap.size 0 Z.toArray rfl (by rw[←HA.o.2.2.2.2.2.2.2];rfl) (P9.o.res.there (by omega)) HZ.o.2.2.2.2.2.2.2 HZ.o.2.2.2.2.2.2.1 ?_))
    refine bodyPost_ret (U5 rfl _ _ w.heap.size 26 _ (0,0) _ rfl (HR.o.1 _ P9.o.res) underlying26 rfl HZ.o.2.2.2.2.2.2.2) rfl ?_
    exact HR.o.2.2 _ _ K9.o (by decide) HP.o
   ·have HP:=U0 (show zA r6.end_ q.ok=0 by rw[hl,hok];rfl)
    have HK:=U0 hok
    clear he hl hok
    go_wp2_with (first
     |(go_at_call 110;refine (p8 p g r6 _ P6.o.rd).mono ?_;rintro e wy ⟨rfl,rfl⟩)
     |(go_at_call 101;refine (SC p g r6 _ P6.o.rd).mono ?_;rintro e wy ⟨rfl,rfl⟩)
     |(refine j5 26 (.tmp 5) rfl tb 0 rfl _ _ P6.o.row.rangeAll underlying26 rfl HY.o.2.2 ?_ ?_;·rfl)
     |(go_at_call 80;refine HCk.o.mono ?_;rintro e w9 ⟨rfl,k9⟩;rw[HK.o];have P9:=U0 (P6.o.over k9);have K9:=U0 k9;clear k9)
     |(refine wpList_load_mid rfl 26 (.tmp 5) rfl tb 0 rfl _ _ P9.o.row.rangeAll underlying26 rfl HY.o.2.2 ?_)
     |(refine wpList_store_mid rfl 26 (.tmp 2) (.tmp 38) rfl w.heap.size 0 L6.toArray rfl rfl (P9.o.res.there (by rw[U4,U4,HY.o.1,HZ.o.2.1];omega)) HO.o.1 HO.o.2 ?_))
    refine bodyPost_ret (U5 rfl _ _ w.heap.size 26 _ (0,0) _ rfl (HR.o.2.1 _ P9.o.res) underlying26 rfl HO.o.1) rfl ?_
    have ks:=(U1.refl [w.heap.size] w9).setL (vs:=L6) (g:=w.heap.size) (o:=0) (by simp)
    have hlo:=P9.o.lo
    have hhi:=P9.o.hi
    rw[HE.o,HP.o]
    refine⟨.slice A6 x6.length c6,G6,by rw[←HLq.o];rfl,⟨hq.o.1,((hq.o.2.keep K9.o (by simp)).keep ks (fun y hy=>by have:=(B7.o.2 y hy).1;simp;omega))⟩,fun y hy=>⟨by have:=(B7.o.2 y hy).1;omega,?_⟩,P9.o.kp.setL (.inr (Nat.le_refl _))⟩
    have h1:=(B7.o.2 y hy).2;have h2:=K9.o.size;have h3:=ks.size;have h4:=HSZ.o;omega
  ·have HP:=U0 (show zA r6.end_ q.ok=4 by unfold zA;rw[if_neg hl];unfold RS.end_ at hl ⊢;rw[if_pos he] at hl ⊢;split at hl<;>simp_all)
   have hl':(r6.end_ !=0)=true:=by simp[hl]
   clear he hl
   go_wp2_with (first
    |(go_at_call 110;refine (p8 p g r6 _ P6.o.rd).mono ?_;rintro e wy ⟨rfl,rfl⟩)
    |(go_at_call 101;refine (SC p g r6 _ P6.o.rd).mono ?_;rintro e wy ⟨rfl,rfl⟩)
    |(refine wpList_store_mid rfl 26 (.tmp 2) (.tmp 37) rfl w.heap.size 0 Z.toArray rfl (by rw[←HA.o.2.2.2.2.2.2.2];rfl) (P6.o.res.there (by omega)) HZ.o.2.2.2.2.2.2.2 HZ.o.2.2.2.2.2.2.1 ?_))
   refine bodyPost_ret (U5 rfl _ _ w.heap.size 26 _ (0,0) _ rfl (HR.o.1 _ P6.o.res) underlying26 rfl HZ.o.2.2.2.2.2.2.2) rfl ?_
   exact HR.o.2.2 _ _ (U1.refl _ _) (by decide) HP.o
 ·have HP:=U0 (show zA r6.end_ q.ok=r6.e by unfold zA RS.end_;rw[if_neg he,if_neg he])
  have HC:=U0 he
  have he':(r6.e !=0)=true:=by simp[he]
  clear he
  go_wp2_with (first
   |(go_at_call 110;refine (p8 p g r6 _ P6.o.rd).mono ?_;rintro e wy ⟨rfl,rfl⟩)
   |(refine wpList_store_mid rfl 26 (.tmp 2) (.tmp 26) rfl w.heap.size 0 Z.toArray rfl (by rw[←HA.o.2.2.2.2.2.2.2];rfl) (P6.o.res.there (by omega)) HZ.o.2.2.2.2.2.2.2 HZ.o.2.2.2.2.2.2.1 ?_))
  refine bodyPost_ret (U5 rfl _ _ w.heap.size 26 _ (0,0) _ rfl (HR.o.1 _ P6.o.res) underlying26 rfl HZ.o.2.2.2.2.2.2.2) rfl ?_
  exact HR.o.2.2 _ _ (U1.refl _ _) HC.o HP.o
theorem kT (x1 x2 x3 x4 x5:Int):prog.built 28 [(0,.int .i64 x1),(1,.int .i64 x2),(2,.int .i64 x3),(3,.int .i64 x4),(4,.int .i64 x5)]=some (x9 ⟨x1,x2,x3,x4,x5,l8.name,[]⟩ I4).toArray:=by kernel_rfl
theorem NQ:prog.built 28 []=some (x9 l8 I4).toArray:=by kernel_rfl
theorem lH (F:List Nat) (b:List UInt8) (v:Value) (w:World) (h:G7 w F v b) (hb:b.length≤1000000):
 Calls prog 33 #[v] w fun e w'=>∃ ev G,e= .returned (.tuple #[.agg (x9 (IA b).1 ev).toArray,.int .i64 (IA b).2])∧BH w' G (IA b).1 ev∧I9 w w' G∧U1 [] w w':=by
 obtain⟨zn,hzn⟩:∃ zn,l8.name=zn:=⟨_,rfl⟩
 have hznl:zn.length=32:=by rw[←hzn];exact F6
 obtain⟨Z,hZ⟩:∃ Z,x9 l8 I4=Z:=⟨_,rfl⟩
 have zv:=vK
 have zl:Z.length=38:=by rw[←hZ];exact y9 F6
 have zo:∀ u∈Z,u.oneCell'=true:=by rw[←hZ];exact IB _ rfl
 have b0:=NQ
 have bn:=kT
 rw[hZ] at zv b0
 rw[hzn] at bn
 obtain⟨r0,hr0⟩:∃ r,RS.mk b 0=r:=⟨_,rfl⟩
 obtain⟨x1,hx1⟩:∃ x,(r0.num 1).1=x:=⟨_,rfl⟩
 obtain⟨r1,hr1⟩:∃ x,(r0.num 1).2=x:=⟨_,rfl⟩
 have S1:V5 ((r1.l≠[]→r0.l≠[])∧r1.l.length≤r0.l.length):=U0 (by rw[←hr1];exact⟨nA,U9 _ _⟩)
 obtain⟨x2,hx2⟩:∃ x,(r1.count 9007199254740991).1=x:=⟨_,rfl⟩
 obtain⟨r2,hr2⟩:∃ x,(r1.count 9007199254740991).2=x:=⟨_,rfl⟩
 have S2:V5 ((r2.l≠[]→r1.l≠[])∧r2.l.length≤r1.l.length):=U0 (by rw[←hr2];exact⟨W9,RS.count_short _ _⟩)
 obtain⟨x3,hx3⟩:∃ x,(r2.num 1).1=x:=⟨_,rfl⟩
 obtain⟨r3,hr3⟩:∃ x,(r2.num 1).2=x:=⟨_,rfl⟩
 have S3:V5 ((r3.l≠[]→r2.l≠[])∧r3.l.length≤r2.l.length):=U0 (by rw[←hr3];exact⟨nA,U9 _ _⟩)
 obtain⟨x4,hx4⟩:∃ x,(r3.count 9007199254740991).1=x:=⟨_,rfl⟩
 obtain⟨r4,hr4⟩:∃ x,(r3.count 9007199254740991).2=x:=⟨_,rfl⟩
 have S4:V5 ((r4.l≠[]→r3.l≠[])∧r4.l.length≤r3.l.length):=U0 (by rw[←hr4];exact⟨W9,RS.count_short _ _⟩)
 obtain⟨x5,hx5⟩:∃ x,(r4.num 1).1=x:=⟨_,rfl⟩
 obtain⟨r5,hr5⟩:∃ x,(r4.num 1).2=x:=⟨_,rfl⟩
 have S5:V5 ((r5.l≠[]→r4.l≠[])∧r5.l.length≤r4.l.length):=U0 (by rw[←hr5];exact⟨nA,U9 _ _⟩)
 obtain⟨x6,hx6⟩:∃ x,(r5.raw 32).1=x:=⟨_,rfl⟩
 obtain⟨r6,hr6⟩:∃ x,(r5.raw 32).2=x:=⟨_,rfl⟩
 have S6:V5 ((r6.l≠[]→r5.l≠[])∧r6.l.length≤r5.l.length):=U0 (by rw[←hr6];exact⟨qF,aG _ _⟩)
 obtain⟨x7,hx7⟩:∃ x,(r6.text 1024).1=x:=⟨_,rfl⟩
 obtain⟨r7,hr7⟩:∃ x,(r6.text 1024).2=x:=⟨_,rfl⟩
 have S7:V5 ((r7.l≠[]→r6.l≠[])∧r7.l.length≤r6.l.length):=U0 (by rw[←hr7];exact⟨cB,zC _ _⟩)
 have e0:yQ ⟨b,0⟩=r0:=by unfold yQ;exact hr0
 have e1:zQ ⟨b,0⟩=r1:=by unfold zQ;rw[e0];exact hr1
 have e2:AQ ⟨b,0⟩=r2:=by unfold AQ;rw[e1];exact hr2
 have e3:BQ ⟨b,0⟩=r3:=by unfold BQ;rw[e2];exact hr3
 have e4:CQ ⟨b,0⟩=r4:=by unfold CQ;rw[e3];exact hr4
 have e5:FQ ⟨b,0⟩=r5:=by unfold FQ;rw[e4];exact hr5
 have e6:GQ ⟨b,0⟩=r6:=by unfold GQ;rw[e5];exact hr6
 have e7:IQ ⟨b,0⟩=r7:=by unfold IQ;rw[e6];exact hr7
 have eq:yO ⟨b,0⟩=⟨x1,x2,x3,x4,x5,X8 x6,x7⟩:=by unfold yO;rw[e0,e1,e2,e3,e4,e5,e6,hx1,hx2,hx3,hx4,hx5,hx6,hx7]
 have HE:=U0 (show IA b=(eL (zA r7.end_ (AN.ok ⟨x1,x2,x3,x4,x5,X8 x6,x7⟩)) ⟨x1,x2,x3,x4,x5,X8 x6,x7⟩ l8,zA r7.end_ (AN.ok ⟨x1,x2,x3,x4,x5,X8 x6,x7⟩)) by unfold IA;rw[eq,e7])
 have hnx:(X8 x6).length=32:=by rw[←hx6];exact aD (pE _)
 have hrl:r0.l.length≤1000000:=by rw[←hr0];exact hb
 have X1:=U0 (U2 hx1 hr1)
 have X2:=U0 (U2 hx2 hr2)
 have X3:=U0 (U2 hx3 hr3)
 have X4:=U0 (U2 hx4 hr4)
 have X5:=U0 (U2 hx5 hr5)
 have X6:=U0 (U2 hx6 hr6)
 have X7:=U0 (U2 hx7 hr7)
 have HZ:=U0 (U2 zv (U2 zl (U2 zo (U2 hZ (U2 b0 (U2 bn (U2 (all_oneCell_toArray zo) (show (prog.info? 28).map (·.size)=some Z.toArray.size by rw[U4,zl];exact Q9))))))))
 clear e7 e6 e5 e4 e3 e2 e1 e0 hx1 hr1 hx2 hr2 hx3 hr3 hx4 hr4 hx5 hr5 hx6 hr6 hx7 hr7 eq zv zl zo b0 bn
 have kA:=(U1.refl [] w).alloc (.cells Z.toArray 28)
 have rA:=l5.new w 28 Z.toArray
 obtain⟨wA,hwA⟩:∃ wA,w.alloc (.cells Z.toArray 28)=wA:=⟨_,rfl⟩
 rw[hwA] at kA rA
 have hA:=h.keep kA (by simp)
 obtain⟨A,c,g0,rfl,h2,h3,h4,h5⟩:=hA
 have HA:=U0 (U2 hwA (U2 kA (U2 rA (U2 h4 (U2 hb (U2 hr0 (U2 hrl hZ)))))))
 have HN:=U0 (U2 hnx hznl)
 clear kA rA hwA h2 h3 h4 h5 h hb hr0 hrl hzn hZ hnx hznl
 go_enter func33,ntmps33
 go_upto_region 2 with (first
  |(with_reducible refine F5 _ _ rfl 28 rfl _ HZ.o.1 HA.o.1 ?_)
  |(go_at_call 98;refine (bH A g0 c b.length b _ rfl HA.o.2.2.2.1 (by have:=HA.o.2.2.2.2.1;omega)).mono ?_;rintro e w1 ⟨p,g,rfl,d1,d2,d3,d4⟩;rw[HA.o.2.2.2.2.2.1] at d1;have P0:V5 (YN w w1 p g r0 28 Z):=U0 ⟨d1,by have:=HA.o.2.2.1.lt;omega,fun hne=>by have:=d3 (by rw[show b=r0.l by rw[←HA.o.2.2.2.2.2.1]];exact hne);have:=HA.o.2.2.1.lt;omega,HA.o.2.2.2.2.2.2.1,d4.row HA.o.2.2.1 (by simp),HA.o.2.1.then d4 (by simp)⟩;clear d1 d2 d3 d4))
 go_upto_region 3 with (first
  |(go_at_call 106;with_reducible refine Calls.mono (jC p g r0 1 _ P0.o.rd (by have:=P0.o.len;omega)) ?_;intro e u1 hq;unfold ZB at hq;rw[X1.o.1,X1.o.2] at hq;obtain⟨rfl,hr,hk⟩:=hq;have P1:=U0 (P0.o.read hr hk S1.o.1 S1.o.2);clear hr hk)
  |(go_at_call 107;with_reducible refine Calls.mono (vB p g r1 9007199254740991 _ P1.o.rd (by have:=P1.o.len;omega)) ?_;intro e u2 hq;unfold jB at hq;rw[X2.o.1,X2.o.2] at hq;obtain⟨rfl,hr,hk⟩:=hq;have P2:=U0 (P1.o.read hr hk S2.o.1 S2.o.2);clear hr hk)
  |(go_at_call 106;with_reducible refine Calls.mono (jC p g r2 1 _ P2.o.rd (by have:=P2.o.len;omega)) ?_;intro e u3 hq;unfold ZB at hq;rw[X3.o.1,X3.o.2] at hq;obtain⟨rfl,hr,hk⟩:=hq;have P3:=U0 (P2.o.read hr hk S3.o.1 S3.o.2);clear hr hk)
  |(go_at_call 107;with_reducible refine Calls.mono (vB p g r3 9007199254740991 _ P3.o.rd (by have:=P3.o.len;omega)) ?_;intro e u4 hq;unfold jB at hq;rw[X4.o.1,X4.o.2] at hq;obtain⟨rfl,hr,hk⟩:=hq;have P4:=U0 (P3.o.read hr hk S4.o.1 S4.o.2);clear hr hk)
  |(go_at_call 106;with_reducible refine Calls.mono (jC p g r4 1 _ P4.o.rd (by have:=P4.o.len;omega)) ?_;intro e u5 hq;unfold ZB at hq;rw[X5.o.1,X5.o.2] at hq;obtain⟨rfl,hr,hk⟩:=hq;have P5:=U0 (P4.o.read hr hk S5.o.1 S5.o.2);clear hr hk;obtain⟨tb,htb⟩:∃ b,u5.heap.size=b:=⟨_,rfl⟩;obtain⟨uB,huB⟩:∃ W,u5.alloc (.cells Z.toArray 28)=W:=⟨_,rfl⟩;have PB:V5 (YD w uB p g tb r5 28 Z Z):=U0 (by rw[←huB,←htb];exact P5.o.box Z);have HB:=U0 (U2 huB htb);clear huB htb;(try dsimp only);rename_i hK;refine hK _ _ ?_;clear hK;refine LA _ rfl 28 _ rfl (x9 ⟨x1,x2,x3,x4,x5,zn,[]⟩ I4).toArray (by simp only[List.map_toArray,List.map_cons,List.map_nil];go_simp;exact HZ.o.2.2.2.2.2.1 x1 x2 x3 x4 x5) ?_)
  |(with_reducible refine F5 _ _ rfl 28 rfl _ HZ.o.1 HB.o.1 ?_;rw[HB.o.2])
  |(refine wpList_store_mid rfl 28 (.tmp 5) (.tmp 18) rfl tb 0 (x9 ⟨x1,x2,x3,x4,x5,zn,[]⟩ I4).toArray rfl rfl (PB.o.row.there (by rw[U4,U4,y9 HN.o.2,HZ.o.2.1];omega)) (by rw[U4,y9 HN.o.2];exact Q9) (all_oneCell_toArray (IB _ rfl)) ?_))
 have PC:V5 (YD w (uB.setCells tb 0 (x9 ⟨x1,x2,x3,x4,x5,zn,[]⟩ I4)) p g tb r5 28 (x9 ⟨x1,x2,x3,x4,x5,zn,[]⟩ I4) Z):=U0 (PB.o.setL 0 (x9 ⟨x1,x2,x3,x4,x5,zn,[]⟩ I4) (F7 (by rw[U4,y9 HN.o.2,HZ.o.2.1])))
 obtain⟨uC,huC⟩:∃ W,uB.setCells tb 0 (x9 ⟨x1,x2,x3,x4,x5,zn,[]⟩ I4)=W:=⟨_,rfl⟩
 rw[huC] at PC
 rw[huC]
 simp only[Act.put]
 clear huC PB HB P0 P1 P2 P3 P4 P5 S1 S2 S3 S4 S5 X1 X2 X3 X4 X5
 have hjN:(prog.info? 23).map (·.size)=some (U7 (X8 x6)).toArray.size:=by rw[U4,A8,HN.o.1];exact xB
 have HT:=U0 (U2 hjN (all_oneCell_toArray (jD (X8 x6))))
 clear hjN
 go_upto_region 4 with (first
  |(go_at_call 108;refine (aL p g r5 _ PC.o.rd (by have:=PC.o.len;omega)).mono ?_;intro e u6 hq;rw[X6.o.1,X6.o.2] at hq;obtain⟨rfl,hr,hk⟩:=hq;have Q:=U0 (PC.o.read hr hk S6.o.1 S6.o.2);clear hr hk)
  |(refine wpList_store_mid rfl 23 (.tmp 21) (.tmp 20) rfl tb 5 (U7 (X8 x6)).toArray rfl rfl (Q.o.row.there (by rw[U4,A8,HN.o.1,U4,y9 HN.o.2];omega)) HT.o.1 HT.o.2 ?_))
 have P5:=U0 (Q.o.setL 5 (U7 (X8 x6)) (L':=(x9 ⟨x1,x2,x3,x4,x5,X8 x6,[]⟩ I4)) (by rw[zD,zD];exact FE [.int .i64 x1,.int .i64 x2,.int .i64 x3,.int .i64 x4,.int .i64 x5] _ _ _ (by rw[A8,A8,HN.o.1,HN.o.2])))
 obtain⟨v5,hv⟩:∃ v,u6.setCells tb 5 (U7 (X8 x6))=v:=⟨_,rfl⟩
 rw[hv] at P5
 rw[hv]
 simp only[Act.put]
 clear hv Q S6 PC
 have hnx2:(AN.mk x1 x2 x3 x4 x5 (X8 x6) []).name.length=32:=HN.o.1
 go_upto_region 5 with (first
  |(go_at_call 109;refine (uE p g r6 1024 _ P5.o.rd (by have:=P5.o.len;omega)).mono ?_;intro e u7 hq;unfold GD at hq;rw[X7.o.1,X7.o.2] at hq;obtain⟨ue,rfl,hfr,hr,hk⟩:=hq;obtain⟨A6,c6,G6,rfl,hb6,hn6⟩:=hfr.gives;have Q:=U0 (P5.o.read hr hk S7.o.1 S7.o.2);have B6:=U0 (U2 hb6 hn6);have y:u7.cell? ⟨tb,37,none⟩=some I4:=(Q.o.row.cell 37).trans (VC hnx2);have y2:=Q.o.row.free 37;clear hr hk hfr hb6 hn6))
 have P6:=U0 (Q.o.set 37 (.slice A6 x7.length c6) (L':=(x9 ⟨x1,x2,x3,x4,x5,X8 x6,x7⟩ (.slice A6 x7.length c6))) (by rw[zD,zD];exact (mD (a:=[.int .i64 x1,.int .i64 x2,.int .i64 x3,.int .i64 x4,.int .i64 x5]++U7 (X8 x6)) (x:=I4) (b:=[]) (k:=37) (by simp) (by simp[A8,HN.o.1]) _).trans (by simp)))
 have B7:V5 (G7 (u7.setCell ⟨tb,37,none⟩ (.slice A6 x7.length c6)) G6 (.slice A6 x7.length c6) x7∧∀ y∈G6,tb<y∧y<u7.heap.size):=U0 (by
  have hlt:∀ y∈G6,tb<y∧y<u7.heap.size:=fun y hy=>⟨by have:=(B6.o.2 y hy).1;have:=P5.o.row.lt;omega,(B6.o.2 y hy).2⟩
  exact⟨B6.o.1.keep (xC u7 tb 37 _) (fun y hy=>by have:=(hlt y hy).1;simp;omega),hlt⟩)
 have hsz:(u7.setCell ⟨tb,37,none⟩ (.slice A6 x7.length c6)).heap.size=u7.heap.size:=World.size_setCell _ _ _
 obtain⟨v6,hv⟩:∃ v,u7.setCell ⟨tb,37,none⟩ (.slice A6 x7.length c6)=v:=⟨_,rfl⟩
 rw[hv] at P6 B7 hsz ⊢
 have HSZ:=U0 hsz
 clear hv y y2 Q P5 S7 hsz B6
 have hq:V5 (BH v6 G6 ⟨x1,x2,x3,x4,x5,X8 x6,x7⟩ (.slice A6 x7.length c6)):=U0 ⟨HN.o.1,B7.o.1⟩
 have HY:V5 ((x9 ⟨x1,x2,x3,x4,x5,X8 x6,x7⟩ (.slice A6 x7.length c6)).length=38∧(∀ u∈x9 ⟨x1,x2,x3,x4,x5,X8 x6,x7⟩ (.slice A6 x7.length c6),u.oneCell'=true)∧(prog.info? 28).map (·.size)=some (x9 ⟨x1,x2,x3,x4,x5,X8 x6,x7⟩ (.slice A6 x7.length c6)).length):=U0 ⟨y9 HN.o.1,IB _ rfl,by rw[y9 HN.o.1];exact Q9⟩
 obtain⟨L6,hL6⟩:∃ l,x9 ⟨x1,x2,x3,x4,x5,X8 x6,x7⟩ (.slice A6 x7.length c6)=l:=⟨_,rfl⟩
 obtain⟨q,hqq⟩:∃ q,(AN.mk x1 x2 x3 x4 x5 (X8 x6) x7)=q:=⟨_,rfl⟩
 have HQ:=U0 (U2 hL6 hqq)
 rw[hL6] at P6 HY
 rw[hqq] at hq HE
 have hLq:x9 q (.slice A6 x7.length c6)=L6:=by rw[←hqq];exact hL6
 have HCk:V5 (Calls prog 82 #[.agg L6.toArray] v6 fun e w'=>e= .returned (.int .i64 (O9 q.ok))∧U1 [] v6 w'):=U0 (by rw[←hLq];exact WG G6 q _ _ hq.o)
 have HLq:=U0 hLq
 clear hLq
 have HJ:(prog.info? 28).map (·.size)=some L6.toArray.size:=by rw[U4];exact HY.o.2.2
 have HO:=U0 (U2 HJ (all_oneCell_toArray HY.o.2.1))
 clear HJ hL6
 have bad:∀ (c:Int) (wx:World),U1 [] v6 wx→c≠0→zA r7.end_ q.ok=c→∃ ev G,Ending.returned (.tuple #[.agg Z.toArray,.int .i64 c])= .returned (.tuple #[.agg (x9 (IA b).1 ev).toArray,.int .i64 (IA b).2])∧BH (wx.setCells w.heap.size 0 Z) G (IA b).1 ev∧I9 w (wx.setCells w.heap.size 0 Z) G∧U1 [] w (wx.setCells w.heap.size 0 Z):=by
  intro c wx hk hc he
  rw[HE.o,he]
  unfold eL
  rw[if_neg hc]
  refine⟨I4,[],by rw[HA.o.2.2.2.2.2.2.2],⟨F6,G7.nil _ _⟩,by simp[I9],(P6.o.kp.then hk (by simp)).setL (.inr (Nat.le_refl _))⟩
 have rsZ:∀ wx,l5 wx w.heap.size 28 Z.toArray→l5 (wx.setCells w.heap.size 0 Z) w.heap.size 28 Z.toArray:=fun wx hh=>by
  have:=hh.setL (vs:=Z) (o:=0)
  rw[F7 (by rw[U4])] at this
  exact this
 have rsL:∀ wx,l5 wx w.heap.size 28 Z.toArray→l5 (wx.setCells w.heap.size 0 L6) w.heap.size 28 L6.toArray:=fun wx hh=>by
  have:=hh.setL (vs:=L6) (o:=0)
  rw[F7 (by rw[U4,HY.o.1,HZ.o.2.1])] at this
  exact this
 have HR:=U0 (U2 rsZ (U2 rsL bad))
 clear rsZ rsL bad
 have hb0:∀ w,(Instr.build 28 #[]).run prog w= .ok (.agg Z.toArray) w:=fun w=>run_build w 28 #[] _ HZ.o.2.2.2.2.1
 by_cases he:r7.e=0
 ·have he':(r7.e !=0)=false:=by simp[he]
  by_cases hl:r7.end_=0
  ·have hl':(r7.end_ !=0)=false:=by simp[hl]
   cases hok:q.ok
   ·have HP:=U0 (show zA r7.end_ q.ok=4 by rw[hl,hok];rfl)
    have HK:=U0 hok
    clear he hl hok
    go_wp2_with (first
     |(go_at_call 110;refine (p8 p g r7 _ P6.o.rd).mono ?_;rintro e wy ⟨rfl,rfl⟩)
     |(go_at_call 101;refine (SC p g r7 _ P6.o.rd).mono ?_;rintro e wy ⟨rfl,rfl⟩)
     |(refine j5 28 (.tmp 5) rfl tb 0 rfl _ _ P6.o.row.rangeAll underlying28 rfl HY.o.2.2 ?_ ?_;·rfl)
     |(go_at_call 82;refine HCk.o.mono ?_;rintro e w9 ⟨rfl,k9⟩;rw[HK.o];have P9:=U0 (P6.o.over k9);have K9:=U0 k9;clear k9)
     |(refine wpList_store_mid rfl 28 (.tmp 2) (.tmp 39) rfl w.heap.size 0 Z.toArray rfl (by rw[←HA.o.2.2.2.2.2.2.2];rfl) (P9.o.res.there (by omega)) HZ.o.2.2.2.2.2.2.2 HZ.o.2.2.2.2.2.2.1 ?_))
    refine bodyPost_ret (U5 rfl _ _ w.heap.size 28 _ (0,0) _ rfl (HR.o.1 _ P9.o.res) underlying28 rfl HZ.o.2.2.2.2.2.2.2) rfl ?_
    exact HR.o.2.2 _ _ K9.o (by decide) HP.o
   ·have HP:=U0 (show zA r7.end_ q.ok=0 by rw[hl,hok];rfl)
    have HK:=U0 hok
    clear he hl hok
    go_wp2_with (first
     |(go_at_call 110;refine (p8 p g r7 _ P6.o.rd).mono ?_;rintro e wy ⟨rfl,rfl⟩)
     |(go_at_call 101;refine (SC p g r7 _ P6.o.rd).mono ?_;rintro e wy ⟨rfl,rfl⟩)
     |(refine j5 28 (.tmp 5) rfl tb 0 rfl _ _ P6.o.row.rangeAll underlying28 rfl HY.o.2.2 ?_ ?_;·rfl)
     |(go_at_call 82;refine HCk.o.mono ?_;rintro e w9 ⟨rfl,k9⟩;rw[HK.o];have P9:=U0 (P6.o.over k9);have K9:=U0 k9;clear k9)
     |(refine wpList_load_mid rfl 28 (.tmp 5) rfl tb 0 rfl _ _ P9.o.row.rangeAll underlying28 rfl HY.o.2.2 ?_)
     |(refine wpList_store_mid rfl 28 (.tmp 2) (.tmp 40) rfl w.heap.size 0 L6.toArray rfl rfl (P9.o.res.there (by rw[U4,U4,HY.o.1,HZ.o.2.1];omega)) HO.o.1 HO.o.2 ?_))
    refine bodyPost_ret (U5 rfl _ _ w.heap.size 28 _ (0,0) _ rfl (HR.o.2.1 _ P9.o.res) underlying28 rfl HO.o.1) rfl ?_
    have ks:=(U1.refl [w.heap.size] w9).setL (vs:=L6) (g:=w.heap.size) (o:=0) (by simp)
    have hlo:=P9.o.lo
    have hhi:=P9.o.hi
    rw[HE.o,HP.o]
    refine⟨.slice A6 x7.length c6,G6,by rw[←HLq.o];rfl,⟨hq.o.1,((hq.o.2.keep K9.o (by simp)).keep ks (fun y hy=>by have:=(B7.o.2 y hy).1;simp;omega))⟩,fun y hy=>⟨by have:=(B7.o.2 y hy).1;omega,?_⟩,P9.o.kp.setL (.inr (Nat.le_refl _))⟩
    have h1:=(B7.o.2 y hy).2;have h2:=K9.o.size;have h3:=ks.size;have h4:=HSZ.o;omega
  ·have HP:=U0 (show zA r7.end_ q.ok=4 by unfold zA;rw[if_neg hl];unfold RS.end_ at hl ⊢;rw[if_pos he] at hl ⊢;split at hl<;>simp_all)
   have hl':(r7.end_ !=0)=true:=by simp[hl]
   clear he hl
   go_wp2_with (first
    |(go_at_call 110;refine (p8 p g r7 _ P6.o.rd).mono ?_;rintro e wy ⟨rfl,rfl⟩)
    |(go_at_call 101;refine (SC p g r7 _ P6.o.rd).mono ?_;rintro e wy ⟨rfl,rfl⟩)
    |(refine wpList_store_mid rfl 28 (.tmp 2) (.tmp 39) rfl w.heap.size 0 Z.toArray rfl (by rw[←HA.o.2.2.2.2.2.2.2];rfl) (P6.o.res.there (by omega)) HZ.o.2.2.2.2.2.2.2 HZ.o.2.2.2.2.2.2.1 ?_))
   refine bodyPost_ret (U5 rfl _ _ w.heap.size 28 _ (0,0) _ rfl (HR.o.1 _ P6.o.res) underlying28 rfl HZ.o.2.2.2.2.2.2.2) rfl ?_
   exact HR.o.2.2 _ _ (U1.refl _ _) (by decide) HP.o
 ·have HP:=U0 (show zA r7.end_ q.ok=r7.e by unfold zA RS.end_;rw[if_neg he,if_neg he])
  have HC:=U0 he
  have he':(r7.e !=0)=true:=by simp[he]
  clear he
  go_wp2_with (first
   |(go_at_call 110;refine (p8 p g r7 _ P6.o.rd).mono ?_;rintro e wy ⟨rfl,rfl⟩)
   |(refine wpList_store_mid rfl 28 (.tmp 2) (.tmp 28) rfl w.heap.size 0 Z.toArray rfl (by rw[←HA.o.2.2.2.2.2.2.2];rfl) (P6.o.res.there (by omega)) HZ.o.2.2.2.2.2.2.2 HZ.o.2.2.2.2.2.2.1 ?_))
  refine bodyPost_ret (U5 rfl _ _ w.heap.size 28 _ (0,0) _ rfl (HR.o.1 _ P6.o.res) underlying28 rfl HZ.o.2.2.2.2.2.2.2) rfl ?_
  exact HR.o.2.2 _ _ (U1.refl _ _) HC.o HP.o
end Go.Proofs.YthfdkonhjpdflaaGreatDoor
