import Derived.Test.YthfdkonhjpdflaaGreatDoorPkI
namespace Go.Proofs.YthfdkonhjpdflaaGreatDoor
open Go.RowKit Go.Proofs.Tryz
set_option linter.unusedVariables false
set_option maxRecDepth 100000
set_option linter.unusedSimpArgs false
set_option maxHeartbeats 16000000
theorem Z7 {P:Program} {ops:Array Oper} {op:Oper} {a:Act} {w:World} {K:Act→World→Prop} {Q:Exit→Act→World→Prop} {E:Prop} (hgd:op.guard=none) (ty:TypeId) (x:Operand) (ho:op.op= .load ty x)
 (b o:Nat) (hx:a.eval x= .pointer (some ⟨b,o,none⟩)) (cs:List Value) (d:TypeDesc) (hc:w.rangeAt b o cs)
 (hu:P.underlying ty=some d) (hd:d.isRow=true) (hi:(P.info? ty).map (·.size)=some cs.length)
 (h:K (a.put op.dst (.agg cs.toArray)) w):if Region.wanted op (yielded ops a.tmps)=true then Oper.wp P op a w K Q else E:=by
 rw[if_pos (by simp[Region.wanted,hgd])]
 exact wp_load_mid ty x ho b o hx cs d hc hu hd hi h
theorem I6 {P:Program} {ops:Array Oper} {op:Oper} {a:Act} {w:World} {K:Act→World→Prop} {Q:Exit→Act→World→Prop} {E:Prop} (hgd:op.guard=none) (ty:TypeId) (x y:Operand) (ho:op.op= .store ty x y)
 (b o:Nat) (cells:Array Value) (hx:a.eval x= .pointer (some ⟨b,o,none⟩)) (hy:a.eval y= .agg cells)
 (ht:w.there b o cells.size) (hi:(P.info? ty).map (·.size)=some cells.size) (h1:cells.all (·.oneCell')=true)
 (h:K (a.put op.dst undef) (w.setCells b o cells.toList)):if Region.wanted op (yielded ops a.tmps)=true then Oper.wp P op a w K Q else E:=by
 rw[if_pos (by simp[Region.wanted,hgd])]
 exact wp_store_mid ty x y ho b o cells hx hy ht hi h1 h
theorem f_head (h:Int) (s:SF):(bM h s).1.kind=s.1.kind∧(bM h s).1.frm=s.1.frm∧(bM h s).1.dst=s.1.dst:=by
 have e1:∀ s:SF,(f1 h s).1.kind=s.1.kind∧(f1 h s).1.frm=s.1.frm∧(f1 h s).1.dst=s.1.dst:=fun s=>by unfold f1;split<;>exact⟨rfl,rfl,rfl⟩
 have e2:∀ s:SF,(f2 h s).1.kind=s.1.kind∧(f2 h s).1.frm=s.1.frm∧(f2 h s).1.dst=s.1.dst:=fun s=>by unfold f2;split<;>exact⟨rfl,rfl,rfl⟩
 have e3:∀ s:SF,(f3 h s).1.kind=s.1.kind∧(f3 h s).1.frm=s.1.frm∧(f3 h s).1.dst=s.1.dst:=fun s=>by unfold f3;split<;>exact⟨rfl,rfl,rfl⟩
 have e4:∀ s:SF,(f4 h s).1.kind=s.1.kind∧(f4 h s).1.frm=s.1.frm∧(f4 h s).1.dst=s.1.dst:=fun s=>by unfold f4;split<;>exact⟨rfl,rfl,rfl⟩
 have e5:∀ s:SF,(f5 h s).1.kind=s.1.kind∧(f5 h s).1.frm=s.1.frm∧(f5 h s).1.dst=s.1.dst:=fun s=>by unfold f5;split<;>exact⟨rfl,rfl,rfl⟩
 have e6:∀ s:SF,(f6 h s).1.kind=s.1.kind∧(f6 h s).1.frm=s.1.frm∧(f6 h s).1.dst=s.1.dst:=fun s=>by unfold f6;split<;>exact⟨rfl,rfl,rfl⟩
 have e7:∀ s:SF,(f7 h s).1.kind=s.1.kind∧(f7 h s).1.frm=s.1.frm∧(f7 h s).1.dst=s.1.dst:=fun s=>by unfold f7;split<;>exact⟨rfl,rfl,rfl⟩
 have e8:∀ s:SF,(f8 h s).1.kind=s.1.kind∧(f8 h s).1.frm=s.1.frm∧(f8 h s).1.dst=s.1.dst:=fun s=>by unfold f8;split<;>exact⟨rfl,rfl,rfl⟩
 have e9:∀ s:SF,(f9 h s).1.kind=s.1.kind∧(f9 h s).1.frm=s.1.frm∧(f9 h s).1.dst=s.1.dst:=fun s=>by unfold f9;split<;>exact⟨rfl,rfl,rfl⟩
 have tr:∀{a b c:PK},(a.kind=b.kind∧a.frm=b.frm∧a.dst=b.dst)→(b.kind=c.kind∧b.frm=c.frm∧b.dst=c.dst)→(a.kind=c.kind∧a.frm=c.frm∧a.dst=c.dst):=fun h1 h2=>⟨h1.1.trans h2.1,h1.2.1.trans h2.2.1,h1.2.2.trans h2.2.2⟩
 unfold bM
 exact tr (e9 _) (tr (e8 _) (tr (e7 _) (tr (e6 _) (tr (e5 _) (tr (e4 _) (tr (e3 _) (tr (e2 _) (e1 _))))))))
theorem ME.over2 {w w':World} {p g:Nat} {r:RS} (h:ME w p g r) (hk:U1 [] w w'):ME w' p g r:=h.keep hk (by simp) (by simp)
def TD (b:List UInt8):PK:={G9 with kind:=((RS.mk b 0).num 1).1,frm:=(((RS.mk b 0).num 1).2.num 1).1,dst:=((((RS.mk b 0).num 1).2.num 1).2.num 1).1}
def fP (b:List UInt8):RS:=((((RS.mk b 0).num 1).2.num 1).2.num 1).2
def AR (b:List UInt8):SF:=bM (l6 (TD b).kind) (TD b,fP b,0)
def AA (b:List UInt8):PK × Int:=
 if (fP b).e=0∧l6 (TD b).kind=0 then (G9,4)
 else if R8 (AR b).2.2 (AR b).2.1.e≠0 then (G9,R8 (AR b).2.2 (AR b).2.1.e)
 else (eL (zA (AR b).2.1.end_ (AR b).1.ok) (AR b).1 G9,zA (AR b).2.1.end_ (AR b).1.ok)
theorem gJ (w:World):(Instr.build 34 #[]).run prog w= .ok (.agg (q8 G9 I4 I4 I4 I4 I4).toArray) w:=
 run_build w 34 #[] _ (by kernel_rfl)
theorem mE (w:World) (F:List Nat):wD w F G9 I4 I4 I4 I4 I4:=⟨j6,F6,G7.nil _ _,G7.nil _ _,F8.nil _ _,xA.nil _ _,G7.nil _ _⟩
theorem eL_pkV {E:Int} {w:World} {G:List Nat} {q:PK} {ev av cv vv bw:Value} (h:wD w G q ev av cv vv bw):wD w G (eL E q G9) (eL E ev I4) (eL E av I4) (eL E cv I4) (eL E vv I4) (eL E bw I4):=by
 unfold eL
 split
 ·exact h
 ·exact mE w G
theorem pkL_eL (E:Int) (q:PK) (ev av cv vv bw:Value):eL E (q8 q ev av cv vv bw) (q8 G9 I4 I4 I4 I4 I4)=q8 (eL E q G9) (eL E ev I4) (eL E av I4) (eL E cv I4) (eL E vv I4) (eL E bw I4):=by unfold eL;split<;>rfl
theorem GG (F:List Nat) (b:List UInt8) (v:Value) (w:World) (h:G7 w F v b) (hb:b.length≤1000000) (hfl:zB w):
 Calls prog 28 #[v] w fun e w'=>∃ ev av cv vv bw G,e= .returned (.tuple #[.agg (q8 (AA b).1 ev av cv vv bw).toArray,.int .i64 (AA b).2])∧wD w' G (AA b).1 ev av cv vv bw∧I9 w w' G∧U1 [] w w':=by
 obtain⟨Z,hZ⟩:∃ Z,q8 G9 I4 I4 I4 I4 I4=Z:=⟨_,rfl⟩
 have zv:=KE
 have zl:=IC
 have zo:=mM
 have zb:=gJ
 rw[hZ] at zv zl zo
 have zb2:∀ w,(Instr.build 34 #[]).run prog w= .ok (.agg Z.toArray) w:=fun w=>by rw[zb w,hZ]
 obtain⟨r0,hr0⟩:∃ r,RS.mk b 0=r:=⟨_,rfl⟩
 obtain⟨x1,hx1⟩:∃ x,(r0.num 1).1=x:=⟨_,rfl⟩
 obtain⟨r1,hr1⟩:∃ x,(r0.num 1).2=x:=⟨_,rfl⟩
 have S1:V5 ((r1.l≠[]→r0.l≠[])∧r1.l.length≤r0.l.length):=U0 (by rw[←hr1];exact⟨nA,U9 _ _⟩)
 obtain⟨x2,hx2⟩:∃ x,(r1.num 1).1=x:=⟨_,rfl⟩
 obtain⟨r2,hr2⟩:∃ x,(r1.num 1).2=x:=⟨_,rfl⟩
 have S2:V5 ((r2.l≠[]→r1.l≠[])∧r2.l.length≤r1.l.length):=U0 (by rw[←hr2];exact⟨nA,U9 _ _⟩)
 obtain⟨x3,hx3⟩:∃ x,(r2.num 1).1=x:=⟨_,rfl⟩
 obtain⟨r3,hr3⟩:∃ x,(r2.num 1).2=x:=⟨_,rfl⟩
 have S3:V5 ((r3.l≠[]→r2.l≠[])∧r3.l.length≤r2.l.length):=U0 (by rw[←hr3];exact⟨nA,U9 _ _⟩)
 have hrg:(0≤x2∧x2≤255)∧0≤x3∧x3≤255:=by rw[←hx2,←hx3];exact⟨bD _,bD _⟩
 have eq:TD b={G9 with kind:=x1,frm:=x2,dst:=x3}:=by unfold TD;rw[hr0,hx1,hr1,hx2,hr2,hx3]
 have er:fP b=r3:=by unfold fP;rw[hr0,hr1,hr2,hr3]
 obtain⟨q0,hq0⟩:∃ q,({G9 with kind:=x1,frm:=x2,dst:=x3}:PK)=q:=⟨_,rfl⟩
 obtain⟨ff,hff⟩:∃ f,l6 x1=f:=⟨_,rfl⟩
 obtain⟨s,hs⟩:∃ s,bM ff (q0,r3,0)=s:=⟨_,rfl⟩
 have hk0:q0.kind=x1∧q0.frm=x2∧q0.dst=x3:=by rw[←hq0];exact⟨rfl,rfl,rfl⟩
 have esS:AR b=s:=by unfold AR;rw[eq,er,hq0,hk0.1,hff];exact hs
 have HE:=U0 (show AA b=if r3.e=0∧ff=0 then (G9,4) else if R8 s.2.2 s.2.1.e≠0 then (G9,R8 s.2.2 s.2.1.e) else (eL (zA s.2.1.end_ s.1.ok) s.1 G9,zA s.2.1.end_ s.1.ok) by unfold AA;rw[esS,eq,er,hq0,hk0.1,hff])
 have hsf:=f_head ff (q0,r3,0)
 rw[hs] at hsf
 have hfr:s.1.frm=x2∧s.1.dst=x3:=⟨hsf.2.1.trans hk0.2.1,hsf.2.2.trans hk0.2.2⟩
 have hrl:r0.l.length≤1000000:=by rw[←hr0];exact hb
 have HX:=U0 (U2 hr0 (U2 hrl (U2 (U2 hx1 hr1) (U2 (U2 hx2 hr2) (U2 (U2 hx3 hr3) (U2 hff (U2 hs (U2 hq0 (U2 hfr hrg)))))))))
 have HV:=U0 (U2 h (U2 hb hfl))
 have HZ:=U0 (U2 zv (U2 zl (U2 zo (U2 hZ zb2))))
 have hI:V5 ((prog.info? 34).map (·.size)=some Z.toArray.size):=U0 (by rw[U4,zl];exact I5)
 clear eq er esS hsf h hb zv zl zo hZ zb zb2 hrl hr0 hx1 hr1 hx2 hr2 hx3 hr3 hff hs hq0 hfr hrg hk0 hfl
 have kA:=(U1.refl [] w).alloc (.cells Z.toArray 34)
 have rA:=l5.new w 34 Z.toArray
 obtain⟨wA,hwA⟩:∃ wA,w.alloc (.cells Z.toArray 34)=wA:=⟨_,rfl⟩
 rw[hwA] at kA rA
 have HA:=U0 (U2 hwA (U2 kA (U2 rA (HV.o.1.keep kA (by simp)))))
 clear kA rA hwA
 go_enter func28,ntmps28
 go_upto_region 2 with (first
  |(with_reducible refine F5 _ _ rfl 34 rfl _ HZ.o.1 HA.o.1 ?_)
  |(go_at_call 93;refine (MF F b v _ HA.o.2.2.2 HV.o.2.1).mono ?_;rintro e w1 ⟨p,g,rfl,d1,d2,d3,d4⟩;rw[HX.o.1] at d1;have D1:=U0 (U2 d1 (U2 d2 (U2 d3 d4)));clear d1 d2 d3 d4))
 have hD:=D1.o
 have kS:=(U1.refl [] w1).alloc (.cells #[.pointer (some ⟨p,0,none⟩),.int .i64 0] 104)
 have rS:=l5.new w1 104 #[.pointer (some ⟨p,0,none⟩),.int .i64 0]
 obtain⟨w2,hw2⟩:∃ w2,w1.alloc (.cells #[.pointer (some ⟨p,0,none⟩),.int .i64 0] 104)=w2:=⟨_,rfl⟩
 rw[hw2] at kS rS ⊢
 obtain⟨sb,hsb⟩:∃ sb,w1.heap.size=sb:=⟨_,rfl⟩
 rw[hsb] at rS ⊢
 have kB:=(U1.refl [] w2).alloc (.cells Z.toArray 34)
 have rB:=l5.new w2 34 Z.toArray
 obtain⟨v0,hv0⟩:∃ v0,w2.alloc (.cells Z.toArray 34)=v0:=⟨_,rfl⟩
 rw[hv0] at kB rB
 obtain⟨pb,hpb⟩:∃ pb,w2.heap.size=pb:=⟨_,rfl⟩
 rw[hpb] at rB
 have h1:=HA.o.2.2.1.lt
 have h2:=hD.1.lt
 have h3:=hD.2.1
 have h5:=rS.lt
 have hps:p<sb:=by omega
 have hsp:sb<pb:=by omega
 have hgs:r0.l≠[]→g<sb:=fun hne=>by have:=hD.1.gl hne;omega
 have P0:V5 (dJ w v0 p g pb r0 34 Z Z):=U0 (by
  refine⟨(hD.1.over2 kS).over2 kB,by omega,by omega,fun hne=>⟨?_,by have:=hgs hne;omega⟩,HX.o.2.1,rB,kB.row (kS.row (hD.2.2.2.row HA.o.2.2.1 (by simp)) (by simp)) (by simp),((HA.o.2.1.then hD.2.2.2 (by simp)).then kS (by simp)).then kB (by simp)⟩
  have:=hD.2.2.1 (by rw[show b=r0.l by rw[←HX.o.1]];exact hne);omega)
 have R0:=U0 (kB.row rS (by simp))
 have HW2:=U0 (U2 hv0 hpb)
 clear hD kS rS hw2 hsb kB rB hv0 hpb h1 h2 h3 h5 D1
 go_upto_region 3 with (first
  |(with_reducible refine F5 _ _ rfl 34 rfl _ HZ.o.1 HW2.o.1 ?_))
 rw[HW2.o.2]
 have hzc:∀ k:Nat,k<3→Z.toArray[k]? =some (.int .i64 0):=fun k hk=>by rw[←HZ.o.2.2.2.1];rcases (by omega:k=0∨k=1∨k=2) with rfl|rfl|rfl<;>rfl
 have HZC:=U0 hzc
 have z0:v0.drew.cell? ⟨sb,0,none⟩=some (.pointer (some ⟨p,0,none⟩)):=R0.o.cell 0
 have P0d:=U0 (P0.o.over ((U1.refl [] v0).drew))
 have R0d:V5 (l5 v0.drew sb 104 #[.pointer (some ⟨p,0,none⟩),.int .i64 0]):=R0
 have hsp':sb≠p:=by omega
 have hspb:sb≠pb:=by omega
 clear hzc
 go_region_held3 (fun w'=>w'.cell? ⟨sb,0,none⟩=some (.pointer (some ⟨p,0,none⟩))) (first|exact z0|exact z1|exact z2|exact z3|exact z4|exact z5|exact z6)
  (first
    |(go_at_call 94;(with_reducible refine (OC p g r0 1 _ P0d.o.rd).mono ?_);intro e u1 hq;unfold FC at hq;rw[HX.o.2.2.1.1,HX.o.2.2.1.2] at hq;obtain⟨rfl,hr,hk⟩:=hq;have P1:=U0 (P0d.o.read hr hk S1.o.1 S1.o.2);have R1:=U0 (hk.row R0d.o (by simp[hsp']));have z1:u1.cell? ⟨sb,0,none⟩=some (.pointer (some ⟨p,0,none⟩)):=R1.o.cell 0;clear hr hk)
    |(go_at_call 94;(with_reducible refine (OC p g r1 1 _ P1.o.rd).mono ?_);intro e u2 hq;unfold FC at hq;rw[HX.o.2.2.2.1.1,HX.o.2.2.2.1.2] at hq;obtain⟨rfl,hr,hk⟩:=hq;have P2:=U0 (P1.o.read hr hk S2.o.1 S2.o.2);have R2:=U0 (hk.row R1.o (by simp[hsp']));have z2:u2.cell? ⟨sb,0,none⟩=some (.pointer (some ⟨p,0,none⟩)):=R2.o.cell 0;clear hr hk)
    |(go_at_call 94;(with_reducible refine (OC p g r2 1 _ P2.o.rd).mono ?_);intro e u3 hq;unfold FC at hq;rw[HX.o.2.2.2.2.1.1,HX.o.2.2.2.2.1.2] at hq;obtain⟨rfl,hr,hk⟩:=hq;have P3:=U0 (P2.o.read hr hk S3.o.1 S3.o.2);have R3:=U0 (hk.row R2.o (by simp[hsp']));have z3:u3.cell? ⟨sb,0,none⟩=some (.pointer (some ⟨p,0,none⟩)):=R3.o.cell 0;have a0:u3.cell? ⟨pb,0,none⟩=some (.int .i64 0):=(P3.o.row.cell 0).trans (HZC.o 0 (by omega));have f0:=P3.o.row.free 0;have q1:=P3.o.row.set 0 (.int .i64 x1);have a1:(u3.setCell ⟨pb,0,none⟩ (.int .i64 x1)).cell? ⟨pb,1,none⟩=some (.int .i64 0):=(q1.cell 1).trans ((Array.getElem?_setIfInBounds_ne (by omega)).trans (HZC.o 1 (by omega)));have f1:=q1.free 1;have z4:=((xC u3 pb 0 (.int .i64 x1)).cell (p:=⟨sb,0,none⟩) R3.o.lt (by simp[hspb])).trans z3;have q2:=q1.set 1 (.int .i64 x2);have a2:((u3.setCell ⟨pb,0,none⟩ (.int .i64 x1)).setCell ⟨pb,1,none⟩ (.int .i64 x2)).cell? ⟨pb,2,none⟩=some (.int .i64 0):=(q2.cell 2).trans ((Array.getElem?_setIfInBounds_ne (by omega)).trans ((Array.getElem?_setIfInBounds_ne (by omega)).trans (HZC.o 2 (by omega))));have f2:=q2.free 2;have k4:=(xC u3 pb 0 (.int .i64 x1)).setCell ⟨pb,1,none⟩ (.int .i64 x2) (.inl (by simp));have z5:=(k4.cell (p:=⟨sb,0,none⟩) R3.o.lt (by simp[hspb])).trans z3;have k5:=k4.setCell ⟨pb,2,none⟩ (.int .i64 x3) (.inl (by simp));have z6:=(k5.cell (p:=⟨sb,0,none⟩) R3.o.lt (by simp[hspb])).trans z3;have H5:=U0 (U2 (q2.set 2 (.int .i64 x3)) k5);clear hr hk q1 q2 k4 k5))
 clear z0 z1 z2 z3 z4 z5 a0 a1 a2 f0 f1 f2
 obtain⟨v4,hv4⟩:∃ v,((u3.setCell ⟨pb,0,none⟩ (.int .i64 x1)).setCell ⟨pb,1,none⟩ (.int .i64 x2)).setCell ⟨pb,2,none⟩ (.int .i64 x3)=v:=⟨_,rfl⟩
 rw[hv4] at H5 ⊢
 have hrow:l5 v4 pb 34 (q8 q0 I4 I4 I4 I4 I4).toArray:=by
  have e:((Z.toArray.setIfInBounds 0 (.int .i64 x1)).setIfInBounds 1 (.int .i64 x2)).setIfInBounds 2 (.int .i64 x3)=(q8 q0 I4 I4 I4 I4 I4).toArray:=by
   rw[←HZ.o.2.2.2.1,←HX.o.2.2.2.2.2.2.2.1];simp[q8]
  rw[←e];exact H5.o.1
 have P4:=U0 (P3.o.keep H5.o.2 hrow)
 have R4:=U0 (H5.o.2.row R3.o (by simp[hspb]))
 have hpbp:pb≠p:=by omega
 have SA:V5 (sI v4 sb p g r3 0∧(r3.l≠[]→g<sb)):=U0 (by
  have hgg:r3.l≠[]→g<sb:=fun hne=>hgs (S1.o.1 (S2.o.1 (S3.o.1 hne)))
  exact⟨⟨R4.o,P4.o.rd,hsp',fun hne=>by have:=hgg hne;omega,P4.o.len⟩,hgg⟩)
 have A0:V5 (kU v4 v4 sb p g pb (q0,r3,0)):=U0 (by
  have hq:wD v4 [] q0 I4 I4 I4 I4 I4:=by rw[←HX.o.2.2.2.2.2.2.2.1];exact⟨j6,F6,G7.nil _ _,G7.nil _ _,F8.nil _ _,xA.nil _ _,G7.nil _ _⟩
  have hl:=P4.o.row.lt
  exact⟨I4,I4,I4,I4,I4,[],SA.o.1,hrow,hq,fun y hy=>by simp at hy,U1.refl _ _,fun hne=>by have:=SA.o.2 hne;omega,by omega,by omega,hl,by omega,hpbp⟩)
 have F4:=U0 (HV.o.2.2.keep P4.o.kp (by simp))
 have hkind:q0.kind=x1:=by rw[←HX.o.2.2.2.2.2.2.2.1]
 have y0:v4.cell? ⟨pb,0,none⟩=some (.int .i64 x1):=by rw[←hkind];exact (hrow.cell 0).trans rfl
 clear hrow H5 hv4 z6 P3 R3 P0 R0 P0d R0d P1 P2 R1 R2 hkind
 go_upto_region 5 with (first
  |(go_at_call 40;refine (jG x1 _ F4.o).mono ?_;rintro e w' ⟨rfl,rfl⟩;rw[HX.o.2.2.2.2.2.1]))
 by_cases hA:r3.e=0∧ff=0
 ·have HEA:V5 (AA b=(G9,4)):=U0 (by rw[HE.o,if_pos hA])
  obtain⟨hA1,hA2⟩:=hA
  have HA1:=U0 (show R8 0 r3.e=0 by unfold R8;rw[if_pos rfl];exact hA1)
  have hffb:(ff==0)=true:=by simp[hA2]
  clear hA1 hA2
  have r6:=P4.o.res.setL (vs:=Z) (o:=0)
  rw[F7 (by rfl)] at r6
  have R6:=U0 r6
  clear r6
  go_wp2_with (first
   |(go_at_call 95;refine (XB _ sb p g r3 0 SA.o.1).mono ?_;rintro e u9 ⟨rfl,rfl⟩;rw[HA1.o])
   |(refine RG _ rfl 34 rfl _ (HZ.o.2.2.2.2 _) ?_)
   |(refine wpList_store_mid rfl 34 (.tmp 2) (.tmp 40) rfl w.heap.size 0 Z.toArray rfl rfl (P4.o.res.there (by simp only[U4];omega)) hI.o (all_oneCell_toArray HZ.o.2.2.1) ?_))
  refine bodyPost_ret (U5 rfl _ _ w.heap.size 34 _ (0,0) _ rfl R6.o underlying34 rfl hI.o) rfl ?_
  refine⟨I4,I4,I4,I4,I4,[],by rw[HEA.o,HZ.o.2.2.2.1];rfl,by rw[HEA.o];exact mE _ _,fun y hy=>by simp at hy,P4.o.kp.setL (.inr (Nat.le_refl _))⟩
 ·have HEN:V5 (AA b=if R8 s.2.2 s.2.1.e≠0 then (G9,R8 s.2.2 s.2.1.e) else (eL (zA s.2.1.end_ s.1.ok) s.1 G9,zA s.2.1.end_ s.1.ok)):=U0 (by rw[HE.o,if_neg hA])
  have hcs:(R8 0 r3.e=0∧(ff==0)=false)∨(¬R8 0 r3.e=0∧(R8 0 r3.e==0)=false):=by
   have e:R8 0 r3.e=r3.e:=by unfold R8;rw[if_pos rfl]
   rw[e]
   by_cases h0:r3.e=0
   ·exact .inl ⟨h0,by simp;exact fun h=>hA ⟨h0,h⟩⟩
   ·exact .inr ⟨h0,by simp[h0]⟩
  clear hA
  go_cut [39] (fun v39 wx=>v39= .bool false∧wx=v4)
  case first=>
   rcases hcs with⟨h0,hf⟩|⟨h0,hf⟩
   ·have H0:=U0 h0
    clear h0
    go_wp2_with (first
     |(go_at_call 95;refine (XB _ sb p g r3 0 SA.o.1).mono ?_;rintro e u9 ⟨rfl,rfl⟩;rw[H0.o]))
    go_meet
    exact⟨rfl,rfl⟩
   ·clear h0
    go_wp2_with (first
     |(go_at_call 95;refine (XB _ sb p g r3 0 SA.o.1).mono ?_;rintro e u9 ⟨rfl,rfl⟩))
    go_meet
    exact⟨rfl,rfl⟩
  case rest=>
   obtain⟨rfl,rfl⟩:=hcut
   go_upto_region 8 with (first
    |(go_at_call 96;refine (YJ wc sb p g pb (q0,r3,0) ff A0.o).mono ?_;rintro e u5 ⟨rfl,hp⟩;rw[HX.o.2.2.2.2.2.2.1] at hp;have A5:=U0 hp;clear hp))
   obtain⟨ev,av,cv,vv,bw,G,hA6⟩:=A5.o
   have hlo:=P4.o.lo
   have hres:=hA6.kp.row P4.o.res (by simp;omega)
   have hkw:U1 [] w u5:=P4.o.kp.then hA6.kp (fun x hx=> .inr (by simp at hx;omega))
   have hGw:∀ y∈G,pb<y∧y<u5.heap.size:=fun y hy=>⟨by have h1:=(hA6.new y hy).1;have h2:=P4.o.row.lt;omega,(hA6.new y hy).2⟩
   have A6:=U0 hA6
   have HR:=U0 (U2 hres (U2 hkw hGw))
   have hll:=P4.o.lo
   clear hA6 hres hkw hGw hcs y0
   by_cases he:R8 s.2.2 s.2.1.e=0
   ·have HE1:=U0 he
    have HEF:V5 (AA b=(eL (zA s.2.1.end_ s.1.ok) s.1 G9,zA s.2.1.end_ s.1.ok)):=U0 (by rw[HEN.o,if_neg (by simp[he])])
    clear he
    obtain⟨XE,hXE⟩:∃ XE,zA s.2.1.end_ s.1.ok=XE:=⟨_,rfl⟩
    obtain⟨XL,hXL⟩:∃ XL,eL XE (q8 s.1 ev av cv vv bw) Z=XL:=⟨_,rfl⟩
    have hxl:(q8 s.1 ev av cv vv bw).length=87:=G8 A6.o.val.rn A6.o.val.an
    have hxo:∀ u∈q8 s.1 ev av cv vv bw,u.oneCell'=true:=yA A6.o.val.re.one A6.o.val.ae.one A6.o.val.cc.one A6.o.val.vs.one A6.o.val.bs.one
    have hLl:XL.length=87:=by rw[←hXL];unfold eL;split;exact hxl;exact HZ.o.2.1
    have hLo:∀ u∈XL,u.oneCell'=true:=by rw[←hXL];unfold eL;split;exact hxo;exact HZ.o.2.2.1
    have HXL:=U0 (U2 hXL hXE)
    have HL:=U0 (U2 hLl hLo)
    have hI2:V5 ((prog.info? 34).map (·.size)=some (q8 s.1 ev av cv vv bw).length):=U0 (by rw[hxl];exact I5)
    clear hxl hxo hXL hXE hLl hLo
    have HCALL:=U0 (fun (wx:World) (k:U1 [] u5 wx)=>dN G p g s.2.1 s.1 ev av cv vv bw wx ((A6.o.src.over k).rd) (A6.o.val.keep k (by simp)) (HV.o.2.2.keep (HR.o.2.1.then k (by simp)) (by simp)) (by unfold OA;have:=HX.o.2.2.2.2.2.2.2.2;omega) (by unfold OA;have:=HX.o.2.2.2.2.2.2.2.2;omega))
    have rs:∀ wx,l5 wx w.heap.size 34 Z.toArray→l5 (wx.setCells w.heap.size 0 XL) w.heap.size 34 XL.toArray:=fun wx hh=>by
     have:=hh.setL (vs:=XL) (o:=0)
     rw[F7 (by rw[U4,HL.o.1,HZ.o.2.1])] at this
     exact this
    have ht:∀ wx,l5 wx w.heap.size 34 Z.toArray→wx.there w.heap.size 0 XL.toArray.size:=fun wx hh=>hh.there (by simp only[U4];have h1:=HL.o.1;have h2:=HZ.o.2.1;omega)
    have hJ:(prog.info? 34).map (·.size)=some XL.toArray.size:=by rw[U4,HL.o.1];exact I5
    have HS:=U0 (U2 rs (U2 ht hJ))
    have HO2:=U0 (all_oneCell_toArray HL.o.2)
    have cS:u5.drew.cell? ⟨sb,0,none⟩=some (.pointer (some ⟨p,0,none⟩)):=A6.o.src.row.cell 0
    have kd:=(U1.refl [] u5).drew
    have RA:=U0 (kd.row A6.o.row (by simp))
    have RR:=U0 (kd.row HR.o.1 (by simp))
    clear rs ht hJ
    go_upto_region 11 with (first
     |(go_at_call 95;refine (XB _ sb p g s.2.1 s.2.2 A6.o.src).mono ?_;rintro e u9 ⟨rfl,rfl⟩;rw[HE1.o]))
    have HCC:=U0 (fun (w':World) (k:U1 [w.heap.size] u5 w')=>(k.row A6.o.src.row (by simp;omega)).cell 0)
    have HRW:=U0 (fun (w':World) (k:U1 [w.heap.size] u5 w')=>(k.row A6.o.row (by simp;omega)).rangeAll)
    clear cS kd
    refine wp_region_held_drew (S:=U1 [w.heap.size] u5) (by kernel_rfl) ((U1.refl [] u5).drew.more (by simp)) (fun _=> ?_)
    have kW:=(U1.refl [] u5).drew
    obtain⟨W0,hW0⟩:∃ W,u5.drew=W:=⟨_,rfl⟩
    rw[hW0] at kW ⊢
    clear hW0 RA RR
    refine FB 0 ⟨_,_,_,_,_,_⟩ _ (kW.more (by simp)) ?_
    try simp only[Act.put,F3,U3,V3]
    refine FB 1 ⟨_,_,_,_,_,_⟩ _ (kW.more (by simp)) ?_
    try simp only[Act.put,F3,U3,V3]
    refine FB 2 ⟨_,_,_,_,_,_⟩ _ (kW.more (by simp)) ?_
    try simp only[Act.put,F3,U3,V3]
    refine wpAnyH_take (i:=3) (oi:=⟨_,_,_,_,_,_⟩) (v:= ?_) rfl (by kernel_rfl) (by kernel_rfl) (by kernel_rfl) (fun _ _ _ h=>h) (Or.inl ⟨by rfl,?_⟩) (kW.more (by simp)) ?_
    rotate_left
    ·intro w' hSw;have xc:w'.cell? ⟨sb,0,none⟩=some (.pointer (some ⟨p,0,none⟩)):=HCC.o w' hSw;clear hSw;(go_simp;try with_reducible rfl)
    try simp only[Act.put,F3,U3,V3]
    refine wpAnyH_take (i:=4) (oi:=⟨_,_,_,_,_,_⟩) (v:= .agg (q8 s.1 ev av cv vv bw).toArray) rfl (by kernel_rfl) (by kernel_rfl) (by kernel_rfl) (fun _ _ _ h=>h) (uA 34 (.tmp 5) rfl pb 0 rfl (q8 s.1 ev av cv vv bw) _ (fun w' hSw=>HRW.o w' hSw) underlying34 rfl hI2.o ?_) (kW.more (by simp)) ?_
    ·rfl
    try simp only[Act.put,F3,U3,V3]
    refine wpAnyH_ready (rs:=[5]) (by kernel_rfl) (by simp) ?_
    refine q9 rfl (fun K hK=> ?_)
    go_simp
    refine (HCALL.o _ kW).mono ?_
    rintro e u7 ⟨rfl,k7⟩
    rw[HXL.o.2,HZ.o.2.2.2.1,HXL.o.1]
    have k8:=kW.then k7 (by simp)
    go_wp2_with fail
    refine hK.out _ _ (k8.more (by simp)) (fun _=> ?_)
    clear hK K
    try simp only[Act.put,F3,U3,V3]
    refine FB 6 ⟨_,_,_,_,_,_⟩ _ (k8.more (by simp)) ?_
    try simp only[Act.put,F3,U3,V3]
    refine FB 7 ⟨_,_,_,_,_,_⟩ _ (k8.more (by simp)) ?_
    try simp only[Act.put,F3,U3,V3]
    have R7:=U0 (k8.row HR.o.1 (by simp))
    have K7:=U0 k8
    have kS:=((k8.more (by simp)):U1 [w.heap.size] u5 u7).setL (vs:=XL) (g:=w.heap.size) (o:=0) (.inl (by simp))
    have HK8:=U0 (U2 kS ((HR.o.2.1.then k8 (by simp)).setL (vs:=XL) (g:=w.heap.size) (o:=0) (.inr (Nat.le_refl _))))
    clear kS
    refine wpAnyH_ready (rs:=[8]) (by kernel_rfl) (by simp) ?_
    refine q9 rfl (fun K hK=> ?_)
    rw[if_pos (by rfl)]
    refine wp_store_mid 34 (.tmp 2) (.tmp 56) rfl w.heap.size 0 XL.toArray rfl rfl (HS.o.2.1 _ R7.o) HS.o.2.2 HO2.o ?_
    refine hK.out _ _ HK8.o.1 (fun _=> ?_)
    clear hK K
    try simp only[Act.put,F3,U3,V3]
    refine FB 9 ⟨_,_,_,_,_,_⟩ _ HK8.o.1 ?_
    try simp only[Act.put,F3,U3,V3]
    refine wpAnyH_done (by kernel_rfl) ?_ _
    go_wp2_with fail
    refine bodyPost_ret (U5 rfl _ _ w.heap.size 34 _ (0,0) _ rfl (HS.o.1 _ R7.o) underlying34 rfl HS.o.2.2) rfl ?_
    have ks:=(U1.refl [w.heap.size] u7).setL (vs:=XL) (g:=w.heap.size) (o:=0) (by simp)
    have h1:XL=q8 (eL XE s.1 G9) (eL XE ev I4) (eL XE av I4) (eL XE cv I4) (eL XE vv I4) (eL XE bw I4):=by rw[←HXL.o.1,←HZ.o.2.2.2.1];exact pkL_eL XE _ _ _ _ _ _
    have h2:wD (u7.setCells w.heap.size 0 XL) G (AA b).1 (eL XE ev I4) (eL XE av I4) (eL XE cv I4) (eL XE vv I4) (eL XE bw I4):=by
     rw[HEF.o,HXL.o.2]
     exact eL_pkV ((A6.o.val.keep K7.o (by simp)).keep ks (fun y hy=>by have:=(HR.o.2.2 y hy).1;simp;omega))
    have h3:I9 w (u7.setCells w.heap.size 0 XL) G:=fun y hy=>⟨by have:=(HR.o.2.2 y hy).1;omega,Nat.lt_of_lt_of_le (HR.o.2.2 y hy).2 (Nat.le_trans K7.o.size ks.size)⟩
    refine⟨eL XE ev I4,eL XE av I4,eL XE cv I4,eL XE vv I4,eL XE bw I4,?h4,G,h2,h3,HK8.o.2⟩
    rw[HEF.o,HXL.o.2,←h1]
    rfl
   ·have heb:(R8 s.2.2 s.2.1.e !=0)=true:=by simp[he]
    have HEF:V5 (AA b=(G9,R8 s.2.2 s.2.1.e)):=U0 (by rw[HEN.o,if_pos he])
    clear he
    have r6:=HR.o.1.setL (vs:=Z) (o:=0)
    rw[F7 (by rfl)] at r6
    have R6:=U0 r6
    clear r6
    go_wp2_with (first
     |(go_at_call 95;refine (XB _ sb p g s.2.1 s.2.2 A6.o.src).mono ?_;rintro e u9 ⟨rfl,rfl⟩)
     |(refine RG _ rfl 34 rfl _ (HZ.o.2.2.2.2 _) ?_)
     |(refine wpList_store_mid rfl 34 (.tmp 2) (.tmp 48) rfl w.heap.size 0 Z.toArray rfl rfl (HR.o.1.there (by simp only[U4];omega)) hI.o (all_oneCell_toArray HZ.o.2.2.1) ?_))
    refine bodyPost_ret (U5 rfl _ _ w.heap.size 34 _ (0,0) _ rfl R6.o underlying34 rfl hI.o) rfl ?_
    refine⟨I4,I4,I4,I4,I4,[],by rw[HEF.o,HZ.o.2.2.2.1];rfl,by rw[HEF.o];exact mE _ _,fun y hy=>by simp at hy,HR.o.2.1.setL (.inr (Nat.le_refl _))⟩
end Go.Proofs.YthfdkonhjpdflaaGreatDoor
