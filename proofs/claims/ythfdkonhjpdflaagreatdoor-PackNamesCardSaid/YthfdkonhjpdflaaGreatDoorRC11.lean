import Derived.Test.YthfdkonhjpdflaaGreatDoorRCD
import Derived.Test.YthfdkonhjpdflaaGreatDoorLow3
namespace Go.Proofs.YthfdkonhjpdflaaGreatDoor
open Go.RowKit Go.Proofs.Tryz
set_option linter.unusedVariables false
set_option maxRecDepth 100000
set_option linter.unusedSimpArgs false
set_option maxHeartbeats 16000000
theorem tk {P:Program} {md:Region.Mode} {ops:Array Oper} {Q:Exit→Act→World→Prop} {S:World→Prop} {fuel:Nat} {listed:Array Bool} {a:Act} {w:World} (i:Nat) (oi:Oper) (v:Value) (hi:ops[i]? =some oi)
 (hs:Region.noSelect ops=true) (hf:Region.free md ops listed i=true) (hr:(Region.ready md ops listed).contains i=true)
 (hQ:∀ c a w,Q (.panic c) (a.put oi.dst v) w→Q (.panic c) a w) (hy:YieldsIf P ops S oi v a) (hS:S w)
 (h:wpAnyH P md ops Q S fuel (listed.setIfInBounds i true) (a.put oi.dst v) w):wpAnyH P md ops Q S (fuel+1) listed a w:=wpAnyH_take hi hs hf hr hQ hy hS h
theorem PO (F:List Nat) (p:PK) (ev av cv vv bw:Value) (w:World) (h:wD w F p ev av cv vv bw) (hf:p.fits):
 Calls prog 10 #[.agg (q8 p ev av cv vv bw).toArray] w fun e w'=>e= .returned (.int .i64 (O9 p.okD))∧U1 [] w w':=by
 have k1:=(U1.refl [] w).alloc (.cells (q8 p ev av cv vv bw).toArray 34)
 have r1:=l5.new w 34 (q8 p ev av cv vv bw).toArray
 obtain⟨w1,hw1⟩:∃ w1,w.alloc (.cells (q8 p ev av cv vv bw).toArray 34)=w1:=⟨_,rfl⟩
 rw[hw1] at k1 r1
 have a1:=r1.pk h.rn h.an
 have HW:=U0 hw1
 have HA:=U0 (U2 a1 (U2 (h.over k1) (U2 k1 r1)))
 have HF:=U0 hf
 have x0:=a1.c0
 have x1:=a1.c1
 have x2:=a1.c2
 clear a1 k1 r1 hw1 h hf
 have H1:=U0 (aA p.kind 1 14 w1)
 have H2:=U0 (ZW p.frm w1)
 have H3:=U0 (ZW p.dst w1)
 obtain⟨B1,hB1⟩:∃ B,p.headD=B:=⟨_,rfl⟩
 have HB1:=U0 hB1
 obtain⟨fin,hfin⟩:∃ b,p.okD=b:=⟨_,rfl⟩
 have HF0:=U0 hfin
 rw[hfin]
 clear hfin hB1
 go_enter func10,ntmps10
 go_upto_region 2 with (with_reducible refine Z4 _ _ rfl 34 (.tmp 0) rfl _ rfl HW.o ?_)
 go_cut [4] (fun v4 wx=>v4= .bool B1∧wx=w1)
 case first=>
  have HB2:=U0 (show B1=(qB p.kind 1 14 && (WB p.frm && WB p.dst)) from HB1.o.symm)
  clear HB1
  generalize qB p.kind 1 14=a at*
  generalize WB p.frm=b at*
  generalize WB p.dst=c at*
  cases a<;>cases b<;>cases c
  all_goals
   go_wp2_with (first
    |(go_at_call 67;refine H1.o.mono ?_;rintro e w' ⟨rfl,rfl⟩)
    |(go_at_call 68;with_reducible refine H2.o.mono ?_;rintro e w' ⟨rfl,rfl⟩)
    |(go_at_call 68;with_reducible refine H3.o.mono ?_;rintro e w' ⟨rfl,rfl⟩))
   go_meet
   case rel=>exact⟨by rw[HB2.o];rfl,rfl⟩
 case rest=>
  obtain⟨rfl,rfl⟩:=hcut
  clear x1 x2 H1 H2 H3
  obtain⟨B2,hB2⟩:∃ B,(B1 && (p.numD && (p.seqD && p.balD)))=B:=⟨_,rfl⟩
  have HB2:=U0 hB2
  clear hB2
  have HP:=U0 (fun w' (hk:U1 [] wc w')=>HA.o.1.keep hk (by simp))
  go_upto_region 3 with fail
  go_cut [4] (fun v4 wx=>v4= .bool B2∧U1 [] wc wx)
  case first=>
   clear x0
   refine wp_region_held_drew (S:=U1 [] wc) (by kernel_rfl) (U1.refl [] wc).drew (fun kW=> ?_)
   obtain⟨W0,hW0⟩:∃ W,wc.drew=W:=⟨_,rfl⟩
   rw[hW0] at kW ⊢
   clear hW0
   cases B1
   ·refine T9 0 ⟨_,_,_,_,_,_⟩ _ kW ?_
    try simp only[Act.put,F3,U3,V3]
    refine T9 1 ⟨_,_,_,_,_,_⟩ _ kW ?_
    try simp only[Act.put,F3,U3,V3]
    refine dB 2 ⟨_,_,_,_,_,_⟩ kW ?_
    try simp only[Act.put,F3,U3,V3]
    refine dB 3 ⟨_,_,_,_,_,_⟩ kW ?_
    try simp only[Act.put,F3,U3,V3]
    refine dB 4 ⟨_,_,_,_,_,_⟩ kW ?_
    try simp only[Act.put,F3,U3,V3]
    refine dB 5 ⟨_,_,_,_,_,_⟩ kW ?_
    try simp only[Act.put,F3,U3,V3]
    refine dB 6 ⟨_,_,_,_,_,_⟩ kW ?_
    try simp only[Act.put,F3,U3,V3]
    refine dB 7 ⟨_,_,_,_,_,_⟩ kW ?_
    try simp only[Act.put,F3,U3,V3]
    refine dB 8 ⟨_,_,_,_,_,_⟩ kW ?_
    try simp only[Act.put,F3,U3,V3]
    refine dB 9 ⟨_,_,_,_,_,_⟩ kW ?_
    try simp only[Act.put,F3,U3,V3]
    refine dB 10 ⟨_,_,_,_,_,_⟩ kW ?_
    try simp only[Act.put,F3,U3,V3]
    refine dB 11 ⟨_,_,_,_,_,_⟩ kW ?_
    try simp only[Act.put,F3,U3,V3]
    refine dB 12 ⟨_,_,_,_,_,_⟩ kW ?_
    try simp only[Act.put,F3,U3,V3]
    refine dB 13 ⟨_,_,_,_,_,_⟩ kW ?_
    try simp only[Act.put,F3,U3,V3]
    refine T9 14 ⟨_,_,_,_,_,_⟩ _ kW ?_
    try simp only[Act.put,F3,U3,V3]
    refine T9 15 ⟨_,_,_,_,_,_⟩ _ kW ?_
    try simp only[Act.put,F3,U3,V3]
    refine dB 16 ⟨_,_,_,_,_,_⟩ kW ?_
    try simp only[Act.put,F3,U3,V3]
    refine dB 17 ⟨_,_,_,_,_,_⟩ kW ?_
    try simp only[Act.put,F3,U3,V3]
    refine dB 18 ⟨_,_,_,_,_,_⟩ kW ?_
    try simp only[Act.put,F3,U3,V3]
    refine dB 19 ⟨_,_,_,_,_,_⟩ kW ?_
    try simp only[Act.put,F3,U3,V3]
    refine dB 20 ⟨_,_,_,_,_,_⟩ kW ?_
    try simp only[Act.put,F3,U3,V3]
    refine dB 21 ⟨_,_,_,_,_,_⟩ kW ?_
    try simp only[Act.put,F3,U3,V3]
    refine dB 22 ⟨_,_,_,_,_,_⟩ kW ?_
    try simp only[Act.put,F3,U3,V3]
    refine dB 23 ⟨_,_,_,_,_,_⟩ kW ?_
    try simp only[Act.put,F3,U3,V3]
    refine dB 24 ⟨_,_,_,_,_,_⟩ kW ?_
    try simp only[Act.put,F3,U3,V3]
    refine dB 25 ⟨_,_,_,_,_,_⟩ kW ?_
    try simp only[Act.put,F3,U3,V3]
    refine dB 26 ⟨_,_,_,_,_,_⟩ kW ?_
    try simp only[Act.put,F3,U3,V3]
    refine dB 27 ⟨_,_,_,_,_,_⟩ kW ?_
    try simp only[Act.put,F3,U3,V3]
    refine dB 28 ⟨_,_,_,_,_,_⟩ kW ?_
    try simp only[Act.put,F3,U3,V3]
    refine dB 29 ⟨_,_,_,_,_,_⟩ kW ?_
    try simp only[Act.put,F3,U3,V3]
    refine T9 30 ⟨_,_,_,_,_,_⟩ _ kW ?_
    try simp only[Act.put,F3,U3,V3]
    refine T9 31 ⟨_,_,_,_,_,_⟩ _ kW ?_
    try simp only[Act.put,F3,U3,V3]
    refine dB 32 ⟨_,_,_,_,_,_⟩ kW ?_
    try simp only[Act.put,F3,U3,V3]
    refine dB 33 ⟨_,_,_,_,_,_⟩ kW ?_
    try simp only[Act.put,F3,U3,V3]
    refine dB 34 ⟨_,_,_,_,_,_⟩ kW ?_
    try simp only[Act.put,F3,U3,V3]
    refine dB 35 ⟨_,_,_,_,_,_⟩ kW ?_
    try simp only[Act.put,F3,U3,V3]
    refine dB 36 ⟨_,_,_,_,_,_⟩ kW ?_
    try simp only[Act.put,F3,U3,V3]
    refine dB 37 ⟨_,_,_,_,_,_⟩ kW ?_
    try simp only[Act.put,F3,U3,V3]
    refine dB 38 ⟨_,_,_,_,_,_⟩ kW ?_
    try simp only[Act.put,F3,U3,V3]
    refine dB 39 ⟨_,_,_,_,_,_⟩ kW ?_
    try simp only[Act.put,F3,U3,V3]
    refine dB 40 ⟨_,_,_,_,_,_⟩ kW ?_
    try simp only[Act.put,F3,U3,V3]
    refine dB 41 ⟨_,_,_,_,_,_⟩ kW ?_
    try simp only[Act.put,F3,U3,V3]
    refine dB 42 ⟨_,_,_,_,_,_⟩ kW ?_
    try simp only[Act.put,F3,U3,V3]
    refine dB 43 ⟨_,_,_,_,_,_⟩ kW ?_
    try simp only[Act.put,F3,U3,V3]
    refine T9 44 ⟨_,_,_,_,_,_⟩ _ kW ?_
    try simp only[Act.put,F3,U3,V3]
    refine T9 45 ⟨_,_,_,_,_,_⟩ _ kW ?_
    try simp only[Act.put,F3,U3,V3]
    refine wpAnyH_done (by kernel_rfl) ?_ _
    have HKW:=U0 kW
    clear kW
    have HV:=U0 (show B2=false by rw[←HB2.o];rfl)
    go_wp2_with fail
    go_meet
    case rel=>exact⟨by rw[HV.o],HKW.o⟩
   ·refine T9 0 ⟨_,_,_,_,_,_⟩ _ kW ?_
    try simp only[Act.put,F3,U3,V3]
    refine T9 1 ⟨_,_,_,_,_,_⟩ _ kW ?_
    try simp only[Act.put,F3,U3,V3]
    refine T9 2 ⟨_,_,_,_,_,_⟩ _ kW ?_
    try simp only[Act.put,F3,U3,V3]
    refine (Bool.eq_false_or_eq_true (gH.contains p.kind)).elim (fun h0=> ?_) (fun h0=> ?_)
    focus
     refine wpAnyH_ready (rs:=[3]) (by kernel_rfl) (by simp) ?_
     refine q9 rfl (fun K hK=> ?_)
     go_simp
     refine (RH p.kind _).mono ?_;rintro e w' ⟨rfl,kk⟩
     replace kW:=kW.then kk (by simp)
     clear kk
     rw[h0]
     go_wp2_with fail
     refine hK.out _ _ kW (fun _=> ?_)
     clear hK K
     try simp only[Act.put,F3,U3,V3]
     refine T9 4 ⟨_,_,_,_,_,_⟩ _ kW ?_
     try simp only[Act.put,F3,U3,V3]
     refine T9 5 ⟨_,_,_,_,_,_⟩ _ kW ?_
     try simp only[Act.put,F3,U3,V3]
     refine tk 6 ⟨_,_,_,_,_,_⟩ ?_ rfl (by kernel_rfl) (by kernel_rfl) (by kernel_rfl) (fun _ _ _ h=>h) (Or.inl ⟨by rfl,?_⟩) kW ?_
     rotate_left
     ·intro w' hSw;have xc:=(HP.o w' hSw).c3;clear hSw;(go_simp;try with_reducible rfl)
     try simp only[Act.put,F3,U3,V3]
     refine (Bool.eq_false_or_eq_true (qB p.num 0 9007199254740991)).elim (fun i0=> ?_) (fun i0=> ?_)
     focus
      refine wpAnyH_ready (rs:=[7]) (by kernel_rfl) (by simp) ?_
      refine q9 rfl (fun K hK=> ?_)
      go_simp
      refine (vD p.num _).mono ?_;rintro e w' ⟨rfl,rfl⟩
      rw[i0]
      go_wp2_with fail
      refine hK.out _ _ kW (fun _=> ?_)
      clear hK K
      try simp only[Act.put,F3,U3,V3]
      refine T9 8 ⟨_,_,_,_,_,_⟩ _ kW ?_
      try simp only[Act.put,F3,U3,V3]
      refine T9 9 ⟨_,_,_,_,_,_⟩ _ kW ?_
      try simp only[Act.put,F3,U3,V3]
      refine dB 10 ⟨_,_,_,_,_,_⟩ kW ?_
      try simp only[Act.put,F3,U3,V3]
      refine dB 11 ⟨_,_,_,_,_,_⟩ kW ?_
      try simp only[Act.put,F3,U3,V3]
      refine dB 12 ⟨_,_,_,_,_,_⟩ kW ?_
      try simp only[Act.put,F3,U3,V3]
      refine T9 13 ⟨_,_,_,_,_,_⟩ _ kW ?_
      try simp only[Act.put,F3,U3,V3]
      refine T9 14 ⟨_,_,_,_,_,_⟩ _ kW ?_
      try simp only[Act.put,F3,U3,V3]
      refine T9 15 ⟨_,_,_,_,_,_⟩ _ kW ?_
      try simp only[Act.put,F3,U3,V3]
      have D0:p.numD=true:=by simp only[PK.numD,h0,i0,Bool.true_and,Bool.and_true,Bool.false_and,Bool.and_false,Bool.or_true,Bool.true_or,Bool.or_false,Bool.false_or]
      clear h0 i0
     rotate_left
     focus
      refine wpAnyH_ready (rs:=[7]) (by kernel_rfl) (by simp) ?_
      refine q9 rfl (fun K hK=> ?_)
      go_simp
      refine (vD p.num _).mono ?_;rintro e w' ⟨rfl,rfl⟩
      rw[i0]
      go_wp2_with fail
      refine hK.out _ _ kW (fun _=> ?_)
      clear hK K
      try simp only[Act.put,F3,U3,V3]
      refine T9 8 ⟨_,_,_,_,_,_⟩ _ kW ?_
      try simp only[Act.put,F3,U3,V3]
      refine T9 9 ⟨_,_,_,_,_,_⟩ _ kW ?_
      try simp only[Act.put,F3,U3,V3]
      refine T9 10 ⟨_,_,_,_,_,_⟩ _ kW ?_
      try simp only[Act.put,F3,U3,V3]
      refine tk 11 ⟨_,_,_,_,_,_⟩ ?_ rfl (by kernel_rfl) (by kernel_rfl) (by kernel_rfl) (fun _ _ _ h=>h) (Or.inl ⟨by rfl,?_⟩) kW ?_
      rotate_left
      ·intro w' hSw;have xc:=(HP.o w' hSw).c3;clear hSw;(go_simp;try with_reducible rfl)
      try simp only[Act.put,F3,U3,V3]
      refine (Bool.eq_false_or_eq_true (p.num==0)).elim (fun z0=> ?_) (fun z0=> ?_)
      focus
       refine T9 12 ⟨_,_,_,_,_,_⟩ _ kW ?_
       try simp only[Act.put,F3,U3,V3]
       refine T9 13 ⟨_,_,_,_,_,_⟩ _ kW ?_
       try simp only[Act.put,F3,U3,V3]
       refine T9 14 ⟨_,_,_,_,_,_⟩ _ kW ?_
       try simp only[Act.put,F3,U3,V3]
       refine T9 15 ⟨_,_,_,_,_,_⟩ _ kW ?_
       try simp only[Act.put,F3,U3,V3]
       have D0:p.numD=true:=by simp only[PK.numD,h0,i0,z0,Bool.true_and,Bool.and_true,Bool.false_and,Bool.and_false,Bool.or_true,Bool.true_or,Bool.or_false,Bool.false_or]
       clear h0 i0 z0
      rotate_left
      focus
       refine T9 12 ⟨_,_,_,_,_,_⟩ _ kW ?_
       try simp only[Act.put,F3,U3,V3]
       refine T9 13 ⟨_,_,_,_,_,_⟩ _ kW ?_
       try simp only[Act.put,F3,U3,V3]
       refine T9 14 ⟨_,_,_,_,_,_⟩ _ kW ?_
       try simp only[Act.put,F3,U3,V3]
       refine T9 15 ⟨_,_,_,_,_,_⟩ _ kW ?_
       try simp only[Act.put,F3,U3,V3]
       have D0:p.numD=false:=by simp only[PK.numD,h0,i0,z0,Bool.true_and,Bool.and_true,Bool.false_and,Bool.and_false,Bool.or_true,Bool.true_or,Bool.or_false,Bool.false_or]
       clear h0 i0 z0
       refine dB 16 ⟨_,_,_,_,_,_⟩ kW ?_
       try simp only[Act.put,F3,U3,V3]
       refine dB 17 ⟨_,_,_,_,_,_⟩ kW ?_
       try simp only[Act.put,F3,U3,V3]
       refine dB 18 ⟨_,_,_,_,_,_⟩ kW ?_
       try simp only[Act.put,F3,U3,V3]
       refine dB 19 ⟨_,_,_,_,_,_⟩ kW ?_
       try simp only[Act.put,F3,U3,V3]
       refine dB 20 ⟨_,_,_,_,_,_⟩ kW ?_
       try simp only[Act.put,F3,U3,V3]
       refine dB 21 ⟨_,_,_,_,_,_⟩ kW ?_
       try simp only[Act.put,F3,U3,V3]
       refine dB 22 ⟨_,_,_,_,_,_⟩ kW ?_
       try simp only[Act.put,F3,U3,V3]
       refine dB 23 ⟨_,_,_,_,_,_⟩ kW ?_
       try simp only[Act.put,F3,U3,V3]
       refine dB 24 ⟨_,_,_,_,_,_⟩ kW ?_
       try simp only[Act.put,F3,U3,V3]
       refine dB 25 ⟨_,_,_,_,_,_⟩ kW ?_
       try simp only[Act.put,F3,U3,V3]
       refine dB 26 ⟨_,_,_,_,_,_⟩ kW ?_
       try simp only[Act.put,F3,U3,V3]
       refine dB 27 ⟨_,_,_,_,_,_⟩ kW ?_
       try simp only[Act.put,F3,U3,V3]
       refine dB 28 ⟨_,_,_,_,_,_⟩ kW ?_
       try simp only[Act.put,F3,U3,V3]
       refine dB 29 ⟨_,_,_,_,_,_⟩ kW ?_
       try simp only[Act.put,F3,U3,V3]
       refine T9 30 ⟨_,_,_,_,_,_⟩ _ kW ?_
       try simp only[Act.put,F3,U3,V3]
       refine T9 31 ⟨_,_,_,_,_,_⟩ _ kW ?_
       try simp only[Act.put,F3,U3,V3]
       refine dB 32 ⟨_,_,_,_,_,_⟩ kW ?_
       try simp only[Act.put,F3,U3,V3]
       refine dB 33 ⟨_,_,_,_,_,_⟩ kW ?_
       try simp only[Act.put,F3,U3,V3]
       refine dB 34 ⟨_,_,_,_,_,_⟩ kW ?_
       try simp only[Act.put,F3,U3,V3]
       refine dB 35 ⟨_,_,_,_,_,_⟩ kW ?_
       try simp only[Act.put,F3,U3,V3]
       refine dB 36 ⟨_,_,_,_,_,_⟩ kW ?_
       try simp only[Act.put,F3,U3,V3]
       refine dB 37 ⟨_,_,_,_,_,_⟩ kW ?_
       try simp only[Act.put,F3,U3,V3]
       refine dB 38 ⟨_,_,_,_,_,_⟩ kW ?_
       try simp only[Act.put,F3,U3,V3]
       refine dB 39 ⟨_,_,_,_,_,_⟩ kW ?_
       try simp only[Act.put,F3,U3,V3]
       refine dB 40 ⟨_,_,_,_,_,_⟩ kW ?_
       try simp only[Act.put,F3,U3,V3]
       refine dB 41 ⟨_,_,_,_,_,_⟩ kW ?_
       try simp only[Act.put,F3,U3,V3]
       refine dB 42 ⟨_,_,_,_,_,_⟩ kW ?_
       try simp only[Act.put,F3,U3,V3]
       refine dB 43 ⟨_,_,_,_,_,_⟩ kW ?_
       try simp only[Act.put,F3,U3,V3]
       refine T9 44 ⟨_,_,_,_,_,_⟩ _ kW ?_
       try simp only[Act.put,F3,U3,V3]
       refine T9 45 ⟨_,_,_,_,_,_⟩ _ kW ?_
       try simp only[Act.put,F3,U3,V3]
       refine wpAnyH_done (by kernel_rfl) ?_ _
       have HKW:=U0 kW
       clear kW
       have HV:=U0 (show B2=false by rw[←HB2.o];simp only[D0,Bool.true_and,Bool.and_true,Bool.false_and,Bool.and_false,Bool.or_true,Bool.true_or,Bool.or_false,Bool.false_or])
       go_wp2_with fail
       go_meet
       case rel=>exact⟨by rw[HV.o],HKW.o⟩
    rotate_left 2
    focus
     refine wpAnyH_ready (rs:=[3]) (by kernel_rfl) (by simp) ?_
     refine q9 rfl (fun K hK=> ?_)
     go_simp
     refine (RH p.kind _).mono ?_;rintro e w' ⟨rfl,kk⟩
     replace kW:=kW.then kk (by simp)
     clear kk
     rw[h0]
     go_wp2_with fail
     refine hK.out _ _ kW (fun _=> ?_)
     clear hK K
     try simp only[Act.put,F3,U3,V3]
     refine T9 4 ⟨_,_,_,_,_,_⟩ _ kW ?_
     try simp only[Act.put,F3,U3,V3]
     refine dB 5 ⟨_,_,_,_,_,_⟩ kW ?_
     try simp only[Act.put,F3,U3,V3]
     refine dB 6 ⟨_,_,_,_,_,_⟩ kW ?_
     try simp only[Act.put,F3,U3,V3]
     refine dB 7 ⟨_,_,_,_,_,_⟩ kW ?_
     try simp only[Act.put,F3,U3,V3]
     refine T9 8 ⟨_,_,_,_,_,_⟩ _ kW ?_
     try simp only[Act.put,F3,U3,V3]
     refine T9 9 ⟨_,_,_,_,_,_⟩ _ kW ?_
     try simp only[Act.put,F3,U3,V3]
     refine T9 10 ⟨_,_,_,_,_,_⟩ _ kW ?_
     try simp only[Act.put,F3,U3,V3]
     refine tk 11 ⟨_,_,_,_,_,_⟩ ?_ rfl (by kernel_rfl) (by kernel_rfl) (by kernel_rfl) (fun _ _ _ h=>h) (Or.inl ⟨by rfl,?_⟩) kW ?_
     rotate_left
     ·intro w' hSw;have xc:=(HP.o w' hSw).c3;clear hSw;(go_simp;try with_reducible rfl)
     try simp only[Act.put,F3,U3,V3]
     refine (Bool.eq_false_or_eq_true (p.num==0)).elim (fun z0=> ?_) (fun z0=> ?_)
     focus
      refine T9 12 ⟨_,_,_,_,_,_⟩ _ kW ?_
      try simp only[Act.put,F3,U3,V3]
      refine T9 13 ⟨_,_,_,_,_,_⟩ _ kW ?_
      try simp only[Act.put,F3,U3,V3]
      refine T9 14 ⟨_,_,_,_,_,_⟩ _ kW ?_
      try simp only[Act.put,F3,U3,V3]
      refine T9 15 ⟨_,_,_,_,_,_⟩ _ kW ?_
      try simp only[Act.put,F3,U3,V3]
      have D0:p.numD=true:=by simp only[PK.numD,h0,z0,Bool.true_and,Bool.and_true,Bool.false_and,Bool.and_false,Bool.or_true,Bool.true_or,Bool.or_false,Bool.false_or]
      clear h0 z0
     rotate_left
     focus
      refine T9 12 ⟨_,_,_,_,_,_⟩ _ kW ?_
      try simp only[Act.put,F3,U3,V3]
      refine T9 13 ⟨_,_,_,_,_,_⟩ _ kW ?_
      try simp only[Act.put,F3,U3,V3]
      refine T9 14 ⟨_,_,_,_,_,_⟩ _ kW ?_
      try simp only[Act.put,F3,U3,V3]
      refine T9 15 ⟨_,_,_,_,_,_⟩ _ kW ?_
      try simp only[Act.put,F3,U3,V3]
      have D0:p.numD=false:=by simp only[PK.numD,h0,z0,Bool.true_and,Bool.and_true,Bool.false_and,Bool.and_false,Bool.or_true,Bool.true_or,Bool.or_false,Bool.false_or]
      clear h0 z0
      refine dB 16 ⟨_,_,_,_,_,_⟩ kW ?_
      try simp only[Act.put,F3,U3,V3]
      refine dB 17 ⟨_,_,_,_,_,_⟩ kW ?_
      try simp only[Act.put,F3,U3,V3]
      refine dB 18 ⟨_,_,_,_,_,_⟩ kW ?_
      try simp only[Act.put,F3,U3,V3]
      refine dB 19 ⟨_,_,_,_,_,_⟩ kW ?_
      try simp only[Act.put,F3,U3,V3]
      refine dB 20 ⟨_,_,_,_,_,_⟩ kW ?_
      try simp only[Act.put,F3,U3,V3]
      refine dB 21 ⟨_,_,_,_,_,_⟩ kW ?_
      try simp only[Act.put,F3,U3,V3]
      refine dB 22 ⟨_,_,_,_,_,_⟩ kW ?_
      try simp only[Act.put,F3,U3,V3]
      refine dB 23 ⟨_,_,_,_,_,_⟩ kW ?_
      try simp only[Act.put,F3,U3,V3]
      refine dB 24 ⟨_,_,_,_,_,_⟩ kW ?_
      try simp only[Act.put,F3,U3,V3]
      refine dB 25 ⟨_,_,_,_,_,_⟩ kW ?_
      try simp only[Act.put,F3,U3,V3]
      refine dB 26 ⟨_,_,_,_,_,_⟩ kW ?_
      try simp only[Act.put,F3,U3,V3]
      refine dB 27 ⟨_,_,_,_,_,_⟩ kW ?_
      try simp only[Act.put,F3,U3,V3]
      refine dB 28 ⟨_,_,_,_,_,_⟩ kW ?_
      try simp only[Act.put,F3,U3,V3]
      refine dB 29 ⟨_,_,_,_,_,_⟩ kW ?_
      try simp only[Act.put,F3,U3,V3]
      refine T9 30 ⟨_,_,_,_,_,_⟩ _ kW ?_
      try simp only[Act.put,F3,U3,V3]
      refine T9 31 ⟨_,_,_,_,_,_⟩ _ kW ?_
      try simp only[Act.put,F3,U3,V3]
      refine dB 32 ⟨_,_,_,_,_,_⟩ kW ?_
      try simp only[Act.put,F3,U3,V3]
      refine dB 33 ⟨_,_,_,_,_,_⟩ kW ?_
      try simp only[Act.put,F3,U3,V3]
      refine dB 34 ⟨_,_,_,_,_,_⟩ kW ?_
      try simp only[Act.put,F3,U3,V3]
      refine dB 35 ⟨_,_,_,_,_,_⟩ kW ?_
      try simp only[Act.put,F3,U3,V3]
      refine dB 36 ⟨_,_,_,_,_,_⟩ kW ?_
      try simp only[Act.put,F3,U3,V3]
      refine dB 37 ⟨_,_,_,_,_,_⟩ kW ?_
      try simp only[Act.put,F3,U3,V3]
      refine dB 38 ⟨_,_,_,_,_,_⟩ kW ?_
      try simp only[Act.put,F3,U3,V3]
      refine dB 39 ⟨_,_,_,_,_,_⟩ kW ?_
      try simp only[Act.put,F3,U3,V3]
      refine dB 40 ⟨_,_,_,_,_,_⟩ kW ?_
      try simp only[Act.put,F3,U3,V3]
      refine dB 41 ⟨_,_,_,_,_,_⟩ kW ?_
      try simp only[Act.put,F3,U3,V3]
      refine dB 42 ⟨_,_,_,_,_,_⟩ kW ?_
      try simp only[Act.put,F3,U3,V3]
      refine dB 43 ⟨_,_,_,_,_,_⟩ kW ?_
      try simp only[Act.put,F3,U3,V3]
      refine T9 44 ⟨_,_,_,_,_,_⟩ _ kW ?_
      try simp only[Act.put,F3,U3,V3]
      refine T9 45 ⟨_,_,_,_,_,_⟩ _ kW ?_
      try simp only[Act.put,F3,U3,V3]
      refine wpAnyH_done (by kernel_rfl) ?_ _
      have HKW:=U0 kW
      clear kW
      have HV:=U0 (show B2=false by rw[←HB2.o];simp only[D0,Bool.true_and,Bool.and_true,Bool.false_and,Bool.and_false,Bool.or_true,Bool.true_or,Bool.or_false,Bool.false_or])
      go_wp2_with fail
      go_meet
      case rel=>exact⟨by rw[HV.o],HKW.o⟩
    all_goals
     refine T9 16 ⟨_,_,_,_,_,_⟩ _ kW ?_
     try simp only[Act.put,F3,U3,V3]
     refine (Bool.eq_false_or_eq_true (iH.contains p.kind)).elim (fun h1=> ?_) (fun h1=> ?_)
     focus
      refine wpAnyH_ready (rs:=[17]) (by kernel_rfl) (by simp) ?_
      refine q9 rfl (fun K hK=> ?_)
      go_simp
      refine (SH p.kind _).mono ?_;rintro e w' ⟨rfl,kk⟩
      replace kW:=kW.then kk (by simp)
      clear kk
      rw[h1]
      go_wp2_with fail
      refine hK.out _ _ kW (fun _=> ?_)
      clear hK K
      try simp only[Act.put,F3,U3,V3]
      refine T9 18 ⟨_,_,_,_,_,_⟩ _ kW ?_
      try simp only[Act.put,F3,U3,V3]
      refine T9 19 ⟨_,_,_,_,_,_⟩ _ kW ?_
      try simp only[Act.put,F3,U3,V3]
      refine tk 20 ⟨_,_,_,_,_,_⟩ ?_ rfl (by kernel_rfl) (by kernel_rfl) (by kernel_rfl) (fun _ _ _ h=>h) (Or.inl ⟨by rfl,?_⟩) kW ?_
      rotate_left
      ·intro w' hSw;have xc:=(HP.o w' hSw).c4;clear hSw;(go_simp;try with_reducible rfl)
      try simp only[Act.put,F3,U3,V3]
      refine (Bool.eq_false_or_eq_true (qB p.seq (lG p.kind) 9007199254740990)).elim (fun i1=> ?_) (fun i1=> ?_)
      focus
       refine T9 21 ⟨_,_,_,_,_,_⟩ _ kW ?_
       try simp only[Act.put,F3,U3,V3]
       refine wpAnyH_ready (rs:=[22]) (by kernel_rfl) (by simp) ?_
       refine q9 rfl (fun K hK=> ?_)
       go_simp
       refine (bU p.kind _).mono ?_;rintro e w' ⟨rfl,rfl⟩
       go_wp2_with fail
       refine hK.out _ _ kW (fun _=> ?_)
       clear hK K
       try simp only[Act.put,F3,U3,V3]
       refine wpAnyH_ready (rs:=[23]) (by kernel_rfl) (by simp) ?_
       refine q9 rfl (fun K hK=> ?_)
       go_simp
       refine (aA p.seq (lG p.kind) 9007199254740990 _).mono ?_;rintro e w' ⟨rfl,rfl⟩
       rw[i1]
       go_wp2_with fail
       refine hK.out _ _ kW (fun _=> ?_)
       clear hK K
       try simp only[Act.put,F3,U3,V3]
       refine T9 24 ⟨_,_,_,_,_,_⟩ _ kW ?_
       try simp only[Act.put,F3,U3,V3]
       refine T9 25 ⟨_,_,_,_,_,_⟩ _ kW ?_
       try simp only[Act.put,F3,U3,V3]
       refine dB 26 ⟨_,_,_,_,_,_⟩ kW ?_
       try simp only[Act.put,F3,U3,V3]
       refine dB 27 ⟨_,_,_,_,_,_⟩ kW ?_
       try simp only[Act.put,F3,U3,V3]
       refine dB 28 ⟨_,_,_,_,_,_⟩ kW ?_
       try simp only[Act.put,F3,U3,V3]
       refine T9 29 ⟨_,_,_,_,_,_⟩ _ kW ?_
       try simp only[Act.put,F3,U3,V3]
       refine T9 30 ⟨_,_,_,_,_,_⟩ _ kW ?_
       try simp only[Act.put,F3,U3,V3]
       refine T9 31 ⟨_,_,_,_,_,_⟩ _ kW ?_
       try simp only[Act.put,F3,U3,V3]
       have D1:p.seqD=true:=by simp only[PK.seqD,h1,i1,Bool.true_and,Bool.and_true,Bool.false_and,Bool.and_false,Bool.or_true,Bool.true_or,Bool.or_false,Bool.false_or]
       clear h1 i1
      rotate_left
      focus
       refine T9 21 ⟨_,_,_,_,_,_⟩ _ kW ?_
       try simp only[Act.put,F3,U3,V3]
       refine wpAnyH_ready (rs:=[22]) (by kernel_rfl) (by simp) ?_
       refine q9 rfl (fun K hK=> ?_)
       go_simp
       refine (bU p.kind _).mono ?_;rintro e w' ⟨rfl,rfl⟩
       go_wp2_with fail
       refine hK.out _ _ kW (fun _=> ?_)
       clear hK K
       try simp only[Act.put,F3,U3,V3]
       refine wpAnyH_ready (rs:=[23]) (by kernel_rfl) (by simp) ?_
       refine q9 rfl (fun K hK=> ?_)
       go_simp
       refine (aA p.seq (lG p.kind) 9007199254740990 _).mono ?_;rintro e w' ⟨rfl,rfl⟩
       rw[i1]
       go_wp2_with fail
       refine hK.out _ _ kW (fun _=> ?_)
       clear hK K
       try simp only[Act.put,F3,U3,V3]
       refine T9 24 ⟨_,_,_,_,_,_⟩ _ kW ?_
       try simp only[Act.put,F3,U3,V3]
       refine T9 25 ⟨_,_,_,_,_,_⟩ _ kW ?_
       try simp only[Act.put,F3,U3,V3]
       refine T9 26 ⟨_,_,_,_,_,_⟩ _ kW ?_
       try simp only[Act.put,F3,U3,V3]
       refine tk 27 ⟨_,_,_,_,_,_⟩ ?_ rfl (by kernel_rfl) (by kernel_rfl) (by kernel_rfl) (fun _ _ _ h=>h) (Or.inl ⟨by rfl,?_⟩) kW ?_
       rotate_left
       ·intro w' hSw;have xc:=(HP.o w' hSw).c4;clear hSw;(go_simp;try with_reducible rfl)
       try simp only[Act.put,F3,U3,V3]
       refine (Bool.eq_false_or_eq_true (p.seq==0)).elim (fun z1=> ?_) (fun z1=> ?_)
       focus
        refine T9 28 ⟨_,_,_,_,_,_⟩ _ kW ?_
        try simp only[Act.put,F3,U3,V3]
        refine T9 29 ⟨_,_,_,_,_,_⟩ _ kW ?_
        try simp only[Act.put,F3,U3,V3]
        refine T9 30 ⟨_,_,_,_,_,_⟩ _ kW ?_
        try simp only[Act.put,F3,U3,V3]
        refine T9 31 ⟨_,_,_,_,_,_⟩ _ kW ?_
        try simp only[Act.put,F3,U3,V3]
        have D1:p.seqD=true:=by simp only[PK.seqD,h1,i1,z1,Bool.true_and,Bool.and_true,Bool.false_and,Bool.and_false,Bool.or_true,Bool.true_or,Bool.or_false,Bool.false_or]
        clear h1 i1 z1
       rotate_left
       focus
        refine T9 28 ⟨_,_,_,_,_,_⟩ _ kW ?_
        try simp only[Act.put,F3,U3,V3]
        refine T9 29 ⟨_,_,_,_,_,_⟩ _ kW ?_
        try simp only[Act.put,F3,U3,V3]
        refine T9 30 ⟨_,_,_,_,_,_⟩ _ kW ?_
        try simp only[Act.put,F3,U3,V3]
        refine T9 31 ⟨_,_,_,_,_,_⟩ _ kW ?_
        try simp only[Act.put,F3,U3,V3]
        have D1:p.seqD=false:=by simp only[PK.seqD,h1,i1,z1,Bool.true_and,Bool.and_true,Bool.false_and,Bool.and_false,Bool.or_true,Bool.true_or,Bool.or_false,Bool.false_or]
        clear h1 i1 z1
        refine dB 32 ⟨_,_,_,_,_,_⟩ kW ?_
        try simp only[Act.put,F3,U3,V3]
        refine dB 33 ⟨_,_,_,_,_,_⟩ kW ?_
        try simp only[Act.put,F3,U3,V3]
        refine dB 34 ⟨_,_,_,_,_,_⟩ kW ?_
        try simp only[Act.put,F3,U3,V3]
        refine dB 35 ⟨_,_,_,_,_,_⟩ kW ?_
        try simp only[Act.put,F3,U3,V3]
        refine dB 36 ⟨_,_,_,_,_,_⟩ kW ?_
        try simp only[Act.put,F3,U3,V3]
        refine dB 37 ⟨_,_,_,_,_,_⟩ kW ?_
        try simp only[Act.put,F3,U3,V3]
        refine dB 38 ⟨_,_,_,_,_,_⟩ kW ?_
        try simp only[Act.put,F3,U3,V3]
        refine dB 39 ⟨_,_,_,_,_,_⟩ kW ?_
        try simp only[Act.put,F3,U3,V3]
        refine dB 40 ⟨_,_,_,_,_,_⟩ kW ?_
        try simp only[Act.put,F3,U3,V3]
        refine dB 41 ⟨_,_,_,_,_,_⟩ kW ?_
        try simp only[Act.put,F3,U3,V3]
        refine dB 42 ⟨_,_,_,_,_,_⟩ kW ?_
        try simp only[Act.put,F3,U3,V3]
        refine dB 43 ⟨_,_,_,_,_,_⟩ kW ?_
        try simp only[Act.put,F3,U3,V3]
        refine T9 44 ⟨_,_,_,_,_,_⟩ _ kW ?_
        try simp only[Act.put,F3,U3,V3]
        refine T9 45 ⟨_,_,_,_,_,_⟩ _ kW ?_
        try simp only[Act.put,F3,U3,V3]
        refine wpAnyH_done (by kernel_rfl) ?_ _
        have HKW:=U0 kW
        clear kW
        have HV:=U0 (show B2=false by rw[←HB2.o];simp only[D0,D1,Bool.true_and,Bool.and_true,Bool.false_and,Bool.and_false,Bool.or_true,Bool.true_or,Bool.or_false,Bool.false_or])
        go_wp2_with fail
        go_meet
        case rel=>exact⟨by rw[HV.o],HKW.o⟩
     rotate_left 2
     focus
      refine wpAnyH_ready (rs:=[17]) (by kernel_rfl) (by simp) ?_
      refine q9 rfl (fun K hK=> ?_)
      go_simp
      refine (SH p.kind _).mono ?_;rintro e w' ⟨rfl,kk⟩
      replace kW:=kW.then kk (by simp)
      clear kk
      rw[h1]
      go_wp2_with fail
      refine hK.out _ _ kW (fun _=> ?_)
      clear hK K
      try simp only[Act.put,F3,U3,V3]
      refine T9 18 ⟨_,_,_,_,_,_⟩ _ kW ?_
      try simp only[Act.put,F3,U3,V3]
      refine dB 19 ⟨_,_,_,_,_,_⟩ kW ?_
      try simp only[Act.put,F3,U3,V3]
      refine dB 20 ⟨_,_,_,_,_,_⟩ kW ?_
      try simp only[Act.put,F3,U3,V3]
      refine dB 21 ⟨_,_,_,_,_,_⟩ kW ?_
      try simp only[Act.put,F3,U3,V3]
      refine dB 22 ⟨_,_,_,_,_,_⟩ kW ?_
      try simp only[Act.put,F3,U3,V3]
      refine dB 23 ⟨_,_,_,_,_,_⟩ kW ?_
      try simp only[Act.put,F3,U3,V3]
      refine T9 24 ⟨_,_,_,_,_,_⟩ _ kW ?_
      try simp only[Act.put,F3,U3,V3]
      refine T9 25 ⟨_,_,_,_,_,_⟩ _ kW ?_
      try simp only[Act.put,F3,U3,V3]
      refine T9 26 ⟨_,_,_,_,_,_⟩ _ kW ?_
      try simp only[Act.put,F3,U3,V3]
      refine tk 27 ⟨_,_,_,_,_,_⟩ ?_ rfl (by kernel_rfl) (by kernel_rfl) (by kernel_rfl) (fun _ _ _ h=>h) (Or.inl ⟨by rfl,?_⟩) kW ?_
      rotate_left
      ·intro w' hSw;have xc:=(HP.o w' hSw).c4;clear hSw;(go_simp;try with_reducible rfl)
      try simp only[Act.put,F3,U3,V3]
      refine (Bool.eq_false_or_eq_true (p.seq==0)).elim (fun z1=> ?_) (fun z1=> ?_)
      focus
       refine T9 28 ⟨_,_,_,_,_,_⟩ _ kW ?_
       try simp only[Act.put,F3,U3,V3]
       refine T9 29 ⟨_,_,_,_,_,_⟩ _ kW ?_
       try simp only[Act.put,F3,U3,V3]
       refine T9 30 ⟨_,_,_,_,_,_⟩ _ kW ?_
       try simp only[Act.put,F3,U3,V3]
       refine T9 31 ⟨_,_,_,_,_,_⟩ _ kW ?_
       try simp only[Act.put,F3,U3,V3]
       have D1:p.seqD=true:=by simp only[PK.seqD,h1,z1,Bool.true_and,Bool.and_true,Bool.false_and,Bool.and_false,Bool.or_true,Bool.true_or,Bool.or_false,Bool.false_or]
       clear h1 z1
      rotate_left
      focus
       refine T9 28 ⟨_,_,_,_,_,_⟩ _ kW ?_
       try simp only[Act.put,F3,U3,V3]
       refine T9 29 ⟨_,_,_,_,_,_⟩ _ kW ?_
       try simp only[Act.put,F3,U3,V3]
       refine T9 30 ⟨_,_,_,_,_,_⟩ _ kW ?_
       try simp only[Act.put,F3,U3,V3]
       refine T9 31 ⟨_,_,_,_,_,_⟩ _ kW ?_
       try simp only[Act.put,F3,U3,V3]
       have D1:p.seqD=false:=by simp only[PK.seqD,h1,z1,Bool.true_and,Bool.and_true,Bool.false_and,Bool.and_false,Bool.or_true,Bool.true_or,Bool.or_false,Bool.false_or]
       clear h1 z1
       refine dB 32 ⟨_,_,_,_,_,_⟩ kW ?_
       try simp only[Act.put,F3,U3,V3]
       refine dB 33 ⟨_,_,_,_,_,_⟩ kW ?_
       try simp only[Act.put,F3,U3,V3]
       refine dB 34 ⟨_,_,_,_,_,_⟩ kW ?_
       try simp only[Act.put,F3,U3,V3]
       refine dB 35 ⟨_,_,_,_,_,_⟩ kW ?_
       try simp only[Act.put,F3,U3,V3]
       refine dB 36 ⟨_,_,_,_,_,_⟩ kW ?_
       try simp only[Act.put,F3,U3,V3]
       refine dB 37 ⟨_,_,_,_,_,_⟩ kW ?_
       try simp only[Act.put,F3,U3,V3]
       refine dB 38 ⟨_,_,_,_,_,_⟩ kW ?_
       try simp only[Act.put,F3,U3,V3]
       refine dB 39 ⟨_,_,_,_,_,_⟩ kW ?_
       try simp only[Act.put,F3,U3,V3]
       refine dB 40 ⟨_,_,_,_,_,_⟩ kW ?_
       try simp only[Act.put,F3,U3,V3]
       refine dB 41 ⟨_,_,_,_,_,_⟩ kW ?_
       try simp only[Act.put,F3,U3,V3]
       refine dB 42 ⟨_,_,_,_,_,_⟩ kW ?_
       try simp only[Act.put,F3,U3,V3]
       refine dB 43 ⟨_,_,_,_,_,_⟩ kW ?_
       try simp only[Act.put,F3,U3,V3]
       refine T9 44 ⟨_,_,_,_,_,_⟩ _ kW ?_
       try simp only[Act.put,F3,U3,V3]
       refine T9 45 ⟨_,_,_,_,_,_⟩ _ kW ?_
       try simp only[Act.put,F3,U3,V3]
       refine wpAnyH_done (by kernel_rfl) ?_ _
       have HKW:=U0 kW
       clear kW
       have HV:=U0 (show B2=false by rw[←HB2.o];simp only[D0,D1,Bool.true_and,Bool.and_true,Bool.false_and,Bool.and_false,Bool.or_true,Bool.true_or,Bool.or_false,Bool.false_or])
       go_wp2_with fail
       go_meet
       case rel=>exact⟨by rw[HV.o],HKW.o⟩
     all_goals
      refine T9 32 ⟨_,_,_,_,_,_⟩ _ kW ?_
      try simp only[Act.put,F3,U3,V3]
      refine (Bool.eq_false_or_eq_true (DC.contains p.kind)).elim (fun h2=> ?_) (fun h2=> ?_)
      focus
       refine wpAnyH_ready (rs:=[33]) (by kernel_rfl) (by simp) ?_
       refine q9 rfl (fun K hK=> ?_)
       go_simp
       refine (gF p.kind _).mono ?_;rintro e w' ⟨rfl,kk⟩
       replace kW:=kW.then kk (by simp)
       clear kk
       rw[h2]
       go_wp2_with fail
       refine hK.out _ _ kW (fun _=> ?_)
       clear hK K
       try simp only[Act.put,F3,U3,V3]
       refine T9 34 ⟨_,_,_,_,_,_⟩ _ kW ?_
       try simp only[Act.put,F3,U3,V3]
       refine T9 35 ⟨_,_,_,_,_,_⟩ _ kW ?_
       try simp only[Act.put,F3,U3,V3]
       refine tk 36 ⟨_,_,_,_,_,_⟩ ?_ rfl (by kernel_rfl) (by kernel_rfl) (by kernel_rfl) (fun _ _ _ h=>h) (Or.inl ⟨by rfl,?_⟩) kW ?_
       rotate_left
       ·intro w' hSw;have xc:=(HP.o w' hSw).c5;clear hSw;(go_simp;try with_reducible rfl)
       try simp only[Act.put,F3,U3,V3]
       refine (Bool.eq_false_or_eq_true (qB p.ballot 0 9007199254740991)).elim (fun i2=> ?_) (fun i2=> ?_)
       focus
        refine wpAnyH_ready (rs:=[37]) (by kernel_rfl) (by simp) ?_
        refine q9 rfl (fun K hK=> ?_)
        go_simp
        refine (vD p.ballot _).mono ?_;rintro e w' ⟨rfl,rfl⟩
        rw[i2]
        go_wp2_with fail
        refine hK.out _ _ kW (fun _=> ?_)
        clear hK K
        try simp only[Act.put,F3,U3,V3]
        refine T9 38 ⟨_,_,_,_,_,_⟩ _ kW ?_
        try simp only[Act.put,F3,U3,V3]
        refine T9 39 ⟨_,_,_,_,_,_⟩ _ kW ?_
        try simp only[Act.put,F3,U3,V3]
        refine dB 40 ⟨_,_,_,_,_,_⟩ kW ?_
        try simp only[Act.put,F3,U3,V3]
        refine dB 41 ⟨_,_,_,_,_,_⟩ kW ?_
        try simp only[Act.put,F3,U3,V3]
        refine dB 42 ⟨_,_,_,_,_,_⟩ kW ?_
        try simp only[Act.put,F3,U3,V3]
        refine T9 43 ⟨_,_,_,_,_,_⟩ _ kW ?_
        try simp only[Act.put,F3,U3,V3]
        refine T9 44 ⟨_,_,_,_,_,_⟩ _ kW ?_
        try simp only[Act.put,F3,U3,V3]
        refine T9 45 ⟨_,_,_,_,_,_⟩ _ kW ?_
        try simp only[Act.put,F3,U3,V3]
        have D2:p.balD=true:=by simp only[PK.balD,h2,i2,Bool.true_and,Bool.and_true,Bool.false_and,Bool.and_false,Bool.or_true,Bool.true_or,Bool.or_false,Bool.false_or]
        clear h2 i2
       rotate_left
       focus
        refine wpAnyH_ready (rs:=[37]) (by kernel_rfl) (by simp) ?_
        refine q9 rfl (fun K hK=> ?_)
        go_simp
        refine (vD p.ballot _).mono ?_;rintro e w' ⟨rfl,rfl⟩
        rw[i2]
        go_wp2_with fail
        refine hK.out _ _ kW (fun _=> ?_)
        clear hK K
        try simp only[Act.put,F3,U3,V3]
        refine T9 38 ⟨_,_,_,_,_,_⟩ _ kW ?_
        try simp only[Act.put,F3,U3,V3]
        refine T9 39 ⟨_,_,_,_,_,_⟩ _ kW ?_
        try simp only[Act.put,F3,U3,V3]
        refine T9 40 ⟨_,_,_,_,_,_⟩ _ kW ?_
        try simp only[Act.put,F3,U3,V3]
        refine tk 41 ⟨_,_,_,_,_,_⟩ ?_ rfl (by kernel_rfl) (by kernel_rfl) (by kernel_rfl) (fun _ _ _ h=>h) (Or.inl ⟨by rfl,?_⟩) kW ?_
        rotate_left
        ·intro w' hSw;have xc:=(HP.o w' hSw).c5;clear hSw;(go_simp;try with_reducible rfl)
        try simp only[Act.put,F3,U3,V3]
        refine (Bool.eq_false_or_eq_true (p.ballot==0)).elim (fun z2=> ?_) (fun z2=> ?_)
        focus
         refine T9 42 ⟨_,_,_,_,_,_⟩ _ kW ?_
         try simp only[Act.put,F3,U3,V3]
         refine T9 43 ⟨_,_,_,_,_,_⟩ _ kW ?_
         try simp only[Act.put,F3,U3,V3]
         refine T9 44 ⟨_,_,_,_,_,_⟩ _ kW ?_
         try simp only[Act.put,F3,U3,V3]
         refine T9 45 ⟨_,_,_,_,_,_⟩ _ kW ?_
         try simp only[Act.put,F3,U3,V3]
         have D2:p.balD=true:=by simp only[PK.balD,h2,i2,z2,Bool.true_and,Bool.and_true,Bool.false_and,Bool.and_false,Bool.or_true,Bool.true_or,Bool.or_false,Bool.false_or]
         clear h2 i2 z2
        rotate_left
        focus
         refine T9 42 ⟨_,_,_,_,_,_⟩ _ kW ?_
         try simp only[Act.put,F3,U3,V3]
         refine T9 43 ⟨_,_,_,_,_,_⟩ _ kW ?_
         try simp only[Act.put,F3,U3,V3]
         refine T9 44 ⟨_,_,_,_,_,_⟩ _ kW ?_
         try simp only[Act.put,F3,U3,V3]
         refine T9 45 ⟨_,_,_,_,_,_⟩ _ kW ?_
         try simp only[Act.put,F3,U3,V3]
         have D2:p.balD=false:=by simp only[PK.balD,h2,i2,z2,Bool.true_and,Bool.and_true,Bool.false_and,Bool.and_false,Bool.or_true,Bool.true_or,Bool.or_false,Bool.false_or]
         clear h2 i2 z2
         refine wpAnyH_done (by kernel_rfl) ?_ _
         have HKW:=U0 kW
         clear kW
         have HV:=U0 (show B2=false by rw[←HB2.o];simp only[D0,D1,D2,Bool.true_and,Bool.and_true,Bool.false_and,Bool.and_false,Bool.or_true,Bool.true_or,Bool.or_false,Bool.false_or])
         go_wp2_with fail
         go_meet
         case rel=>exact⟨by rw[HV.o],HKW.o⟩
      rotate_left 2
      focus
       refine wpAnyH_ready (rs:=[33]) (by kernel_rfl) (by simp) ?_
       refine q9 rfl (fun K hK=> ?_)
       go_simp
       refine (gF p.kind _).mono ?_;rintro e w' ⟨rfl,kk⟩
       replace kW:=kW.then kk (by simp)
       clear kk
       rw[h2]
       go_wp2_with fail
       refine hK.out _ _ kW (fun _=> ?_)
       clear hK K
       try simp only[Act.put,F3,U3,V3]
       refine T9 34 ⟨_,_,_,_,_,_⟩ _ kW ?_
       try simp only[Act.put,F3,U3,V3]
       refine dB 35 ⟨_,_,_,_,_,_⟩ kW ?_
       try simp only[Act.put,F3,U3,V3]
       refine dB 36 ⟨_,_,_,_,_,_⟩ kW ?_
       try simp only[Act.put,F3,U3,V3]
       refine dB 37 ⟨_,_,_,_,_,_⟩ kW ?_
       try simp only[Act.put,F3,U3,V3]
       refine T9 38 ⟨_,_,_,_,_,_⟩ _ kW ?_
       try simp only[Act.put,F3,U3,V3]
       refine T9 39 ⟨_,_,_,_,_,_⟩ _ kW ?_
       try simp only[Act.put,F3,U3,V3]
       refine T9 40 ⟨_,_,_,_,_,_⟩ _ kW ?_
       try simp only[Act.put,F3,U3,V3]
       refine tk 41 ⟨_,_,_,_,_,_⟩ ?_ rfl (by kernel_rfl) (by kernel_rfl) (by kernel_rfl) (fun _ _ _ h=>h) (Or.inl ⟨by rfl,?_⟩) kW ?_
       rotate_left
       ·intro w' hSw;have xc:=(HP.o w' hSw).c5;clear hSw;(go_simp;try with_reducible rfl)
       try simp only[Act.put,F3,U3,V3]
       refine (Bool.eq_false_or_eq_true (p.ballot==0)).elim (fun z2=> ?_) (fun z2=> ?_)
       focus
        refine T9 42 ⟨_,_,_,_,_,_⟩ _ kW ?_
        try simp only[Act.put,F3,U3,V3]
        refine T9 43 ⟨_,_,_,_,_,_⟩ _ kW ?_
        try simp only[Act.put,F3,U3,V3]
        refine T9 44 ⟨_,_,_,_,_,_⟩ _ kW ?_
        try simp only[Act.put,F3,U3,V3]
        refine T9 45 ⟨_,_,_,_,_,_⟩ _ kW ?_
        try simp only[Act.put,F3,U3,V3]
        have D2:p.balD=true:=by simp only[PK.balD,h2,z2,Bool.true_and,Bool.and_true,Bool.false_and,Bool.and_false,Bool.or_true,Bool.true_or,Bool.or_false,Bool.false_or]
        clear h2 z2
       rotate_left
       focus
        refine T9 42 ⟨_,_,_,_,_,_⟩ _ kW ?_
        try simp only[Act.put,F3,U3,V3]
        refine T9 43 ⟨_,_,_,_,_,_⟩ _ kW ?_
        try simp only[Act.put,F3,U3,V3]
        refine T9 44 ⟨_,_,_,_,_,_⟩ _ kW ?_
        try simp only[Act.put,F3,U3,V3]
        refine T9 45 ⟨_,_,_,_,_,_⟩ _ kW ?_
        try simp only[Act.put,F3,U3,V3]
        have D2:p.balD=false:=by simp only[PK.balD,h2,z2,Bool.true_and,Bool.and_true,Bool.false_and,Bool.and_false,Bool.or_true,Bool.true_or,Bool.or_false,Bool.false_or]
        clear h2 z2
        refine wpAnyH_done (by kernel_rfl) ?_ _
        have HKW:=U0 kW
        clear kW
        have HV:=U0 (show B2=false by rw[←HB2.o];simp only[D0,D1,D2,Bool.true_and,Bool.and_true,Bool.false_and,Bool.and_false,Bool.or_true,Bool.true_or,Bool.or_false,Bool.false_or])
        go_wp2_with fail
        go_meet
        case rel=>exact⟨by rw[HV.o],HKW.o⟩
      all_goals
       refine wpAnyH_done (by kernel_rfl) ?_ _
       have HKW:=U0 kW
       clear kW
       have HV:=U0 (show B2=true by rw[←HB2.o];simp only[D0,D1,D2,Bool.true_and,Bool.and_true,Bool.false_and,Bool.and_false,Bool.or_true,Bool.true_or,Bool.or_false,Bool.false_or])
       go_wp2_with fail
       go_meet
       case rel=>exact⟨by rw[HV.o],HKW.o⟩
  case rest=>
   obtain⟨rfl,hk⟩:=hcut
   have HA2:=U0 (U2 (HA.o.1.keep hk (by simp)) (U2 (HA.o.2.1.over hk) (U2 (HA.o.2.2.1.then hk (by simp)) (hk.row HA.o.2.2.2 (by simp)))))
   clear hk
   have x6:=HA2.o.1.c6
   have HP2:=U0 (qP F p ev av cv vv bw wc HA2.o.2.1 HF.o)
   have HI:=U0 (show (prog.info? 34).map (·.size)=some (q8 p ev av cv vv bw).length by rw[G8 HA2.o.2.1.rn HA2.o.2.1.an];exact I5)
   obtain⟨PD,hPD⟩:∃ b,p.partsD=b:=⟨_,rfl⟩
   rw[hPD] at HP2
   obtain⟨rd,hrd⟩:∃ b,p.ready=b:=⟨_,rfl⟩
   rw[hrd] at x6
   have HFN:=U0 (show fin=((B2 && ((p.kind==8)|| !rd)) && PD) by rw[←HF0.o,←HB2.o,←HB1.o,←hrd,←hPD];rfl)
   clear hPD hrd HB2 HP HF
   rcases Bool.eq_false_or_eq_true (p.kind==8) with g8|g8
   all_goals
    rw[g8] at HFN
    cases B2
    ·have HFE:=U0 (show fin=false by rw[HFN.o];rfl)
     go_wp2_with (go_at_call 71;refine (eD _ _).mono ?_;rintro e w' ⟨rfl,rfl⟩)
     go_ret
     exact⟨by rw[HFE.o];rfl,HA2.o.2.2.1⟩
    ·cases rd<;>cases PD
     all_goals
      go_wp2_with (first
       |(refine j5 34 (.tmp 1) rfl w.heap.size 0 rfl (q8 p ev av cv vv bw) _ HA2.o.2.2.2.rangeAll underlying34 rfl HI.o ?_ ?_;·rfl)
       |(go_at_call 72;refine HP2.o.mono ?_;rintro e w' ⟨rfl,k3⟩;have HK3:=U0 (HA2.o.2.2.1.then k3 (by simp));clear k3 x6)
       |(go_at_call 71;refine (eD _ _).mono ?_;rintro e w' ⟨rfl,rfl⟩))
      go_ret
      first|exact⟨by rw[HFN.o];rfl,HK3.o⟩|exact⟨by rw[HFN.o];rfl,HA2.o.2.2.1⟩
end Go.Proofs.YthfdkonhjpdflaaGreatDoor
