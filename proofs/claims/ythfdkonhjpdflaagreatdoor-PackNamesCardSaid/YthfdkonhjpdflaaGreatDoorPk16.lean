import Derived.Test.YthfdkonhjpdflaaGreatDoorPk15
namespace Go.Proofs.YthfdkonhjpdflaaGreatDoor
open Go.RowKit Go.Proofs.Tryz
set_option linter.unusedVariables false
set_option maxRecDepth 100000
set_option maxHeartbeats 32000000
def PK.parts (p:PK) (h:Int):Bool:=qB p.num 0 9007199254740991 && (qB p.ballot 0 9007199254740991 && (JI p.kind p.seq && (decide (p.bytes.length≤32768) && (((U6 h 16==0)||p.req.ok) && (((U6 h 32==0)||p.ans.ok) && (((U6 h 64==0)||p.conf.ok) && JB p.votes))))))
def PK.ok (p:PK):Bool:= !(l6 p.kind==0) && (WB p.frm && (WB p.dst && (p.same (p.cut (l6 p.kind)) && p.parts (l6 p.kind))))
theorem SE {b:Bool} {A B:Prop} (hb:b=false) (h:B):if b=true then A else B:=by rw[if_neg (by simp[hb])];exact h
def OA (n:Int):Prop:= -9223372036854775808≤n∧n≤9223372036854775807
theorem gD (F:List Nat) (p:PK) (ev av cv vv bw:Value) (w:World) (h:wD w F p ev av cv vv bw) (hfl:zB w) (hb1:OA p.frm) (hb2:OA p.dst):
 Calls prog 9 #[.agg (q8 p ev av cv vv bw).toArray] w fun e w'=>e= .returned (.int .i64 (O9 p.ok))∧U1 [] w w':=by
 obtain⟨hb1,hb1'⟩:=hb1
 obtain⟨hb2,hb2'⟩:=hb2
 have k1:=(U1.refl [] w).alloc (.cells (q8 p ev av cv vv bw).toArray 34)
 have r1:=l5.new w 34 (q8 p ev av cv vv bw).toArray
 have hv:=h.over k1
 obtain⟨w1,hw1⟩:∃ w1,w.alloc (.cells (q8 p ev av cv vv bw).toArray 34)=w1:=⟨_,rfl⟩
 rw[hw1] at k1 r1 hv
 have hrn:=h.rn
 have han:=h.an
 have HIp:=U0 (show (prog.info? 34).map (·.size)=some (q8 p ev av cv vv bw).length by rw[G8 hrn han];exact I5)
 have HIr:=U0 (show (prog.info? 26).map (·.size)=some (U8 p.req ev).length by rw[O8 hrn];exact D9)
 have HIa:=U0 (show (prog.info? 28).map (·.size)=some (x9 p.ans av).length by rw[y9 han];exact Q9)
 have HF:=U0 (jG p.kind w1 (hfl.keep k1 (by simp)))
 have HP:=U0 (fun w' (hk:U1 [] w1 w')=>(hk.row r1 (by simp)).pk hrn han)
 have HPA:=U0 (fun w' (hk:U1 [] w1 w')=>(hk.row r1 (by simp)).rangeAll)
 have HN1:=U0 (QJ p.frm hb1 hb1')
 have HN2:=U0 (QJ p.dst hb2 hb2')
 have HRD:=U0 (fun w' (hk:U1 [] w1 w') n=>aO F p ev av cv vv bw n w' (hv.over hk))
 have HSM:=U0 (fun w' (hk:U1 [] w1 w') n=>pF F F p (p.cut n) ev av cv vv bw _ _ _ _ _ w' (hv.over hk) ((hv.over hk).cut n))
 have HCQ:=U0 (fun w' (hk:U1 [] w1 w')=>fD F p.req ev w' ⟨hrn,(hv.over hk).re⟩)
 have HCA:=U0 (fun w' (hk:U1 [] w1 w')=>LD F p.ans av w' ⟨han,(hv.over hk).ae⟩)
 have HCC:=U0 (fun w' (hk:U1 [] w1 w')=>tC F p.conf cv w' (hv.over hk).cc)
 have HCV:=U0 (fun w' (hk:U1 [] w1 w')=>DJ F p.votes vv w' (hv.over hk).vs)
 have HS0:=U0 (show p.ok=(!(l6 p.kind==0) && (WB p.frm && (WB p.dst && (p.same (p.cut (l6 p.kind)) && (qB p.num 0 9007199254740991 && (qB p.ballot 0 9007199254740991 && (JI p.kind p.seq && (decide (p.bytes.length≤32768) && (((U6 (l6 p.kind) 16==0)||p.req.ok) && (((U6 (l6 p.kind) 32==0)||p.ans.ok) && (((U6 (l6 p.kind) 64==0)||p.conf.ok) && JB p.votes))))))))))) from rfl)
 have HW:=U0 (U2 hw1 k1)
 obtain⟨A3,k3,g3,rfl,_⟩:=id hv.cc
 obtain⟨A4,k4,g4,T4,rfl,_⟩:=id hv.vs
 obtain⟨A5,k5,g5,rfl,_,hk5,_⟩:=id hv.bs
 obtain⟨L3,hL3⟩:∃ L,p.conf.chain.length=L:=⟨_,rfl⟩
 obtain⟨L4,hL4⟩:∃ L,p.votes.length=L:=⟨_,rfl⟩
 obtain⟨L5,hL5⟩:∃ L,p.bytes.length=L:=⟨_,rfl⟩
 rw[hL3,hL4,hL5] at HIp HP HPA HRD HSM HW
 rw[hL3] at HCC
 rw[hL4] at HCV
 rw[hL5] at HS0
 rw[hL3,hL4,hL5]
 have hb5:L5≤9223372036854775807:=by unfold maxLen at hk5;omega
 generalize l6 p.kind=H at*
 generalize p.ok=ok at*
 clear hL3 hL4 hL5 k1 r1 hv hw1 hrn han h hfl hb1 hb1' hb2 hb2' hk5
 have HE:=U0 (HP.o w1 (U1.refl _ _)).c0
 by_cases hH:H=0
 ·subst hH
  have HS:=U0 (show ok=false by rw[HS0.o];simp[])
  clear HS0
  go_enter func9,ntmps9
  have x0:=HE.o
  go_upto_region 2 with (first
   |(with_reducible refine Z4 _ _ rfl 34 (.tmp 0) rfl _ rfl HW.o.1 ?_)
   |(go_at_call 40;refine HF.o.mono ?_;rintro e w' ⟨rfl,rfl⟩))
  clear x0
  refine wp_region_held_drew (S:=U1 [] w1) (by kernel_rfl) (U1.refl [] w1).drew (fun kW=> ?_)
  obtain⟨W0,hW0⟩:∃ W,w1.drew=W:=⟨_,rfl⟩
  rw[hW0] at kW ⊢
  clear hW0
  refine T9 0 ⟨_,_,_,_,_,_⟩ _ kW ?_
  try simp only[Act.put,F3,U3,V3]
  refine T9 1 ⟨_,_,_,_,_,_⟩ _ kW ?_
  try simp only[Act.put,F3,U3,V3]
  refine T9 2 ⟨_,_,_,_,_,_⟩ _ kW ?_
  try simp only[Act.put,F3,U3,V3]
  refine wpAnyH_take (i:=3) (oi:=⟨_,_,_,_,_,_⟩) (v:=undef) rfl (by kernel_rfl) (by kernel_rfl) (by kernel_rfl) (fun _ _ _ h=>h) (Or.inr ⟨by rfl,rfl⟩) kW ?_
  try simp only[Act.put,F3,U3,V3]
  refine wpAnyH_take (i:=4) (oi:=⟨_,_,_,_,_,_⟩) (v:=undef) rfl (by kernel_rfl) (by kernel_rfl) (by kernel_rfl) (fun _ _ _ h=>h) (Or.inr ⟨by rfl,rfl⟩) kW ?_
  try simp only[Act.put,F3,U3,V3]
  refine wpAnyH_ready (rs:=[5]) (by kernel_rfl) (by simp) ?_
  refine q9 rfl (fun K hK=> ?_)
  refine SE ?_ ?_
  ·rfl
  refine hK.out _ _ kW (fun _=> ?_)
  clear hK K
  try simp only[Act.put,F3,U3,V3]
  refine wpAnyH_take (i:=6) (oi:=⟨_,_,_,_,_,_⟩) (v:=undef) rfl (by kernel_rfl) (by kernel_rfl) (by kernel_rfl) (fun _ _ _ h=>h) (Or.inr ⟨by rfl,rfl⟩) kW ?_
  try simp only[Act.put,F3,U3,V3]
  refine T9 7 ⟨_,_,_,_,_,_⟩ _ kW ?_
  try simp only[Act.put,F3,U3,V3]
  refine T9 8 ⟨_,_,_,_,_,_⟩ _ kW ?_
  try simp only[Act.put,F3,U3,V3]
  refine wpAnyH_take (i:=9) (oi:=⟨_,_,_,_,_,_⟩) (v:=undef) rfl (by kernel_rfl) (by kernel_rfl) (by kernel_rfl) (fun _ _ _ h=>h) (Or.inr ⟨by rfl,rfl⟩) kW ?_
  try simp only[Act.put,F3,U3,V3]
  refine wpAnyH_take (i:=10) (oi:=⟨_,_,_,_,_,_⟩) (v:=undef) rfl (by kernel_rfl) (by kernel_rfl) (by kernel_rfl) (fun _ _ _ h=>h) (Or.inr ⟨by rfl,rfl⟩) kW ?_
  try simp only[Act.put,F3,U3,V3]
  refine wpAnyH_ready (rs:=[11]) (by kernel_rfl) (by simp) ?_
  refine q9 rfl (fun K hK=> ?_)
  refine SE ?_ ?_
  ·rfl
  refine hK.out _ _ kW (fun _=> ?_)
  clear hK K
  try simp only[Act.put,F3,U3,V3]
  refine wpAnyH_take (i:=12) (oi:=⟨_,_,_,_,_,_⟩) (v:=undef) rfl (by kernel_rfl) (by kernel_rfl) (by kernel_rfl) (fun _ _ _ h=>h) (Or.inr ⟨by rfl,rfl⟩) kW ?_
  try simp only[Act.put,F3,U3,V3]
  refine T9 13 ⟨_,_,_,_,_,_⟩ _ kW ?_
  try simp only[Act.put,F3,U3,V3]
  refine T9 14 ⟨_,_,_,_,_,_⟩ _ kW ?_
  try simp only[Act.put,F3,U3,V3]
  refine wpAnyH_take (i:=15) (oi:=⟨_,_,_,_,_,_⟩) (v:=undef) rfl (by kernel_rfl) (by kernel_rfl) (by kernel_rfl) (fun _ _ _ h=>h) (Or.inr ⟨by rfl,rfl⟩) kW ?_
  try simp only[Act.put,F3,U3,V3]
  refine wpAnyH_take (i:=16) (oi:=⟨_,_,_,_,_,_⟩) (v:=undef) rfl (by kernel_rfl) (by kernel_rfl) (by kernel_rfl) (fun _ _ _ h=>h) (Or.inr ⟨by rfl,rfl⟩) kW ?_
  try simp only[Act.put,F3,U3,V3]
  refine wpAnyH_take (i:=17) (oi:=⟨_,_,_,_,_,_⟩) (v:=undef) rfl (by kernel_rfl) (by kernel_rfl) (by kernel_rfl) (fun _ _ _ h=>h) (Or.inr ⟨by rfl,rfl⟩) kW ?_
  try simp only[Act.put,F3,U3,V3]
  refine wpAnyH_ready (rs:=[18]) (by kernel_rfl) (by simp) ?_
  refine q9 rfl (fun K hK=> ?_)
  refine SE ?_ ?_
  ·rfl
  refine hK.out _ _ kW (fun _=> ?_)
  clear hK K
  try simp only[Act.put,F3,U3,V3]
  refine wpAnyH_ready (rs:=[19]) (by kernel_rfl) (by simp) ?_
  refine q9 rfl (fun K hK=> ?_)
  refine SE ?_ ?_
  ·rfl
  refine hK.out _ _ kW (fun _=> ?_)
  clear hK K
  try simp only[Act.put,F3,U3,V3]
  refine wpAnyH_take (i:=20) (oi:=⟨_,_,_,_,_,_⟩) (v:=undef) rfl (by kernel_rfl) (by kernel_rfl) (by kernel_rfl) (fun _ _ _ h=>h) (Or.inr ⟨by rfl,rfl⟩) kW ?_
  try simp only[Act.put,F3,U3,V3]
  refine T9 21 ⟨_,_,_,_,_,_⟩ _ kW ?_
  try simp only[Act.put,F3,U3,V3]
  refine wpAnyH_done (by kernel_rfl) ?_ _
  have HKW:=U0 kW
  clear kW
  go_wp2_with fail
  go_ret
  exact⟨by rw[HS.o];rfl,HW.o.2.then HKW.o (by simp)⟩
 ·have hHb:(H==0)=false:=by simpa using hH
  rcases Bool.eq_false_or_eq_true (WB p.frm) with n1|n1
  rotate_left
  ·skip
   have HS:=U0 (show ok=false by rw[HS0.o];simp[n1])
   clear HS0
   go_enter func9,ntmps9
   have x0:=HE.o
   go_upto_region 2 with (first
    |(with_reducible refine Z4 _ _ rfl 34 (.tmp 0) rfl _ rfl HW.o.1 ?_)
    |(go_at_call 40;refine HF.o.mono ?_;rintro e w' ⟨rfl,rfl⟩))
   clear x0
   refine wp_region_held_drew (S:=U1 [] w1) (by kernel_rfl) (U1.refl [] w1).drew (fun kW=> ?_)
   obtain⟨W0,hW0⟩:∃ W,w1.drew=W:=⟨_,rfl⟩
   rw[hW0] at kW ⊢
   clear hW0
   refine T9 0 ⟨_,_,_,_,_,_⟩ _ kW ?_
   try simp only[Act.put,F3,U3,V3]
   refine T9 1 ⟨_,_,_,_,_,_⟩ _ kW ?_
   try simp only[Act.put,F3,U3,V3]
   refine T9 2 ⟨_,_,_,_,_,_⟩ _ kW ?_
   try simp only[Act.put,F3,U3,V3]
   refine T9 3 ⟨_,_,_,_,_,_⟩ _ kW ?_
   try simp only[Act.put,F3,U3,V3]
   refine wpAnyH_take (i:=4) (oi:=⟨_,_,_,_,_,_⟩) (v:= ?_) rfl (by kernel_rfl) (by kernel_rfl) (by kernel_rfl) (fun _ _ _ h=>h) (Or.inl ⟨by rfl,?_⟩) kW ?_
   rotate_left
   ·intro w' hSw;have xc:=(HP.o w' hSw).c1;clear hSw;(go_simp;try with_reducible rfl)
   try simp only[Act.put,F3,U3,V3]
   refine wpAnyH_ready (rs:=[5]) (by kernel_rfl) (by simp) ?_
   refine q9 rfl (fun K hK=> ?_)
   go_simp
   refine (HN1.o _).mono ?_;rintro e w' ⟨rfl,rfl⟩
   rw[n1]
   go_wp2_with fail
   refine hK.out _ _ kW (fun _=> ?_)
   clear hK K
   try simp only[Act.put,F3,U3,V3]
   refine T9 6 ⟨_,_,_,_,_,_⟩ _ kW ?_
   try simp only[Act.put,F3,U3,V3]
   refine T9 7 ⟨_,_,_,_,_,_⟩ _ kW ?_
   try simp only[Act.put,F3,U3,V3]
   refine T9 8 ⟨_,_,_,_,_,_⟩ _ kW ?_
   try simp only[Act.put,F3,U3,V3]
   refine wpAnyH_take (i:=9) (oi:=⟨_,_,_,_,_,_⟩) (v:=undef) rfl (by kernel_rfl) (by kernel_rfl) (by kernel_rfl) (fun _ _ _ h=>h) (Or.inr ⟨by rfl,rfl⟩) kW ?_
   try simp only[Act.put,F3,U3,V3]
   refine wpAnyH_take (i:=10) (oi:=⟨_,_,_,_,_,_⟩) (v:=undef) rfl (by kernel_rfl) (by kernel_rfl) (by kernel_rfl) (fun _ _ _ h=>h) (Or.inr ⟨by rfl,rfl⟩) kW ?_
   try simp only[Act.put,F3,U3,V3]
   refine wpAnyH_ready (rs:=[11]) (by kernel_rfl) (by simp) ?_
   refine q9 rfl (fun K hK=> ?_)
   refine SE ?_ ?_
   ·rfl
   refine hK.out _ _ kW (fun _=> ?_)
   clear hK K
   try simp only[Act.put,F3,U3,V3]
   refine wpAnyH_take (i:=12) (oi:=⟨_,_,_,_,_,_⟩) (v:=undef) rfl (by kernel_rfl) (by kernel_rfl) (by kernel_rfl) (fun _ _ _ h=>h) (Or.inr ⟨by rfl,rfl⟩) kW ?_
   try simp only[Act.put,F3,U3,V3]
   refine T9 13 ⟨_,_,_,_,_,_⟩ _ kW ?_
   try simp only[Act.put,F3,U3,V3]
   refine T9 14 ⟨_,_,_,_,_,_⟩ _ kW ?_
   try simp only[Act.put,F3,U3,V3]
   refine wpAnyH_take (i:=15) (oi:=⟨_,_,_,_,_,_⟩) (v:=undef) rfl (by kernel_rfl) (by kernel_rfl) (by kernel_rfl) (fun _ _ _ h=>h) (Or.inr ⟨by rfl,rfl⟩) kW ?_
   try simp only[Act.put,F3,U3,V3]
   refine wpAnyH_take (i:=16) (oi:=⟨_,_,_,_,_,_⟩) (v:=undef) rfl (by kernel_rfl) (by kernel_rfl) (by kernel_rfl) (fun _ _ _ h=>h) (Or.inr ⟨by rfl,rfl⟩) kW ?_
   try simp only[Act.put,F3,U3,V3]
   refine wpAnyH_take (i:=17) (oi:=⟨_,_,_,_,_,_⟩) (v:=undef) rfl (by kernel_rfl) (by kernel_rfl) (by kernel_rfl) (fun _ _ _ h=>h) (Or.inr ⟨by rfl,rfl⟩) kW ?_
   try simp only[Act.put,F3,U3,V3]
   refine wpAnyH_ready (rs:=[18]) (by kernel_rfl) (by simp) ?_
   refine q9 rfl (fun K hK=> ?_)
   refine SE ?_ ?_
   ·rfl
   refine hK.out _ _ kW (fun _=> ?_)
   clear hK K
   try simp only[Act.put,F3,U3,V3]
   refine wpAnyH_ready (rs:=[19]) (by kernel_rfl) (by simp) ?_
   refine q9 rfl (fun K hK=> ?_)
   refine SE ?_ ?_
   ·rfl
   refine hK.out _ _ kW (fun _=> ?_)
   clear hK K
   try simp only[Act.put,F3,U3,V3]
   refine wpAnyH_take (i:=20) (oi:=⟨_,_,_,_,_,_⟩) (v:=undef) rfl (by kernel_rfl) (by kernel_rfl) (by kernel_rfl) (fun _ _ _ h=>h) (Or.inr ⟨by rfl,rfl⟩) kW ?_
   try simp only[Act.put,F3,U3,V3]
   refine T9 21 ⟨_,_,_,_,_,_⟩ _ kW ?_
   try simp only[Act.put,F3,U3,V3]
   refine wpAnyH_done (by kernel_rfl) ?_ _
   have HKW:=U0 kW
   clear kW
   go_wp2_with fail
   go_ret
   exact⟨by rw[HS.o];rfl,HW.o.2.then HKW.o (by simp)⟩
  rcases Bool.eq_false_or_eq_true (WB p.dst) with n2|n2
  rotate_left
  ·skip
   have HS:=U0 (show ok=false by rw[HS0.o];simp[n1,n2])
   clear HS0
   go_enter func9,ntmps9
   have x0:=HE.o
   go_upto_region 2 with (first
    |(with_reducible refine Z4 _ _ rfl 34 (.tmp 0) rfl _ rfl HW.o.1 ?_)
    |(go_at_call 40;refine HF.o.mono ?_;rintro e w' ⟨rfl,rfl⟩))
   clear x0
   refine wp_region_held_drew (S:=U1 [] w1) (by kernel_rfl) (U1.refl [] w1).drew (fun kW=> ?_)
   obtain⟨W0,hW0⟩:∃ W,w1.drew=W:=⟨_,rfl⟩
   rw[hW0] at kW ⊢
   clear hW0
   refine T9 0 ⟨_,_,_,_,_,_⟩ _ kW ?_
   try simp only[Act.put,F3,U3,V3]
   refine T9 1 ⟨_,_,_,_,_,_⟩ _ kW ?_
   try simp only[Act.put,F3,U3,V3]
   refine T9 2 ⟨_,_,_,_,_,_⟩ _ kW ?_
   try simp only[Act.put,F3,U3,V3]
   refine T9 3 ⟨_,_,_,_,_,_⟩ _ kW ?_
   try simp only[Act.put,F3,U3,V3]
   refine wpAnyH_take (i:=4) (oi:=⟨_,_,_,_,_,_⟩) (v:= ?_) rfl (by kernel_rfl) (by kernel_rfl) (by kernel_rfl) (fun _ _ _ h=>h) (Or.inl ⟨by rfl,?_⟩) kW ?_
   rotate_left
   ·intro w' hSw;have xc:=(HP.o w' hSw).c1;clear hSw;(go_simp;try with_reducible rfl)
   try simp only[Act.put,F3,U3,V3]
   refine wpAnyH_ready (rs:=[5]) (by kernel_rfl) (by simp) ?_
   refine q9 rfl (fun K hK=> ?_)
   go_simp
   refine (HN1.o _).mono ?_;rintro e w' ⟨rfl,rfl⟩
   rw[n1]
   go_wp2_with fail
   refine hK.out _ _ kW (fun _=> ?_)
   clear hK K
   try simp only[Act.put,F3,U3,V3]
   refine T9 6 ⟨_,_,_,_,_,_⟩ _ kW ?_
   try simp only[Act.put,F3,U3,V3]
   refine T9 7 ⟨_,_,_,_,_,_⟩ _ kW ?_
   try simp only[Act.put,F3,U3,V3]
   refine T9 8 ⟨_,_,_,_,_,_⟩ _ kW ?_
   try simp only[Act.put,F3,U3,V3]
   refine T9 9 ⟨_,_,_,_,_,_⟩ _ kW ?_
   try simp only[Act.put,F3,U3,V3]
   refine wpAnyH_take (i:=10) (oi:=⟨_,_,_,_,_,_⟩) (v:= ?_) rfl (by kernel_rfl) (by kernel_rfl) (by kernel_rfl) (fun _ _ _ h=>h) (Or.inl ⟨by rfl,?_⟩) kW ?_
   rotate_left
   ·intro w' hSw;have xc:=(HP.o w' hSw).c2;clear hSw;(go_simp;try with_reducible rfl)
   try simp only[Act.put,F3,U3,V3]
   refine wpAnyH_ready (rs:=[11]) (by kernel_rfl) (by simp) ?_
   refine q9 rfl (fun K hK=> ?_)
   go_simp
   refine (HN2.o _).mono ?_;rintro e w' ⟨rfl,rfl⟩
   rw[n2]
   go_wp2_with fail
   refine hK.out _ _ kW (fun _=> ?_)
   clear hK K
   try simp only[Act.put,F3,U3,V3]
   refine T9 12 ⟨_,_,_,_,_,_⟩ _ kW ?_
   try simp only[Act.put,F3,U3,V3]
   refine T9 13 ⟨_,_,_,_,_,_⟩ _ kW ?_
   try simp only[Act.put,F3,U3,V3]
   refine T9 14 ⟨_,_,_,_,_,_⟩ _ kW ?_
   try simp only[Act.put,F3,U3,V3]
   refine wpAnyH_take (i:=15) (oi:=⟨_,_,_,_,_,_⟩) (v:=undef) rfl (by kernel_rfl) (by kernel_rfl) (by kernel_rfl) (fun _ _ _ h=>h) (Or.inr ⟨by rfl,rfl⟩) kW ?_
   try simp only[Act.put,F3,U3,V3]
   refine wpAnyH_take (i:=16) (oi:=⟨_,_,_,_,_,_⟩) (v:=undef) rfl (by kernel_rfl) (by kernel_rfl) (by kernel_rfl) (fun _ _ _ h=>h) (Or.inr ⟨by rfl,rfl⟩) kW ?_
   try simp only[Act.put,F3,U3,V3]
   refine wpAnyH_take (i:=17) (oi:=⟨_,_,_,_,_,_⟩) (v:=undef) rfl (by kernel_rfl) (by kernel_rfl) (by kernel_rfl) (fun _ _ _ h=>h) (Or.inr ⟨by rfl,rfl⟩) kW ?_
   try simp only[Act.put,F3,U3,V3]
   refine wpAnyH_ready (rs:=[18]) (by kernel_rfl) (by simp) ?_
   refine q9 rfl (fun K hK=> ?_)
   refine SE ?_ ?_
   ·rfl
   refine hK.out _ _ kW (fun _=> ?_)
   clear hK K
   try simp only[Act.put,F3,U3,V3]
   refine wpAnyH_ready (rs:=[19]) (by kernel_rfl) (by simp) ?_
   refine q9 rfl (fun K hK=> ?_)
   refine SE ?_ ?_
   ·rfl
   refine hK.out _ _ kW (fun _=> ?_)
   clear hK K
   try simp only[Act.put,F3,U3,V3]
   refine wpAnyH_take (i:=20) (oi:=⟨_,_,_,_,_,_⟩) (v:=undef) rfl (by kernel_rfl) (by kernel_rfl) (by kernel_rfl) (fun _ _ _ h=>h) (Or.inr ⟨by rfl,rfl⟩) kW ?_
   try simp only[Act.put,F3,U3,V3]
   refine T9 21 ⟨_,_,_,_,_,_⟩ _ kW ?_
   try simp only[Act.put,F3,U3,V3]
   refine wpAnyH_done (by kernel_rfl) ?_ _
   have HKW:=U0 kW
   clear kW
   go_wp2_with fail
   go_ret
   exact⟨by rw[HS.o];rfl,HW.o.2.then HKW.o (by simp)⟩
  rcases Bool.eq_false_or_eq_true (p.same (p.cut H)) with n3|n3
  rotate_left
  ·skip
   have HS:=U0 (show ok=false by rw[HS0.o];simp[n1,n2,n3])
   clear HS0
   go_enter func9,ntmps9
   have x0:=HE.o
   go_upto_region 2 with (first
    |(with_reducible refine Z4 _ _ rfl 34 (.tmp 0) rfl _ rfl HW.o.1 ?_)
    |(go_at_call 40;refine HF.o.mono ?_;rintro e w' ⟨rfl,rfl⟩))
   clear x0
   refine wp_region_held_drew (S:=U1 [] w1) (by kernel_rfl) (U1.refl [] w1).drew (fun kW=> ?_)
   obtain⟨W0,hW0⟩:∃ W,w1.drew=W:=⟨_,rfl⟩
   rw[hW0] at kW ⊢
   clear hW0
   refine T9 0 ⟨_,_,_,_,_,_⟩ _ kW ?_
   try simp only[Act.put,F3,U3,V3]
   refine T9 1 ⟨_,_,_,_,_,_⟩ _ kW ?_
   try simp only[Act.put,F3,U3,V3]
   refine T9 2 ⟨_,_,_,_,_,_⟩ _ kW ?_
   try simp only[Act.put,F3,U3,V3]
   refine T9 3 ⟨_,_,_,_,_,_⟩ _ kW ?_
   try simp only[Act.put,F3,U3,V3]
   refine wpAnyH_take (i:=4) (oi:=⟨_,_,_,_,_,_⟩) (v:= ?_) rfl (by kernel_rfl) (by kernel_rfl) (by kernel_rfl) (fun _ _ _ h=>h) (Or.inl ⟨by rfl,?_⟩) kW ?_
   rotate_left
   ·intro w' hSw;have xc:=(HP.o w' hSw).c1;clear hSw;(go_simp;try with_reducible rfl)
   try simp only[Act.put,F3,U3,V3]
   refine wpAnyH_ready (rs:=[5]) (by kernel_rfl) (by simp) ?_
   refine q9 rfl (fun K hK=> ?_)
   go_simp
   refine (HN1.o _).mono ?_;rintro e w' ⟨rfl,rfl⟩
   rw[n1]
   go_wp2_with fail
   refine hK.out _ _ kW (fun _=> ?_)
   clear hK K
   try simp only[Act.put,F3,U3,V3]
   refine T9 6 ⟨_,_,_,_,_,_⟩ _ kW ?_
   try simp only[Act.put,F3,U3,V3]
   refine T9 7 ⟨_,_,_,_,_,_⟩ _ kW ?_
   try simp only[Act.put,F3,U3,V3]
   refine T9 8 ⟨_,_,_,_,_,_⟩ _ kW ?_
   try simp only[Act.put,F3,U3,V3]
   refine T9 9 ⟨_,_,_,_,_,_⟩ _ kW ?_
   try simp only[Act.put,F3,U3,V3]
   refine wpAnyH_take (i:=10) (oi:=⟨_,_,_,_,_,_⟩) (v:= ?_) rfl (by kernel_rfl) (by kernel_rfl) (by kernel_rfl) (fun _ _ _ h=>h) (Or.inl ⟨by rfl,?_⟩) kW ?_
   rotate_left
   ·intro w' hSw;have xc:=(HP.o w' hSw).c2;clear hSw;(go_simp;try with_reducible rfl)
   try simp only[Act.put,F3,U3,V3]
   refine wpAnyH_ready (rs:=[11]) (by kernel_rfl) (by simp) ?_
   refine q9 rfl (fun K hK=> ?_)
   go_simp
   refine (HN2.o _).mono ?_;rintro e w' ⟨rfl,rfl⟩
   rw[n2]
   go_wp2_with fail
   refine hK.out _ _ kW (fun _=> ?_)
   clear hK K
   try simp only[Act.put,F3,U3,V3]
   refine T9 12 ⟨_,_,_,_,_,_⟩ _ kW ?_
   try simp only[Act.put,F3,U3,V3]
   refine T9 13 ⟨_,_,_,_,_,_⟩ _ kW ?_
   try simp only[Act.put,F3,U3,V3]
   refine T9 14 ⟨_,_,_,_,_,_⟩ _ kW ?_
   try simp only[Act.put,F3,U3,V3]
   refine wpAnyH_take (i:=15) (oi:=⟨_,_,_,_,_,_⟩) (v:= .agg (q8 p ev av (.slice A3 L3 k3) (.slice A4 L4 k4) (.slice A5 L5 k5)).toArray) rfl (by kernel_rfl) (by kernel_rfl) (by kernel_rfl) (fun _ _ _ h=>h) (uA 34 (.tmp 1) rfl w.heap.size 0 rfl _ _ (fun w' hSw=>HPA.o w' hSw) underlying34 rfl HIp.o ?_) kW ?_
   ·rfl
   try simp only[Act.put,F3,U3,V3]
   refine wpAnyH_take (i:=16) (oi:=⟨_,_,_,_,_,_⟩) (v:= .agg (q8 p ev av (.slice A3 L3 k3) (.slice A4 L4 k4) (.slice A5 L5 k5)).toArray) rfl (by kernel_rfl) (by kernel_rfl) (by kernel_rfl) (fun _ _ _ h=>h) (uA 34 (.tmp 1) rfl w.heap.size 0 rfl _ _ (fun w' hSw=>HPA.o w' hSw) underlying34 rfl HIp.o ?_) kW ?_
   ·rfl
   try simp only[Act.put,F3,U3,V3]
   refine T9 17 ⟨_,_,_,_,_,_⟩ _ kW ?_
   try simp only[Act.put,F3,U3,V3]
   refine wpAnyH_ready (rs:=[18]) (by kernel_rfl) (by simp) ?_
   refine q9 rfl (fun K hK=> ?_)
   go_simp
   refine (HRD.o _ kW _).mono ?_;rintro e w' ⟨rfl,kk⟩
   replace kW:=kW.then kk (by simp)
   clear kk
   go_wp2_with fail
   refine hK.out _ _ kW (fun _=> ?_)
   clear hK K
   try simp only[Act.put,F3,U3,V3]
   refine wpAnyH_ready (rs:=[19]) (by kernel_rfl) (by simp) ?_
   refine q9 rfl (fun K hK=> ?_)
   go_simp
   refine (HSM.o _ kW _).mono ?_;rintro e w' ⟨rfl,kk⟩
   replace kW:=kW.then kk (by simp)
   clear kk
   rw[n3]
   go_wp2_with fail
   refine hK.out _ _ kW (fun _=> ?_)
   clear hK K
   try simp only[Act.put,F3,U3,V3]
   refine T9 20 ⟨_,_,_,_,_,_⟩ _ kW ?_
   try simp only[Act.put,F3,U3,V3]
   refine T9 21 ⟨_,_,_,_,_,_⟩ _ kW ?_
   try simp only[Act.put,F3,U3,V3]
   refine wpAnyH_done (by kernel_rfl) ?_ _
   have HKW:=U0 kW
   clear kW
   go_wp2_with fail
   go_ret
   exact⟨by rw[HS.o];rfl,HW.o.2.then HKW.o (by simp)⟩
  go_enter func9,ntmps9
  have x0:=HE.o
  go_upto_region 2 with (first
   |(with_reducible refine Z4 _ _ rfl 34 (.tmp 0) rfl _ rfl HW.o.1 ?_)
   |(go_at_call 40;refine HF.o.mono ?_;rintro e w' ⟨rfl,rfl⟩))
  clear x0
  refine wp_region_held_drew (S:=U1 [] w1) (by kernel_rfl) (U1.refl [] w1).drew (fun kW=> ?_)
  obtain⟨W0,hW0⟩:∃ W,w1.drew=W:=⟨_,rfl⟩
  rw[hW0] at kW ⊢
  clear hW0
  refine T9 0 ⟨_,_,_,_,_,_⟩ _ kW ?_
  try simp only[Act.put,F3,U3,V3]
  refine T9 1 ⟨_,_,_,_,_,_⟩ _ kW ?_
  try simp only[Act.put,F3,U3,V3]
  refine T9 2 ⟨_,_,_,_,_,_⟩ _ kW ?_
  try simp only[Act.put,F3,U3,V3]
  refine T9 3 ⟨_,_,_,_,_,_⟩ _ kW ?_
  try simp only[Act.put,F3,U3,V3]
  refine wpAnyH_take (i:=4) (oi:=⟨_,_,_,_,_,_⟩) (v:= ?_) rfl (by kernel_rfl) (by kernel_rfl) (by kernel_rfl) (fun _ _ _ h=>h) (Or.inl ⟨by rfl,?_⟩) kW ?_
  rotate_left
  ·intro w' hSw;have xc:=(HP.o w' hSw).c1;clear hSw;(go_simp;try with_reducible rfl)
  try simp only[Act.put,F3,U3,V3]
  refine wpAnyH_ready (rs:=[5]) (by kernel_rfl) (by simp) ?_
  refine q9 rfl (fun K hK=> ?_)
  go_simp
  refine (HN1.o _).mono ?_;rintro e w' ⟨rfl,rfl⟩
  rw[n1]
  go_wp2_with fail
  refine hK.out _ _ kW (fun _=> ?_)
  clear hK K
  try simp only[Act.put,F3,U3,V3]
  refine T9 6 ⟨_,_,_,_,_,_⟩ _ kW ?_
  try simp only[Act.put,F3,U3,V3]
  refine T9 7 ⟨_,_,_,_,_,_⟩ _ kW ?_
  try simp only[Act.put,F3,U3,V3]
  refine T9 8 ⟨_,_,_,_,_,_⟩ _ kW ?_
  try simp only[Act.put,F3,U3,V3]
  refine T9 9 ⟨_,_,_,_,_,_⟩ _ kW ?_
  try simp only[Act.put,F3,U3,V3]
  refine wpAnyH_take (i:=10) (oi:=⟨_,_,_,_,_,_⟩) (v:= ?_) rfl (by kernel_rfl) (by kernel_rfl) (by kernel_rfl) (fun _ _ _ h=>h) (Or.inl ⟨by rfl,?_⟩) kW ?_
  rotate_left
  ·intro w' hSw;have xc:=(HP.o w' hSw).c2;clear hSw;(go_simp;try with_reducible rfl)
  try simp only[Act.put,F3,U3,V3]
  refine wpAnyH_ready (rs:=[11]) (by kernel_rfl) (by simp) ?_
  refine q9 rfl (fun K hK=> ?_)
  go_simp
  refine (HN2.o _).mono ?_;rintro e w' ⟨rfl,rfl⟩
  rw[n2]
  go_wp2_with fail
  refine hK.out _ _ kW (fun _=> ?_)
  clear hK K
  try simp only[Act.put,F3,U3,V3]
  refine T9 12 ⟨_,_,_,_,_,_⟩ _ kW ?_
  try simp only[Act.put,F3,U3,V3]
  refine T9 13 ⟨_,_,_,_,_,_⟩ _ kW ?_
  try simp only[Act.put,F3,U3,V3]
  refine T9 14 ⟨_,_,_,_,_,_⟩ _ kW ?_
  try simp only[Act.put,F3,U3,V3]
  refine wpAnyH_take (i:=15) (oi:=⟨_,_,_,_,_,_⟩) (v:= .agg (q8 p ev av (.slice A3 L3 k3) (.slice A4 L4 k4) (.slice A5 L5 k5)).toArray) rfl (by kernel_rfl) (by kernel_rfl) (by kernel_rfl) (fun _ _ _ h=>h) (uA 34 (.tmp 1) rfl w.heap.size 0 rfl _ _ (fun w' hSw=>HPA.o w' hSw) underlying34 rfl HIp.o ?_) kW ?_
  ·rfl
  try simp only[Act.put,F3,U3,V3]
  refine wpAnyH_take (i:=16) (oi:=⟨_,_,_,_,_,_⟩) (v:= .agg (q8 p ev av (.slice A3 L3 k3) (.slice A4 L4 k4) (.slice A5 L5 k5)).toArray) rfl (by kernel_rfl) (by kernel_rfl) (by kernel_rfl) (fun _ _ _ h=>h) (uA 34 (.tmp 1) rfl w.heap.size 0 rfl _ _ (fun w' hSw=>HPA.o w' hSw) underlying34 rfl HIp.o ?_) kW ?_
  ·rfl
  try simp only[Act.put,F3,U3,V3]
  refine T9 17 ⟨_,_,_,_,_,_⟩ _ kW ?_
  try simp only[Act.put,F3,U3,V3]
  refine wpAnyH_ready (rs:=[18]) (by kernel_rfl) (by simp) ?_
  refine q9 rfl (fun K hK=> ?_)
  go_simp
  refine (HRD.o _ kW _).mono ?_;rintro e w' ⟨rfl,kk⟩
  replace kW:=kW.then kk (by simp)
  clear kk
  go_wp2_with fail
  refine hK.out _ _ kW (fun _=> ?_)
  clear hK K
  try simp only[Act.put,F3,U3,V3]
  refine wpAnyH_ready (rs:=[19]) (by kernel_rfl) (by simp) ?_
  refine q9 rfl (fun K hK=> ?_)
  go_simp
  refine (HSM.o _ kW _).mono ?_;rintro e w' ⟨rfl,kk⟩
  replace kW:=kW.then kk (by simp)
  clear kk
  rw[n3]
  go_wp2_with fail
  refine hK.out _ _ kW (fun _=> ?_)
  clear hK K
  try simp only[Act.put,F3,U3,V3]
  refine T9 20 ⟨_,_,_,_,_,_⟩ _ kW ?_
  try simp only[Act.put,F3,U3,V3]
  refine T9 21 ⟨_,_,_,_,_,_⟩ _ kW ?_
  try simp only[Act.put,F3,U3,V3]
  refine wpAnyH_done (by kernel_rfl) ?_ _
  have HKW:=U0 kW
  clear kW
  go_upto_region 4 with fail
  have HS1:=U0 (show ok=(qB p.num 0 9007199254740991 && (qB p.ballot 0 9007199254740991 && (JI p.kind p.seq && (decide (L5≤32768) && (((U6 H 16==0)||p.req.ok) && (((U6 H 32==0)||p.ans.ok) && (((U6 H 64==0)||p.conf.ok) && JB p.votes))))))) by rw[HS0.o];simp[hHb,n1,n2,n3])
  clear HS0 HRD HSM HN1 HN2 HF HE HPA HIp
  have HA:=U0 (HP.o _ HKW.o)
  rcases Bool.eq_false_or_eq_true (qB p.num 0 9007199254740991) with c1|c1
  rotate_left
  ·skip
   have HS:=U0 (show ok=false by rw[HS1.o];simp[U6,c1])
   clear HS1
   have x0:=HA.o.c0
   have x3:=HA.o.c3
   have x4:=HA.o.c4
   have x5:=HA.o.c5
   have x10:=HA.o.d3
   have x11:=HA.o.d4
   go_wp2_with (first
    |(go_at_call 64;refine (iA _ _ _).mono ?_;rintro e w' ⟨rfl,rfl⟩)
    |(go_at_call 63;refine (o8 _ _).mono ?_;rintro e w' ⟨rfl,rfl⟩)
    |(go_at_call 66;refine (Q8 _ _).mono ?_;rintro e w' ⟨rfl,rfl⟩))
   go_ret
   exact⟨by rw[HS.o];first|rfl|simp_all,HW.o.2.then HKW.o (by simp)⟩
  rcases Bool.eq_false_or_eq_true (qB p.ballot 0 9007199254740991) with c2|c2
  rotate_left
  ·skip
   have HS:=U0 (show ok=false by rw[HS1.o];simp[U6,c1,c2])
   clear HS1
   have x0:=HA.o.c0
   have x3:=HA.o.c3
   have x4:=HA.o.c4
   have x5:=HA.o.c5
   have x10:=HA.o.d3
   have x11:=HA.o.d4
   go_wp2_with (first
    |(go_at_call 64;refine (iA _ _ _).mono ?_;rintro e w' ⟨rfl,rfl⟩)
    |(go_at_call 63;refine (o8 _ _).mono ?_;rintro e w' ⟨rfl,rfl⟩)
    |(go_at_call 66;refine (Q8 _ _).mono ?_;rintro e w' ⟨rfl,rfl⟩))
   go_ret
   exact⟨by rw[HS.o];first|rfl|simp_all,HW.o.2.then HKW.o (by simp)⟩
  rcases Bool.eq_false_or_eq_true (JI p.kind p.seq) with c3|c3
  rotate_left
  ·skip
   have HS:=U0 (show ok=false by rw[HS1.o];simp[U6,c1,c2,c3])
   clear HS1
   have x0:=HA.o.c0
   have x3:=HA.o.c3
   have x4:=HA.o.c4
   have x5:=HA.o.c5
   have x10:=HA.o.d3
   have x11:=HA.o.d4
   go_wp2_with (first
    |(go_at_call 64;refine (iA _ _ _).mono ?_;rintro e w' ⟨rfl,rfl⟩)
    |(go_at_call 63;refine (o8 _ _).mono ?_;rintro e w' ⟨rfl,rfl⟩)
    |(go_at_call 66;refine (Q8 _ _).mono ?_;rintro e w' ⟨rfl,rfl⟩))
   go_ret
   exact⟨by rw[HS.o];first|rfl|simp_all,HW.o.2.then HKW.o (by simp)⟩
  by_cases l0:(L5:Int)≤32768
  rotate_left
  ·have l1: ¬L5≤32768:=by omega
   have d1:=decide_eq_false l0
   have HS:=U0 (show ok=false by rw[HS1.o];simp[U6,c1,c2,c3,l1])
   clear HS1
   have x0:=HA.o.c0
   have x3:=HA.o.c3
   have x4:=HA.o.c4
   have x5:=HA.o.c5
   have x10:=HA.o.d3
   have x11:=HA.o.d4
   go_wp2_with (first
    |(go_at_call 64;refine (iA _ _ _).mono ?_;rintro e w' ⟨rfl,rfl⟩)
    |(go_at_call 63;refine (o8 _ _).mono ?_;rintro e w' ⟨rfl,rfl⟩)
    |(go_at_call 66;refine (Q8 _ _).mono ?_;rintro e w' ⟨rfl,rfl⟩))
   go_ret
   exact⟨by rw[HS.o];first|rfl|simp_all,HW.o.2.then HKW.o (by simp)⟩
  have l1:L5≤32768:=by omega
  have d1:=decide_eq_true l0
  rcases Bool.eq_false_or_eq_true (bits BinOp.and IntKind.i64 H 16==0) with b1|b1
  ·skip
   rcases Bool.eq_false_or_eq_true (bits BinOp.and IntKind.i64 H 32==0) with b2|b2
   ·skip
    rcases Bool.eq_false_or_eq_true (bits BinOp.and IntKind.i64 H 64==0) with b3|b3
    ·skip
     rcases Bool.eq_false_or_eq_true (JB p.votes) with v1|v1
     rotate_left
     ·skip
      have HS:=U0 (show ok=false by rw[HS1.o];simp[U6,c1,c2,c3,l1,b1,b2,b3,v1])
      clear HS1
      have x0:=HA.o.c0
      have x3:=HA.o.c3
      have x4:=HA.o.c4
      have x5:=HA.o.c5
      have x10:=HA.o.d3
      have x11:=HA.o.d4
      go_wp2_with (first
       |(go_at_call 64;refine (iA _ _ _).mono ?_;rintro e w' ⟨rfl,rfl⟩)
       |(go_at_call 63;refine (o8 _ _).mono ?_;rintro e w' ⟨rfl,rfl⟩)
       |(go_at_call 66;refine (Q8 _ _).mono ?_;rintro e w' ⟨rfl,rfl⟩)
       |(go_at_call 65;refine (HCV.o _ HKW.o).mono ?_;rintro e w' ⟨rfl,kk⟩;have HKV:=U0 (HKW.o.then kk (by simp));clear kk;have x10:=(HP.o _ HKV.o).d3;rw[v1];try dsimp only[O9]))
      go_ret
      exact⟨by rw[HS.o];first|rfl|simp_all,HW.o.2.then HKV.o (by simp)⟩
     have HS:=U0 (show ok=true by rw[HS1.o];simp[U6,c1,c2,c3,l1,b1,b2,b3,v1])
     clear HS1
     have x0:=HA.o.c0
     have x3:=HA.o.c3
     have x4:=HA.o.c4
     have x5:=HA.o.c5
     have x10:=HA.o.d3
     have x11:=HA.o.d4
     go_wp2_with (first
      |(go_at_call 64;refine (iA _ _ _).mono ?_;rintro e w' ⟨rfl,rfl⟩)
      |(go_at_call 63;refine (o8 _ _).mono ?_;rintro e w' ⟨rfl,rfl⟩)
      |(go_at_call 66;refine (Q8 _ _).mono ?_;rintro e w' ⟨rfl,rfl⟩)
      |(go_at_call 65;refine (HCV.o _ HKW.o).mono ?_;rintro e w' ⟨rfl,kk⟩;have HKV:=U0 (HKW.o.then kk (by simp));clear kk;have x10:=(HP.o _ HKV.o).d3;rw[v1];try dsimp only[O9]))
     go_ret
     exact⟨by rw[HS.o];first|rfl|simp_all,HW.o.2.then HKV.o (by simp)⟩
    ·skip
     rcases Bool.eq_false_or_eq_true (p.conf.ok) with f1|f1
     rotate_left
     ·skip
      have HS:=U0 (show ok=false by rw[HS1.o];simp[U6,c1,c2,c3,l1,b1,b2,b3,f1])
      clear HS1
      have x0:=HA.o.c0
      have x3:=HA.o.c3
      have x4:=HA.o.c4
      have x5:=HA.o.c5
      have x10:=HA.o.d3
      have x11:=HA.o.d4
      go_wp2_with (first
       |(go_at_call 64;refine (iA _ _ _).mono ?_;rintro e w' ⟨rfl,rfl⟩)
       |(go_at_call 63;refine (o8 _ _).mono ?_;rintro e w' ⟨rfl,rfl⟩)
       |(go_at_call 66;refine (Q8 _ _).mono ?_;rintro e w' ⟨rfl,rfl⟩)
       |(refine j5 31 (.tmp 78) rfl w.heap.size 82 rfl (bA p.conf (.slice A3 L3 k3)) _ (by have hp:=HP.o _ HKW.o;exact fun j v hv=>match j,hv with|0,hv=>by cases hv;exact hp.d0|1,hv=>by cases hv;exact hp.d1|2,hv=>by cases hv;exact hp.d2) underlying31 rfl S9 ?_ ?_;·rfl)
       |(go_at_call 22;refine (HCC.o _ HKW.o).mono ?_;rintro e w' ⟨rfl,kk⟩;have HKC:=U0 (HKW.o.then kk (by simp));clear kk;have x10:=(HP.o _ HKC.o).d3;rw[f1];try dsimp only[O9]))
      go_ret
      exact⟨by rw[HS.o];first|rfl|simp_all,HW.o.2.then HKC.o (by simp)⟩
     rcases Bool.eq_false_or_eq_true (JB p.votes) with v1|v1
     rotate_left
     ·skip
      have HS:=U0 (show ok=false by rw[HS1.o];simp[U6,c1,c2,c3,l1,b1,b2,b3,f1,v1])
      clear HS1
      have x0:=HA.o.c0
      have x3:=HA.o.c3
      have x4:=HA.o.c4
      have x5:=HA.o.c5
      have x10:=HA.o.d3
      have x11:=HA.o.d4
      go_wp2_with (first
       |(go_at_call 64;refine (iA _ _ _).mono ?_;rintro e w' ⟨rfl,rfl⟩)
       |(go_at_call 63;refine (o8 _ _).mono ?_;rintro e w' ⟨rfl,rfl⟩)
       |(go_at_call 66;refine (Q8 _ _).mono ?_;rintro e w' ⟨rfl,rfl⟩)
       |(refine j5 31 (.tmp 78) rfl w.heap.size 82 rfl (bA p.conf (.slice A3 L3 k3)) _ (by have hp:=HP.o _ HKW.o;exact fun j v hv=>match j,hv with|0,hv=>by cases hv;exact hp.d0|1,hv=>by cases hv;exact hp.d1|2,hv=>by cases hv;exact hp.d2) underlying31 rfl S9 ?_ ?_;·rfl)
       |(go_at_call 22;refine (HCC.o _ HKW.o).mono ?_;rintro e w' ⟨rfl,kk⟩;have HKC:=U0 (HKW.o.then kk (by simp));clear kk;have x10:=(HP.o _ HKC.o).d3;rw[f1];try dsimp only[O9])
       |(go_at_call 65;refine (HCV.o _ HKC.o).mono ?_;rintro e w' ⟨rfl,kk⟩;have HKV:=U0 (HKC.o.then kk (by simp));clear kk;have x10:=(HP.o _ HKV.o).d3;rw[v1];try dsimp only[O9]))
      go_ret
      exact⟨by rw[HS.o];first|rfl|simp_all,HW.o.2.then HKV.o (by simp)⟩
     have HS:=U0 (show ok=true by rw[HS1.o];simp[U6,c1,c2,c3,l1,b1,b2,b3,f1,v1])
     clear HS1
     have x0:=HA.o.c0
     have x3:=HA.o.c3
     have x4:=HA.o.c4
     have x5:=HA.o.c5
     have x10:=HA.o.d3
     have x11:=HA.o.d4
     go_wp2_with (first
      |(go_at_call 64;refine (iA _ _ _).mono ?_;rintro e w' ⟨rfl,rfl⟩)
      |(go_at_call 63;refine (o8 _ _).mono ?_;rintro e w' ⟨rfl,rfl⟩)
      |(go_at_call 66;refine (Q8 _ _).mono ?_;rintro e w' ⟨rfl,rfl⟩)
      |(refine j5 31 (.tmp 78) rfl w.heap.size 82 rfl (bA p.conf (.slice A3 L3 k3)) _ (by have hp:=HP.o _ HKW.o;exact fun j v hv=>match j,hv with|0,hv=>by cases hv;exact hp.d0|1,hv=>by cases hv;exact hp.d1|2,hv=>by cases hv;exact hp.d2) underlying31 rfl S9 ?_ ?_;·rfl)
      |(go_at_call 22;refine (HCC.o _ HKW.o).mono ?_;rintro e w' ⟨rfl,kk⟩;have HKC:=U0 (HKW.o.then kk (by simp));clear kk;have x10:=(HP.o _ HKC.o).d3;rw[f1];try dsimp only[O9])
      |(go_at_call 65;refine (HCV.o _ HKC.o).mono ?_;rintro e w' ⟨rfl,kk⟩;have HKV:=U0 (HKC.o.then kk (by simp));clear kk;have x10:=(HP.o _ HKV.o).d3;rw[v1];try dsimp only[O9]))
     go_ret
     exact⟨by rw[HS.o];first|rfl|simp_all,HW.o.2.then HKV.o (by simp)⟩
   ·skip
    rcases Bool.eq_false_or_eq_true (p.ans.ok) with a1|a1
    rotate_left
    ·skip
     have HS:=U0 (show ok=false by rw[HS1.o];simp[U6,c1,c2,c3,l1,b1,b2,a1])
     clear HS1
     have x0:=HA.o.c0
     have x3:=HA.o.c3
     have x4:=HA.o.c4
     have x5:=HA.o.c5
     have x10:=HA.o.d3
     have x11:=HA.o.d4
     go_wp2_with (first
      |(go_at_call 64;refine (iA _ _ _).mono ?_;rintro e w' ⟨rfl,rfl⟩)
      |(go_at_call 63;refine (o8 _ _).mono ?_;rintro e w' ⟨rfl,rfl⟩)
      |(go_at_call 66;refine (Q8 _ _).mono ?_;rintro e w' ⟨rfl,rfl⟩)
      |(refine j5 28 (.tmp 67) rfl w.heap.size 44 rfl (x9 p.ans av) _ (HP.o _ HKW.o).an underlying28 rfl HIa.o ?_ ?_;·rfl)
      |(go_at_call 21;refine (HCA.o _ HKW.o).mono ?_;rintro e w' ⟨rfl,kk⟩;have HKA:=U0 (HKW.o.then kk (by simp));clear kk;have x10:=(HP.o _ HKA.o).d3;rw[a1];try dsimp only[O9]))
     go_ret
     exact⟨by rw[HS.o];first|rfl|simp_all,HW.o.2.then HKA.o (by simp)⟩
    rcases Bool.eq_false_or_eq_true (bits BinOp.and IntKind.i64 H 64==0) with b3|b3
    ·skip
     rcases Bool.eq_false_or_eq_true (JB p.votes) with v1|v1
     rotate_left
     ·skip
      have HS:=U0 (show ok=false by rw[HS1.o];simp[U6,c1,c2,c3,l1,b1,b2,a1,b3,v1])
      clear HS1
      have x0:=HA.o.c0
      have x3:=HA.o.c3
      have x4:=HA.o.c4
      have x5:=HA.o.c5
      have x10:=HA.o.d3
      have x11:=HA.o.d4
      go_wp2_with (first
       |(go_at_call 64;refine (iA _ _ _).mono ?_;rintro e w' ⟨rfl,rfl⟩)
       |(go_at_call 63;refine (o8 _ _).mono ?_;rintro e w' ⟨rfl,rfl⟩)
       |(go_at_call 66;refine (Q8 _ _).mono ?_;rintro e w' ⟨rfl,rfl⟩)
       |(refine j5 28 (.tmp 67) rfl w.heap.size 44 rfl (x9 p.ans av) _ (HP.o _ HKW.o).an underlying28 rfl HIa.o ?_ ?_;·rfl)
       |(go_at_call 21;refine (HCA.o _ HKW.o).mono ?_;rintro e w' ⟨rfl,kk⟩;have HKA:=U0 (HKW.o.then kk (by simp));clear kk;have x10:=(HP.o _ HKA.o).d3;rw[a1];try dsimp only[O9])
       |(go_at_call 65;refine (HCV.o _ HKA.o).mono ?_;rintro e w' ⟨rfl,kk⟩;have HKV:=U0 (HKA.o.then kk (by simp));clear kk;have x10:=(HP.o _ HKV.o).d3;rw[v1];try dsimp only[O9]))
      go_ret
      exact⟨by rw[HS.o];first|rfl|simp_all,HW.o.2.then HKV.o (by simp)⟩
     have HS:=U0 (show ok=true by rw[HS1.o];simp[U6,c1,c2,c3,l1,b1,b2,a1,b3,v1])
     clear HS1
     have x0:=HA.o.c0
     have x3:=HA.o.c3
     have x4:=HA.o.c4
     have x5:=HA.o.c5
     have x10:=HA.o.d3
     have x11:=HA.o.d4
     go_wp2_with (first
      |(go_at_call 64;refine (iA _ _ _).mono ?_;rintro e w' ⟨rfl,rfl⟩)
      |(go_at_call 63;refine (o8 _ _).mono ?_;rintro e w' ⟨rfl,rfl⟩)
      |(go_at_call 66;refine (Q8 _ _).mono ?_;rintro e w' ⟨rfl,rfl⟩)
      |(refine j5 28 (.tmp 67) rfl w.heap.size 44 rfl (x9 p.ans av) _ (HP.o _ HKW.o).an underlying28 rfl HIa.o ?_ ?_;·rfl)
      |(go_at_call 21;refine (HCA.o _ HKW.o).mono ?_;rintro e w' ⟨rfl,kk⟩;have HKA:=U0 (HKW.o.then kk (by simp));clear kk;have x10:=(HP.o _ HKA.o).d3;rw[a1];try dsimp only[O9])
      |(go_at_call 65;refine (HCV.o _ HKA.o).mono ?_;rintro e w' ⟨rfl,kk⟩;have HKV:=U0 (HKA.o.then kk (by simp));clear kk;have x10:=(HP.o _ HKV.o).d3;rw[v1];try dsimp only[O9]))
     go_ret
     exact⟨by rw[HS.o];first|rfl|simp_all,HW.o.2.then HKV.o (by simp)⟩
    ·skip
     rcases Bool.eq_false_or_eq_true (p.conf.ok) with f1|f1
     rotate_left
     ·skip
      have HS:=U0 (show ok=false by rw[HS1.o];simp[U6,c1,c2,c3,l1,b1,b2,a1,b3,f1])
      clear HS1
      have x0:=HA.o.c0
      have x3:=HA.o.c3
      have x4:=HA.o.c4
      have x5:=HA.o.c5
      have x10:=HA.o.d3
      have x11:=HA.o.d4
      go_wp2_with (first
       |(go_at_call 64;refine (iA _ _ _).mono ?_;rintro e w' ⟨rfl,rfl⟩)
       |(go_at_call 63;refine (o8 _ _).mono ?_;rintro e w' ⟨rfl,rfl⟩)
       |(go_at_call 66;refine (Q8 _ _).mono ?_;rintro e w' ⟨rfl,rfl⟩)
       |(refine j5 28 (.tmp 67) rfl w.heap.size 44 rfl (x9 p.ans av) _ (HP.o _ HKW.o).an underlying28 rfl HIa.o ?_ ?_;·rfl)
       |(go_at_call 21;refine (HCA.o _ HKW.o).mono ?_;rintro e w' ⟨rfl,kk⟩;have HKA:=U0 (HKW.o.then kk (by simp));clear kk;have x10:=(HP.o _ HKA.o).d3;rw[a1];try dsimp only[O9])
       |(refine j5 31 (.tmp 78) rfl w.heap.size 82 rfl (bA p.conf (.slice A3 L3 k3)) _ (by have hp:=HP.o _ HKA.o;exact fun j v hv=>match j,hv with|0,hv=>by cases hv;exact hp.d0|1,hv=>by cases hv;exact hp.d1|2,hv=>by cases hv;exact hp.d2) underlying31 rfl S9 ?_ ?_;·rfl)
       |(go_at_call 22;refine (HCC.o _ HKA.o).mono ?_;rintro e w' ⟨rfl,kk⟩;have HKC:=U0 (HKA.o.then kk (by simp));clear kk;have x10:=(HP.o _ HKC.o).d3;rw[f1];try dsimp only[O9]))
      go_ret
      exact⟨by rw[HS.o];first|rfl|simp_all,HW.o.2.then HKC.o (by simp)⟩
     rcases Bool.eq_false_or_eq_true (JB p.votes) with v1|v1
     rotate_left
     ·skip
      have HS:=U0 (show ok=false by rw[HS1.o];simp[U6,c1,c2,c3,l1,b1,b2,a1,b3,f1,v1])
      clear HS1
      have x0:=HA.o.c0
      have x3:=HA.o.c3
      have x4:=HA.o.c4
      have x5:=HA.o.c5
      have x10:=HA.o.d3
      have x11:=HA.o.d4
      go_wp2_with (first
       |(go_at_call 64;refine (iA _ _ _).mono ?_;rintro e w' ⟨rfl,rfl⟩)
       |(go_at_call 63;refine (o8 _ _).mono ?_;rintro e w' ⟨rfl,rfl⟩)
       |(go_at_call 66;refine (Q8 _ _).mono ?_;rintro e w' ⟨rfl,rfl⟩)
       |(refine j5 28 (.tmp 67) rfl w.heap.size 44 rfl (x9 p.ans av) _ (HP.o _ HKW.o).an underlying28 rfl HIa.o ?_ ?_;·rfl)
       |(go_at_call 21;refine (HCA.o _ HKW.o).mono ?_;rintro e w' ⟨rfl,kk⟩;have HKA:=U0 (HKW.o.then kk (by simp));clear kk;have x10:=(HP.o _ HKA.o).d3;rw[a1];try dsimp only[O9])
       |(refine j5 31 (.tmp 78) rfl w.heap.size 82 rfl (bA p.conf (.slice A3 L3 k3)) _ (by have hp:=HP.o _ HKA.o;exact fun j v hv=>match j,hv with|0,hv=>by cases hv;exact hp.d0|1,hv=>by cases hv;exact hp.d1|2,hv=>by cases hv;exact hp.d2) underlying31 rfl S9 ?_ ?_;·rfl)
       |(go_at_call 22;refine (HCC.o _ HKA.o).mono ?_;rintro e w' ⟨rfl,kk⟩;have HKC:=U0 (HKA.o.then kk (by simp));clear kk;have x10:=(HP.o _ HKC.o).d3;rw[f1];try dsimp only[O9])
       |(go_at_call 65;refine (HCV.o _ HKC.o).mono ?_;rintro e w' ⟨rfl,kk⟩;have HKV:=U0 (HKC.o.then kk (by simp));clear kk;have x10:=(HP.o _ HKV.o).d3;rw[v1];try dsimp only[O9]))
      go_ret
      exact⟨by rw[HS.o];first|rfl|simp_all,HW.o.2.then HKV.o (by simp)⟩
     have HS:=U0 (show ok=true by rw[HS1.o];simp[U6,c1,c2,c3,l1,b1,b2,a1,b3,f1,v1])
     clear HS1
     have x0:=HA.o.c0
     have x3:=HA.o.c3
     have x4:=HA.o.c4
     have x5:=HA.o.c5
     have x10:=HA.o.d3
     have x11:=HA.o.d4
     go_wp2_with (first
      |(go_at_call 64;refine (iA _ _ _).mono ?_;rintro e w' ⟨rfl,rfl⟩)
      |(go_at_call 63;refine (o8 _ _).mono ?_;rintro e w' ⟨rfl,rfl⟩)
      |(go_at_call 66;refine (Q8 _ _).mono ?_;rintro e w' ⟨rfl,rfl⟩)
      |(refine j5 28 (.tmp 67) rfl w.heap.size 44 rfl (x9 p.ans av) _ (HP.o _ HKW.o).an underlying28 rfl HIa.o ?_ ?_;·rfl)
      |(go_at_call 21;refine (HCA.o _ HKW.o).mono ?_;rintro e w' ⟨rfl,kk⟩;have HKA:=U0 (HKW.o.then kk (by simp));clear kk;have x10:=(HP.o _ HKA.o).d3;rw[a1];try dsimp only[O9])
      |(refine j5 31 (.tmp 78) rfl w.heap.size 82 rfl (bA p.conf (.slice A3 L3 k3)) _ (by have hp:=HP.o _ HKA.o;exact fun j v hv=>match j,hv with|0,hv=>by cases hv;exact hp.d0|1,hv=>by cases hv;exact hp.d1|2,hv=>by cases hv;exact hp.d2) underlying31 rfl S9 ?_ ?_;·rfl)
      |(go_at_call 22;refine (HCC.o _ HKA.o).mono ?_;rintro e w' ⟨rfl,kk⟩;have HKC:=U0 (HKA.o.then kk (by simp));clear kk;have x10:=(HP.o _ HKC.o).d3;rw[f1];try dsimp only[O9])
      |(go_at_call 65;refine (HCV.o _ HKC.o).mono ?_;rintro e w' ⟨rfl,kk⟩;have HKV:=U0 (HKC.o.then kk (by simp));clear kk;have x10:=(HP.o _ HKV.o).d3;rw[v1];try dsimp only[O9]))
     go_ret
     exact⟨by rw[HS.o];first|rfl|simp_all,HW.o.2.then HKV.o (by simp)⟩
  ·skip
   rcases Bool.eq_false_or_eq_true (p.req.ok) with q1|q1
   rotate_left
   ·skip
    have HS:=U0 (show ok=false by rw[HS1.o];simp[U6,c1,c2,c3,l1,b1,q1])
    clear HS1
    have x0:=HA.o.c0
    have x3:=HA.o.c3
    have x4:=HA.o.c4
    have x5:=HA.o.c5
    have x10:=HA.o.d3
    have x11:=HA.o.d4
    go_wp2_with (first
     |(go_at_call 64;refine (iA _ _ _).mono ?_;rintro e w' ⟨rfl,rfl⟩)
     |(go_at_call 63;refine (o8 _ _).mono ?_;rintro e w' ⟨rfl,rfl⟩)
     |(go_at_call 66;refine (Q8 _ _).mono ?_;rintro e w' ⟨rfl,rfl⟩)
     |(refine j5 26 (.tmp 56) rfl w.heap.size 7 rfl (U8 p.req ev) _ (HP.o _ HKW.o).rq underlying26 rfl HIr.o ?_ ?_;·rfl)
     |(go_at_call 20;refine (HCQ.o _ HKW.o).mono ?_;rintro e w' ⟨rfl,kk⟩;have HKQ:=U0 (HKW.o.then kk (by simp));clear kk;have x10:=(HP.o _ HKQ.o).d3;rw[q1];try dsimp only[O9]))
    go_ret
    exact⟨by rw[HS.o];first|rfl|simp_all,HW.o.2.then HKQ.o (by simp)⟩
   rcases Bool.eq_false_or_eq_true (bits BinOp.and IntKind.i64 H 32==0) with b2|b2
   ·skip
    rcases Bool.eq_false_or_eq_true (bits BinOp.and IntKind.i64 H 64==0) with b3|b3
    ·skip
     rcases Bool.eq_false_or_eq_true (JB p.votes) with v1|v1
     rotate_left
     ·skip
      have HS:=U0 (show ok=false by rw[HS1.o];simp[U6,c1,c2,c3,l1,b1,q1,b2,b3,v1])
      clear HS1
      have x0:=HA.o.c0
      have x3:=HA.o.c3
      have x4:=HA.o.c4
      have x5:=HA.o.c5
      have x10:=HA.o.d3
      have x11:=HA.o.d4
      go_wp2_with (first
       |(go_at_call 64;refine (iA _ _ _).mono ?_;rintro e w' ⟨rfl,rfl⟩)
       |(go_at_call 63;refine (o8 _ _).mono ?_;rintro e w' ⟨rfl,rfl⟩)
       |(go_at_call 66;refine (Q8 _ _).mono ?_;rintro e w' ⟨rfl,rfl⟩)
       |(refine j5 26 (.tmp 56) rfl w.heap.size 7 rfl (U8 p.req ev) _ (HP.o _ HKW.o).rq underlying26 rfl HIr.o ?_ ?_;·rfl)
       |(go_at_call 20;refine (HCQ.o _ HKW.o).mono ?_;rintro e w' ⟨rfl,kk⟩;have HKQ:=U0 (HKW.o.then kk (by simp));clear kk;have x10:=(HP.o _ HKQ.o).d3;rw[q1];try dsimp only[O9])
       |(go_at_call 65;refine (HCV.o _ HKQ.o).mono ?_;rintro e w' ⟨rfl,kk⟩;have HKV:=U0 (HKQ.o.then kk (by simp));clear kk;have x10:=(HP.o _ HKV.o).d3;rw[v1];try dsimp only[O9]))
      go_ret
      exact⟨by rw[HS.o];first|rfl|simp_all,HW.o.2.then HKV.o (by simp)⟩
     have HS:=U0 (show ok=true by rw[HS1.o];simp[U6,c1,c2,c3,l1,b1,q1,b2,b3,v1])
     clear HS1
     have x0:=HA.o.c0
     have x3:=HA.o.c3
     have x4:=HA.o.c4
     have x5:=HA.o.c5
     have x10:=HA.o.d3
     have x11:=HA.o.d4
     go_wp2_with (first
      |(go_at_call 64;refine (iA _ _ _).mono ?_;rintro e w' ⟨rfl,rfl⟩)
      |(go_at_call 63;refine (o8 _ _).mono ?_;rintro e w' ⟨rfl,rfl⟩)
      |(go_at_call 66;refine (Q8 _ _).mono ?_;rintro e w' ⟨rfl,rfl⟩)
      |(refine j5 26 (.tmp 56) rfl w.heap.size 7 rfl (U8 p.req ev) _ (HP.o _ HKW.o).rq underlying26 rfl HIr.o ?_ ?_;·rfl)
      |(go_at_call 20;refine (HCQ.o _ HKW.o).mono ?_;rintro e w' ⟨rfl,kk⟩;have HKQ:=U0 (HKW.o.then kk (by simp));clear kk;have x10:=(HP.o _ HKQ.o).d3;rw[q1];try dsimp only[O9])
      |(go_at_call 65;refine (HCV.o _ HKQ.o).mono ?_;rintro e w' ⟨rfl,kk⟩;have HKV:=U0 (HKQ.o.then kk (by simp));clear kk;have x10:=(HP.o _ HKV.o).d3;rw[v1];try dsimp only[O9]))
     go_ret
     exact⟨by rw[HS.o];first|rfl|simp_all,HW.o.2.then HKV.o (by simp)⟩
    ·skip
     rcases Bool.eq_false_or_eq_true (p.conf.ok) with f1|f1
     rotate_left
     ·skip
      have HS:=U0 (show ok=false by rw[HS1.o];simp[U6,c1,c2,c3,l1,b1,q1,b2,b3,f1])
      clear HS1
      have x0:=HA.o.c0
      have x3:=HA.o.c3
      have x4:=HA.o.c4
      have x5:=HA.o.c5
      have x10:=HA.o.d3
      have x11:=HA.o.d4
      go_wp2_with (first
       |(go_at_call 64;refine (iA _ _ _).mono ?_;rintro e w' ⟨rfl,rfl⟩)
       |(go_at_call 63;refine (o8 _ _).mono ?_;rintro e w' ⟨rfl,rfl⟩)
       |(go_at_call 66;refine (Q8 _ _).mono ?_;rintro e w' ⟨rfl,rfl⟩)
       |(refine j5 26 (.tmp 56) rfl w.heap.size 7 rfl (U8 p.req ev) _ (HP.o _ HKW.o).rq underlying26 rfl HIr.o ?_ ?_;·rfl)
       |(go_at_call 20;refine (HCQ.o _ HKW.o).mono ?_;rintro e w' ⟨rfl,kk⟩;have HKQ:=U0 (HKW.o.then kk (by simp));clear kk;have x10:=(HP.o _ HKQ.o).d3;rw[q1];try dsimp only[O9])
       |(refine j5 31 (.tmp 78) rfl w.heap.size 82 rfl (bA p.conf (.slice A3 L3 k3)) _ (by have hp:=HP.o _ HKQ.o;exact fun j v hv=>match j,hv with|0,hv=>by cases hv;exact hp.d0|1,hv=>by cases hv;exact hp.d1|2,hv=>by cases hv;exact hp.d2) underlying31 rfl S9 ?_ ?_;·rfl)
       |(go_at_call 22;refine (HCC.o _ HKQ.o).mono ?_;rintro e w' ⟨rfl,kk⟩;have HKC:=U0 (HKQ.o.then kk (by simp));clear kk;have x10:=(HP.o _ HKC.o).d3;rw[f1];try dsimp only[O9]))
      go_ret
      exact⟨by rw[HS.o];first|rfl|simp_all,HW.o.2.then HKC.o (by simp)⟩
     rcases Bool.eq_false_or_eq_true (JB p.votes) with v1|v1
     rotate_left
     ·skip
      have HS:=U0 (show ok=false by rw[HS1.o];simp[U6,c1,c2,c3,l1,b1,q1,b2,b3,f1,v1])
      clear HS1
      have x0:=HA.o.c0
      have x3:=HA.o.c3
      have x4:=HA.o.c4
      have x5:=HA.o.c5
      have x10:=HA.o.d3
      have x11:=HA.o.d4
      go_wp2_with (first
       |(go_at_call 64;refine (iA _ _ _).mono ?_;rintro e w' ⟨rfl,rfl⟩)
       |(go_at_call 63;refine (o8 _ _).mono ?_;rintro e w' ⟨rfl,rfl⟩)
       |(go_at_call 66;refine (Q8 _ _).mono ?_;rintro e w' ⟨rfl,rfl⟩)
       |(refine j5 26 (.tmp 56) rfl w.heap.size 7 rfl (U8 p.req ev) _ (HP.o _ HKW.o).rq underlying26 rfl HIr.o ?_ ?_;·rfl)
       |(go_at_call 20;refine (HCQ.o _ HKW.o).mono ?_;rintro e w' ⟨rfl,kk⟩;have HKQ:=U0 (HKW.o.then kk (by simp));clear kk;have x10:=(HP.o _ HKQ.o).d3;rw[q1];try dsimp only[O9])
       |(refine j5 31 (.tmp 78) rfl w.heap.size 82 rfl (bA p.conf (.slice A3 L3 k3)) _ (by have hp:=HP.o _ HKQ.o;exact fun j v hv=>match j,hv with|0,hv=>by cases hv;exact hp.d0|1,hv=>by cases hv;exact hp.d1|2,hv=>by cases hv;exact hp.d2) underlying31 rfl S9 ?_ ?_;·rfl)
       |(go_at_call 22;refine (HCC.o _ HKQ.o).mono ?_;rintro e w' ⟨rfl,kk⟩;have HKC:=U0 (HKQ.o.then kk (by simp));clear kk;have x10:=(HP.o _ HKC.o).d3;rw[f1];try dsimp only[O9])
       |(go_at_call 65;refine (HCV.o _ HKC.o).mono ?_;rintro e w' ⟨rfl,kk⟩;have HKV:=U0 (HKC.o.then kk (by simp));clear kk;have x10:=(HP.o _ HKV.o).d3;rw[v1];try dsimp only[O9]))
      go_ret
      exact⟨by rw[HS.o];first|rfl|simp_all,HW.o.2.then HKV.o (by simp)⟩
     have HS:=U0 (show ok=true by rw[HS1.o];simp[U6,c1,c2,c3,l1,b1,q1,b2,b3,f1,v1])
     clear HS1
     have x0:=HA.o.c0
     have x3:=HA.o.c3
     have x4:=HA.o.c4
     have x5:=HA.o.c5
     have x10:=HA.o.d3
     have x11:=HA.o.d4
     go_wp2_with (first
      |(go_at_call 64;refine (iA _ _ _).mono ?_;rintro e w' ⟨rfl,rfl⟩)
      |(go_at_call 63;refine (o8 _ _).mono ?_;rintro e w' ⟨rfl,rfl⟩)
      |(go_at_call 66;refine (Q8 _ _).mono ?_;rintro e w' ⟨rfl,rfl⟩)
      |(refine j5 26 (.tmp 56) rfl w.heap.size 7 rfl (U8 p.req ev) _ (HP.o _ HKW.o).rq underlying26 rfl HIr.o ?_ ?_;·rfl)
      |(go_at_call 20;refine (HCQ.o _ HKW.o).mono ?_;rintro e w' ⟨rfl,kk⟩;have HKQ:=U0 (HKW.o.then kk (by simp));clear kk;have x10:=(HP.o _ HKQ.o).d3;rw[q1];try dsimp only[O9])
      |(refine j5 31 (.tmp 78) rfl w.heap.size 82 rfl (bA p.conf (.slice A3 L3 k3)) _ (by have hp:=HP.o _ HKQ.o;exact fun j v hv=>match j,hv with|0,hv=>by cases hv;exact hp.d0|1,hv=>by cases hv;exact hp.d1|2,hv=>by cases hv;exact hp.d2) underlying31 rfl S9 ?_ ?_;·rfl)
      |(go_at_call 22;refine (HCC.o _ HKQ.o).mono ?_;rintro e w' ⟨rfl,kk⟩;have HKC:=U0 (HKQ.o.then kk (by simp));clear kk;have x10:=(HP.o _ HKC.o).d3;rw[f1];try dsimp only[O9])
      |(go_at_call 65;refine (HCV.o _ HKC.o).mono ?_;rintro e w' ⟨rfl,kk⟩;have HKV:=U0 (HKC.o.then kk (by simp));clear kk;have x10:=(HP.o _ HKV.o).d3;rw[v1];try dsimp only[O9]))
     go_ret
     exact⟨by rw[HS.o];first|rfl|simp_all,HW.o.2.then HKV.o (by simp)⟩
   ·skip
    rcases Bool.eq_false_or_eq_true (p.ans.ok) with a1|a1
    rotate_left
    ·skip
     have HS:=U0 (show ok=false by rw[HS1.o];simp[U6,c1,c2,c3,l1,b1,q1,b2,a1])
     clear HS1
     have x0:=HA.o.c0
     have x3:=HA.o.c3
     have x4:=HA.o.c4
     have x5:=HA.o.c5
     have x10:=HA.o.d3
     have x11:=HA.o.d4
     go_wp2_with (first
      |(go_at_call 64;refine (iA _ _ _).mono ?_;rintro e w' ⟨rfl,rfl⟩)
      |(go_at_call 63;refine (o8 _ _).mono ?_;rintro e w' ⟨rfl,rfl⟩)
      |(go_at_call 66;refine (Q8 _ _).mono ?_;rintro e w' ⟨rfl,rfl⟩)
      |(refine j5 26 (.tmp 56) rfl w.heap.size 7 rfl (U8 p.req ev) _ (HP.o _ HKW.o).rq underlying26 rfl HIr.o ?_ ?_;·rfl)
      |(go_at_call 20;refine (HCQ.o _ HKW.o).mono ?_;rintro e w' ⟨rfl,kk⟩;have HKQ:=U0 (HKW.o.then kk (by simp));clear kk;have x10:=(HP.o _ HKQ.o).d3;rw[q1];try dsimp only[O9])
      |(refine j5 28 (.tmp 67) rfl w.heap.size 44 rfl (x9 p.ans av) _ (HP.o _ HKQ.o).an underlying28 rfl HIa.o ?_ ?_;·rfl)
      |(go_at_call 21;refine (HCA.o _ HKQ.o).mono ?_;rintro e w' ⟨rfl,kk⟩;have HKA:=U0 (HKQ.o.then kk (by simp));clear kk;have x10:=(HP.o _ HKA.o).d3;rw[a1];try dsimp only[O9]))
     go_ret
     exact⟨by rw[HS.o];first|rfl|simp_all,HW.o.2.then HKA.o (by simp)⟩
    rcases Bool.eq_false_or_eq_true (bits BinOp.and IntKind.i64 H 64==0) with b3|b3
    ·skip
     rcases Bool.eq_false_or_eq_true (JB p.votes) with v1|v1
     rotate_left
     ·skip
      have HS:=U0 (show ok=false by rw[HS1.o];simp[U6,c1,c2,c3,l1,b1,q1,b2,a1,b3,v1])
      clear HS1
      have x0:=HA.o.c0
      have x3:=HA.o.c3
      have x4:=HA.o.c4
      have x5:=HA.o.c5
      have x10:=HA.o.d3
      have x11:=HA.o.d4
      go_wp2_with (first
       |(go_at_call 64;refine (iA _ _ _).mono ?_;rintro e w' ⟨rfl,rfl⟩)
       |(go_at_call 63;refine (o8 _ _).mono ?_;rintro e w' ⟨rfl,rfl⟩)
       |(go_at_call 66;refine (Q8 _ _).mono ?_;rintro e w' ⟨rfl,rfl⟩)
       |(refine j5 26 (.tmp 56) rfl w.heap.size 7 rfl (U8 p.req ev) _ (HP.o _ HKW.o).rq underlying26 rfl HIr.o ?_ ?_;·rfl)
       |(go_at_call 20;refine (HCQ.o _ HKW.o).mono ?_;rintro e w' ⟨rfl,kk⟩;have HKQ:=U0 (HKW.o.then kk (by simp));clear kk;have x10:=(HP.o _ HKQ.o).d3;rw[q1];try dsimp only[O9])
       |(refine j5 28 (.tmp 67) rfl w.heap.size 44 rfl (x9 p.ans av) _ (HP.o _ HKQ.o).an underlying28 rfl HIa.o ?_ ?_;·rfl)
       |(go_at_call 21;refine (HCA.o _ HKQ.o).mono ?_;rintro e w' ⟨rfl,kk⟩;have HKA:=U0 (HKQ.o.then kk (by simp));clear kk;have x10:=(HP.o _ HKA.o).d3;rw[a1];try dsimp only[O9])
       |(go_at_call 65;refine (HCV.o _ HKA.o).mono ?_;rintro e w' ⟨rfl,kk⟩;have HKV:=U0 (HKA.o.then kk (by simp));clear kk;have x10:=(HP.o _ HKV.o).d3;rw[v1];try dsimp only[O9]))
      go_ret
      exact⟨by rw[HS.o];first|rfl|simp_all,HW.o.2.then HKV.o (by simp)⟩
     have HS:=U0 (show ok=true by rw[HS1.o];simp[U6,c1,c2,c3,l1,b1,q1,b2,a1,b3,v1])
     clear HS1
     have x0:=HA.o.c0
     have x3:=HA.o.c3
     have x4:=HA.o.c4
     have x5:=HA.o.c5
     have x10:=HA.o.d3
     have x11:=HA.o.d4
     go_wp2_with (first
      |(go_at_call 64;refine (iA _ _ _).mono ?_;rintro e w' ⟨rfl,rfl⟩)
      |(go_at_call 63;refine (o8 _ _).mono ?_;rintro e w' ⟨rfl,rfl⟩)
      |(go_at_call 66;refine (Q8 _ _).mono ?_;rintro e w' ⟨rfl,rfl⟩)
      |(refine j5 26 (.tmp 56) rfl w.heap.size 7 rfl (U8 p.req ev) _ (HP.o _ HKW.o).rq underlying26 rfl HIr.o ?_ ?_;·rfl)
      |(go_at_call 20;refine (HCQ.o _ HKW.o).mono ?_;rintro e w' ⟨rfl,kk⟩;have HKQ:=U0 (HKW.o.then kk (by simp));clear kk;have x10:=(HP.o _ HKQ.o).d3;rw[q1];try dsimp only[O9])
      |(refine j5 28 (.tmp 67) rfl w.heap.size 44 rfl (x9 p.ans av) _ (HP.o _ HKQ.o).an underlying28 rfl HIa.o ?_ ?_;·rfl)
      |(go_at_call 21;refine (HCA.o _ HKQ.o).mono ?_;rintro e w' ⟨rfl,kk⟩;have HKA:=U0 (HKQ.o.then kk (by simp));clear kk;have x10:=(HP.o _ HKA.o).d3;rw[a1];try dsimp only[O9])
      |(go_at_call 65;refine (HCV.o _ HKA.o).mono ?_;rintro e w' ⟨rfl,kk⟩;have HKV:=U0 (HKA.o.then kk (by simp));clear kk;have x10:=(HP.o _ HKV.o).d3;rw[v1];try dsimp only[O9]))
     go_ret
     exact⟨by rw[HS.o];first|rfl|simp_all,HW.o.2.then HKV.o (by simp)⟩
    ·skip
     rcases Bool.eq_false_or_eq_true (p.conf.ok) with f1|f1
     rotate_left
     ·skip
      have HS:=U0 (show ok=false by rw[HS1.o];simp[U6,c1,c2,c3,l1,b1,q1,b2,a1,b3,f1])
      clear HS1
      have x0:=HA.o.c0
      have x3:=HA.o.c3
      have x4:=HA.o.c4
      have x5:=HA.o.c5
      have x10:=HA.o.d3
      have x11:=HA.o.d4
      go_wp2_with (first
       |(go_at_call 64;refine (iA _ _ _).mono ?_;rintro e w' ⟨rfl,rfl⟩)
       |(go_at_call 63;refine (o8 _ _).mono ?_;rintro e w' ⟨rfl,rfl⟩)
       |(go_at_call 66;refine (Q8 _ _).mono ?_;rintro e w' ⟨rfl,rfl⟩)
       |(refine j5 26 (.tmp 56) rfl w.heap.size 7 rfl (U8 p.req ev) _ (HP.o _ HKW.o).rq underlying26 rfl HIr.o ?_ ?_;·rfl)
       |(go_at_call 20;refine (HCQ.o _ HKW.o).mono ?_;rintro e w' ⟨rfl,kk⟩;have HKQ:=U0 (HKW.o.then kk (by simp));clear kk;have x10:=(HP.o _ HKQ.o).d3;rw[q1];try dsimp only[O9])
       |(refine j5 28 (.tmp 67) rfl w.heap.size 44 rfl (x9 p.ans av) _ (HP.o _ HKQ.o).an underlying28 rfl HIa.o ?_ ?_;·rfl)
       |(go_at_call 21;refine (HCA.o _ HKQ.o).mono ?_;rintro e w' ⟨rfl,kk⟩;have HKA:=U0 (HKQ.o.then kk (by simp));clear kk;have x10:=(HP.o _ HKA.o).d3;rw[a1];try dsimp only[O9])
       |(refine j5 31 (.tmp 78) rfl w.heap.size 82 rfl (bA p.conf (.slice A3 L3 k3)) _ (by have hp:=HP.o _ HKA.o;exact fun j v hv=>match j,hv with|0,hv=>by cases hv;exact hp.d0|1,hv=>by cases hv;exact hp.d1|2,hv=>by cases hv;exact hp.d2) underlying31 rfl S9 ?_ ?_;·rfl)
       |(go_at_call 22;refine (HCC.o _ HKA.o).mono ?_;rintro e w' ⟨rfl,kk⟩;have HKC:=U0 (HKA.o.then kk (by simp));clear kk;have x10:=(HP.o _ HKC.o).d3;rw[f1];try dsimp only[O9]))
      go_ret
      exact⟨by rw[HS.o];first|rfl|simp_all,HW.o.2.then HKC.o (by simp)⟩
     rcases Bool.eq_false_or_eq_true (JB p.votes) with v1|v1
     rotate_left
     ·skip
      have HS:=U0 (show ok=false by rw[HS1.o];simp[U6,c1,c2,c3,l1,b1,q1,b2,a1,b3,f1,v1])
      clear HS1
      have x0:=HA.o.c0
      have x3:=HA.o.c3
      have x4:=HA.o.c4
      have x5:=HA.o.c5
      have x10:=HA.o.d3
      have x11:=HA.o.d4
      go_wp2_with (first
       |(go_at_call 64;refine (iA _ _ _).mono ?_;rintro e w' ⟨rfl,rfl⟩)
       |(go_at_call 63;refine (o8 _ _).mono ?_;rintro e w' ⟨rfl,rfl⟩)
       |(go_at_call 66;refine (Q8 _ _).mono ?_;rintro e w' ⟨rfl,rfl⟩)
       |(refine j5 26 (.tmp 56) rfl w.heap.size 7 rfl (U8 p.req ev) _ (HP.o _ HKW.o).rq underlying26 rfl HIr.o ?_ ?_;·rfl)
       |(go_at_call 20;refine (HCQ.o _ HKW.o).mono ?_;rintro e w' ⟨rfl,kk⟩;have HKQ:=U0 (HKW.o.then kk (by simp));clear kk;have x10:=(HP.o _ HKQ.o).d3;rw[q1];try dsimp only[O9])
       |(refine j5 28 (.tmp 67) rfl w.heap.size 44 rfl (x9 p.ans av) _ (HP.o _ HKQ.o).an underlying28 rfl HIa.o ?_ ?_;·rfl)
       |(go_at_call 21;refine (HCA.o _ HKQ.o).mono ?_;rintro e w' ⟨rfl,kk⟩;have HKA:=U0 (HKQ.o.then kk (by simp));clear kk;have x10:=(HP.o _ HKA.o).d3;rw[a1];try dsimp only[O9])
       |(refine j5 31 (.tmp 78) rfl w.heap.size 82 rfl (bA p.conf (.slice A3 L3 k3)) _ (by have hp:=HP.o _ HKA.o;exact fun j v hv=>match j,hv with|0,hv=>by cases hv;exact hp.d0|1,hv=>by cases hv;exact hp.d1|2,hv=>by cases hv;exact hp.d2) underlying31 rfl S9 ?_ ?_;·rfl)
       |(go_at_call 22;refine (HCC.o _ HKA.o).mono ?_;rintro e w' ⟨rfl,kk⟩;have HKC:=U0 (HKA.o.then kk (by simp));clear kk;have x10:=(HP.o _ HKC.o).d3;rw[f1];try dsimp only[O9])
       |(go_at_call 65;refine (HCV.o _ HKC.o).mono ?_;rintro e w' ⟨rfl,kk⟩;have HKV:=U0 (HKC.o.then kk (by simp));clear kk;have x10:=(HP.o _ HKV.o).d3;rw[v1];try dsimp only[O9]))
      go_ret
      exact⟨by rw[HS.o];first|rfl|simp_all,HW.o.2.then HKV.o (by simp)⟩
     have HS:=U0 (show ok=true by rw[HS1.o];simp[U6,c1,c2,c3,l1,b1,q1,b2,a1,b3,f1,v1])
     clear HS1
     have x0:=HA.o.c0
     have x3:=HA.o.c3
     have x4:=HA.o.c4
     have x5:=HA.o.c5
     have x10:=HA.o.d3
     have x11:=HA.o.d4
     go_wp2_with (first
      |(go_at_call 64;refine (iA _ _ _).mono ?_;rintro e w' ⟨rfl,rfl⟩)
      |(go_at_call 63;refine (o8 _ _).mono ?_;rintro e w' ⟨rfl,rfl⟩)
      |(go_at_call 66;refine (Q8 _ _).mono ?_;rintro e w' ⟨rfl,rfl⟩)
      |(refine j5 26 (.tmp 56) rfl w.heap.size 7 rfl (U8 p.req ev) _ (HP.o _ HKW.o).rq underlying26 rfl HIr.o ?_ ?_;·rfl)
      |(go_at_call 20;refine (HCQ.o _ HKW.o).mono ?_;rintro e w' ⟨rfl,kk⟩;have HKQ:=U0 (HKW.o.then kk (by simp));clear kk;have x10:=(HP.o _ HKQ.o).d3;rw[q1];try dsimp only[O9])
      |(refine j5 28 (.tmp 67) rfl w.heap.size 44 rfl (x9 p.ans av) _ (HP.o _ HKQ.o).an underlying28 rfl HIa.o ?_ ?_;·rfl)
      |(go_at_call 21;refine (HCA.o _ HKQ.o).mono ?_;rintro e w' ⟨rfl,kk⟩;have HKA:=U0 (HKQ.o.then kk (by simp));clear kk;have x10:=(HP.o _ HKA.o).d3;rw[a1];try dsimp only[O9])
      |(refine j5 31 (.tmp 78) rfl w.heap.size 82 rfl (bA p.conf (.slice A3 L3 k3)) _ (by have hp:=HP.o _ HKA.o;exact fun j v hv=>match j,hv with|0,hv=>by cases hv;exact hp.d0|1,hv=>by cases hv;exact hp.d1|2,hv=>by cases hv;exact hp.d2) underlying31 rfl S9 ?_ ?_;·rfl)
      |(go_at_call 22;refine (HCC.o _ HKA.o).mono ?_;rintro e w' ⟨rfl,kk⟩;have HKC:=U0 (HKA.o.then kk (by simp));clear kk;have x10:=(HP.o _ HKC.o).d3;rw[f1];try dsimp only[O9])
      |(go_at_call 65;refine (HCV.o _ HKC.o).mono ?_;rintro e w' ⟨rfl,kk⟩;have HKV:=U0 (HKC.o.then kk (by simp));clear kk;have x10:=(HP.o _ HKV.o).d3;rw[v1];try dsimp only[O9]))
     go_ret
     exact⟨by rw[HS.o];first|rfl|simp_all,HW.o.2.then HKV.o (by simp)⟩
end Go.Proofs.YthfdkonhjpdflaaGreatDoor
