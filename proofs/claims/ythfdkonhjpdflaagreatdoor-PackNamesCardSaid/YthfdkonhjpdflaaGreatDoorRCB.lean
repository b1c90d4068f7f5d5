import Derived.Test.YthfdkonhjpdflaaGreatDoorRCA
import Derived.Test.YthfdkonhjpdflaaGreatDoorPkG
import Derived.Test.YthfdkonhjpdflaaGreatDoorPkC
namespace Go.Proofs.YthfdkonhjpdflaaGreatDoor
open Go.RowKit Go.Proofs.Tryz
set_option linter.unusedVariables false
set_option maxRecDepth 100000
set_option linter.unusedSimpArgs false
set_option maxHeartbeats 16000000
theorem XG (F:List Nat) (r:RQ) (ev:Value) (w:World) (h:dH w F r ev):
 Calls prog 80 #[.agg (U8 r ev).toArray] w fun e w'=>e= .returned (.int .i64 (O9 r.ok))∧U1 [] w w':=by
 obtain⟨hn,A,c,g,rfl,_,hcm,_,_⟩:=h
 have hlm:r.env.length≤9223372036854775807:=by unfold maxLen at hcm;omega
 have k1:=(U1.refl [] w).alloc (.cells (U8 r (.slice A r.env.length c)).toArray 26)
 have r1:=l5.new w 26 (U8 r (.slice A r.env.length c)).toArray
 obtain⟨w1,hw1⟩:∃ w1,w.alloc (.cells (U8 r (.slice A r.env.length c)).toArray 26)=w1:=⟨_,rfl⟩
 rw[hw1] at k1 r1
 have HW:=U0 (U2 hw1 k1)
 have x0:w1.cell? ⟨w.heap.size,0,none⟩=some (.int .i64 r.client):=r1.cell 0
 have x1:w1.cell? ⟨w.heap.size,1,none⟩=some (.int .i64 r.num):=r1.cell 1
 have x2:w1.cell? ⟨w.heap.size,2,none⟩=some (.int .i64 r.kind):=r1.cell 2
 have x3:w1.cell? ⟨w.heap.size,3,none⟩=some (.int .i64 r.version):=r1.cell 3
 have x5:=(r1.cell 36).trans (WC hn)
 have HX:=U0 (r1.range (IE r (.slice A r.env.length c)))
 have HQ:=U0 (ZF r.name iE hn bL w1)
 have HI:=U0 (show (prog.info? 23).map (·.size)=some (U7 r.name).length by rw[A8,hn];exact xB)
 have HS0:=U0 (show r.ok=(qB r.client 0 2 && (qB r.num 1 9007199254740991 && (if r.kind=1∨r.kind=3 then (r.version==0) && (r.env.length==0) else if r.kind=2 then qB r.version 1 9007199254740991 && qB (r.env.length:Int) 1 1024 else if r.kind=4 then qB r.version 1 255 && (decide (r.name=iE) && (r.env.length==0)) else false))) from rfl)
 generalize r.ok=ok at*
 obtain⟨a0,a1,a2,a3,nr,er⟩:=r
 dsimp only at hlm x0 x1 x2 x3 x5 HX HQ HI HS0 HW hn ⊢
 obtain⟨L,hL⟩:∃ L,er.length=L:=⟨_,rfl⟩
 rw[hL] at hlm x5 HS0 HW ⊢
 clear k1 r1 hw1 hn hL
 rcases Bool.eq_false_or_eq_true (qB a0 0 2) with c0|c0
 ·rcases Bool.eq_false_or_eq_true (qB a1 1 9007199254740991) with c1|c1
  ·by_cases k1:a2=1
   ·subst k1
    by_cases v0:a3=0
    ·subst v0
     by_cases e0:L=0
     ·subst e0
      have HS:=U0 (show ok=true by rw[HS0.o];simp[c0,c1])
      clear HS0
      go_enter func80,ntmps80
      go_wp2_with (first
       |(with_reducible refine Z4 _ _ rfl 26 (.tmp 0) rfl _ rfl HW.o.1 ?_)
       |(go_at_call 67;refine (aA _ _ _ _).mono ?_;rintro e w' ⟨rfl,rfl⟩)
       |(go_at_call 71;refine (eD _ _).mono ?_;rintro e w' ⟨rfl,rfl⟩))
      go_ret
      exact⟨by rw[HS.o];first|rfl|simp_all,HW.o.2⟩
     ·have e0b:(L==0)=false:=by simp[e0]
      have e1:((L:Int)==0)=false:=by simp[e0]
      have HS:=U0 (show ok=false by rw[HS0.o];simp[c0,c1,e0])
      clear HS0
      go_enter func80,ntmps80
      go_wp2_with (first
       |(with_reducible refine Z4 _ _ rfl 26 (.tmp 0) rfl _ rfl HW.o.1 ?_)
       |(go_at_call 67;refine (aA _ _ _ _).mono ?_;rintro e w' ⟨rfl,rfl⟩)
       |(go_at_call 71;refine (eD _ _).mono ?_;rintro e w' ⟨rfl,rfl⟩))
      go_ret
      exact⟨by rw[HS.o];first|rfl|simp_all,HW.o.2⟩
    ·have v0b:(a3==0)=false:=by simp[v0]
     have HS:=U0 (show ok=false by rw[HS0.o];simp[c0,c1,v0])
     clear HS0
     go_enter func80,ntmps80
     go_wp2_with (first
      |(with_reducible refine Z4 _ _ rfl 26 (.tmp 0) rfl _ rfl HW.o.1 ?_)
      |(go_at_call 67;refine (aA _ _ _ _).mono ?_;rintro e w' ⟨rfl,rfl⟩)
      |(go_at_call 71;refine (eD _ _).mono ?_;rintro e w' ⟨rfl,rfl⟩))
     go_ret
     exact⟨by rw[HS.o];first|rfl|simp_all,HW.o.2⟩
   ·have k1b:(a2==1)=false:=by simp[k1]
    by_cases k3:a2=3
    ·subst k3
     by_cases v0:a3=0
     ·subst v0
      by_cases e0:L=0
      ·subst e0
       have HS:=U0 (show ok=true by rw[HS0.o];simp[c0,c1])
       clear HS0
       go_enter func80,ntmps80
       go_wp2_with (first
        |(with_reducible refine Z4 _ _ rfl 26 (.tmp 0) rfl _ rfl HW.o.1 ?_)
        |(go_at_call 67;refine (aA _ _ _ _).mono ?_;rintro e w' ⟨rfl,rfl⟩)
        |(go_at_call 71;refine (eD _ _).mono ?_;rintro e w' ⟨rfl,rfl⟩))
       go_ret
       exact⟨by rw[HS.o];first|rfl|simp_all,HW.o.2⟩
      ·have e0b:(L==0)=false:=by simp[e0]
       have e1:((L:Int)==0)=false:=by simp[e0]
       have HS:=U0 (show ok=false by rw[HS0.o];simp[c0,c1,e0])
       clear HS0
       go_enter func80,ntmps80
       go_wp2_with (first
        |(with_reducible refine Z4 _ _ rfl 26 (.tmp 0) rfl _ rfl HW.o.1 ?_)
        |(go_at_call 67;refine (aA _ _ _ _).mono ?_;rintro e w' ⟨rfl,rfl⟩)
        |(go_at_call 71;refine (eD _ _).mono ?_;rintro e w' ⟨rfl,rfl⟩))
       go_ret
       exact⟨by rw[HS.o];first|rfl|simp_all,HW.o.2⟩
     ·have v0b:(a3==0)=false:=by simp[v0]
      have HS:=U0 (show ok=false by rw[HS0.o];simp[c0,c1,v0])
      clear HS0
      go_enter func80,ntmps80
      go_wp2_with (first
       |(with_reducible refine Z4 _ _ rfl 26 (.tmp 0) rfl _ rfl HW.o.1 ?_)
       |(go_at_call 67;refine (aA _ _ _ _).mono ?_;rintro e w' ⟨rfl,rfl⟩)
       |(go_at_call 71;refine (eD _ _).mono ?_;rintro e w' ⟨rfl,rfl⟩))
      go_ret
      exact⟨by rw[HS.o];first|rfl|simp_all,HW.o.2⟩
    ·have k3b:(a2==3)=false:=by simp[k3]
     by_cases k2:a2=2
     ·subst k2
      rcases Bool.eq_false_or_eq_true (qB a3 1 9007199254740991) with i1|i1
      ·rcases Bool.eq_false_or_eq_true (qB (L:Int) 1 1024) with i2|i2
       ·have HS:=U0 (show ok=true by rw[HS0.o];simp[c0,c1,i1,i2])
        clear HS0
        go_enter func80,ntmps80
        go_wp2_with (first
         |(with_reducible refine Z4 _ _ rfl 26 (.tmp 0) rfl _ rfl HW.o.1 ?_)
         |(go_at_call 67;refine (aA _ _ _ _).mono ?_;rintro e w' ⟨rfl,rfl⟩)
         |(go_at_call 71;refine (eD _ _).mono ?_;rintro e w' ⟨rfl,rfl⟩))
        go_ret
        exact⟨by rw[HS.o];first|rfl|simp_all,HW.o.2⟩
       ·have HS:=U0 (show ok=false by rw[HS0.o];simp[c0,c1,i1,i2])
        clear HS0
        go_enter func80,ntmps80
        go_wp2_with (first
         |(with_reducible refine Z4 _ _ rfl 26 (.tmp 0) rfl _ rfl HW.o.1 ?_)
         |(go_at_call 67;refine (aA _ _ _ _).mono ?_;rintro e w' ⟨rfl,rfl⟩)
         |(go_at_call 71;refine (eD _ _).mono ?_;rintro e w' ⟨rfl,rfl⟩))
        go_ret
        exact⟨by rw[HS.o];first|rfl|simp_all,HW.o.2⟩
      ·have HS:=U0 (show ok=false by rw[HS0.o];simp[c0,c1,i1])
       clear HS0
       go_enter func80,ntmps80
       go_wp2_with (first
        |(with_reducible refine Z4 _ _ rfl 26 (.tmp 0) rfl _ rfl HW.o.1 ?_)
        |(go_at_call 67;refine (aA _ _ _ _).mono ?_;rintro e w' ⟨rfl,rfl⟩)
        |(go_at_call 71;refine (eD _ _).mono ?_;rintro e w' ⟨rfl,rfl⟩))
       go_ret
       exact⟨by rw[HS.o];first|rfl|simp_all,HW.o.2⟩
     ·have k2b:(a2==2)=false:=by simp[k2]
      by_cases k4:a2=4
      ·subst k4
       rcases Bool.eq_false_or_eq_true (qB a3 1 255) with i1|i1
       ·by_cases e0:L=0
        ·subst e0
         by_cases nz:nr=iE
         ·have dn:decide (nr=iE)=true:=by simp[nz]
          rw[dn] at HQ
          have HS:=U0 (show ok=true by rw[HS0.o];simp[c0,c1,i1,nz])
          clear HS0
          go_enter func80,ntmps80
          go_wp2_with (first
           |(with_reducible refine Z4 _ _ rfl 26 (.tmp 0) rfl _ rfl HW.o.1 ?_)
           |(go_at_call 67;refine (aA _ _ _ _).mono ?_;rintro e w' ⟨rfl,rfl⟩)
           |(go_at_call 71;refine (eD _ _).mono ?_;rintro e w' ⟨rfl,rfl⟩)
           |(refine j5 23 (.tmp 60) rfl w.heap.size 4 rfl (U7 nr) _ HX.o underlying23 rfl HI.o ?_ ?_;·rfl)
           |(refine EB _ 23 rfl _ (yE _) ?_ ?_;·rfl)
           |(refine jA _ .eql 23 23 (.tmp 61) (.tmp 62) rfl YB (U7 nr).toArray (U7 iE).toArray rfl rfl _ HQ.o ?_ ?_;·rfl))
          go_ret
          exact⟨by rw[HS.o];first|rfl|simp_all,HW.o.2⟩
         ·have dn:decide (nr=iE)=false:=by simp[nz]
          rw[dn] at HQ
          have HS:=U0 (show ok=false by rw[HS0.o];simp[c0,c1,i1,nz])
          clear HS0
          go_enter func80,ntmps80
          go_wp2_with (first
           |(with_reducible refine Z4 _ _ rfl 26 (.tmp 0) rfl _ rfl HW.o.1 ?_)
           |(go_at_call 67;refine (aA _ _ _ _).mono ?_;rintro e w' ⟨rfl,rfl⟩)
           |(go_at_call 71;refine (eD _ _).mono ?_;rintro e w' ⟨rfl,rfl⟩)
           |(refine j5 23 (.tmp 60) rfl w.heap.size 4 rfl (U7 nr) _ HX.o underlying23 rfl HI.o ?_ ?_;·rfl)
           |(refine EB _ 23 rfl _ (yE _) ?_ ?_;·rfl)
           |(refine jA _ .eql 23 23 (.tmp 61) (.tmp 62) rfl YB (U7 nr).toArray (U7 iE).toArray rfl rfl _ HQ.o ?_ ?_;·rfl))
          go_ret
          exact⟨by rw[HS.o];first|rfl|simp_all,HW.o.2⟩
        ·have e0b:(L==0)=false:=by simp[e0]
         have e1:((L:Int)==0)=false:=by simp[e0]
         have HS:=U0 (show ok=false by rw[HS0.o];simp[c0,c1,i1,e0])
         clear HS0
         go_enter func80,ntmps80
         go_wp2_with (first
          |(with_reducible refine Z4 _ _ rfl 26 (.tmp 0) rfl _ rfl HW.o.1 ?_)
          |(go_at_call 67;refine (aA _ _ _ _).mono ?_;rintro e w' ⟨rfl,rfl⟩)
          |(go_at_call 71;refine (eD _ _).mono ?_;rintro e w' ⟨rfl,rfl⟩))
         go_ret
         exact⟨by rw[HS.o];first|rfl|simp_all,HW.o.2⟩
       ·have HS:=U0 (show ok=false by rw[HS0.o];simp[c0,c1,i1])
        clear HS0
        go_enter func80,ntmps80
        go_wp2_with (first
         |(with_reducible refine Z4 _ _ rfl 26 (.tmp 0) rfl _ rfl HW.o.1 ?_)
         |(go_at_call 67;refine (aA _ _ _ _).mono ?_;rintro e w' ⟨rfl,rfl⟩)
         |(go_at_call 71;refine (eD _ _).mono ?_;rintro e w' ⟨rfl,rfl⟩))
        go_ret
        exact⟨by rw[HS.o];first|rfl|simp_all,HW.o.2⟩
      ·have k4b:(a2==4)=false:=by simp[k4]
       have HS:=U0 (show ok=false by rw[HS0.o];simp[c0,c1,k1,k2,k3,k4])
       clear HS0
       go_enter func80,ntmps80
       go_wp2_with (first
        |(with_reducible refine Z4 _ _ rfl 26 (.tmp 0) rfl _ rfl HW.o.1 ?_)
        |(go_at_call 67;refine (aA _ _ _ _).mono ?_;rintro e w' ⟨rfl,rfl⟩)
        |(go_at_call 71;refine (eD _ _).mono ?_;rintro e w' ⟨rfl,rfl⟩))
       go_ret
       exact⟨by rw[HS.o];first|rfl|simp_all,HW.o.2⟩
  ·by_cases k1:a2=1
   ·subst k1
    have HS:=U0 (show ok=false by rw[HS0.o];simp[c0,c1])
    clear HS0
    go_enter func80,ntmps80
    go_wp2_with (first
     |(with_reducible refine Z4 _ _ rfl 26 (.tmp 0) rfl _ rfl HW.o.1 ?_)
     |(go_at_call 67;refine (aA _ _ _ _).mono ?_;rintro e w' ⟨rfl,rfl⟩)
     |(go_at_call 71;refine (eD _ _).mono ?_;rintro e w' ⟨rfl,rfl⟩))
    go_ret
    exact⟨by rw[HS.o];first|rfl|simp_all,HW.o.2⟩
   ·have k1b:(a2==1)=false:=by simp[k1]
    by_cases k3:a2=3
    ·subst k3
     have HS:=U0 (show ok=false by rw[HS0.o];simp[c0,c1])
     clear HS0
     go_enter func80,ntmps80
     go_wp2_with (first
      |(with_reducible refine Z4 _ _ rfl 26 (.tmp 0) rfl _ rfl HW.o.1 ?_)
      |(go_at_call 67;refine (aA _ _ _ _).mono ?_;rintro e w' ⟨rfl,rfl⟩)
      |(go_at_call 71;refine (eD _ _).mono ?_;rintro e w' ⟨rfl,rfl⟩))
     go_ret
     exact⟨by rw[HS.o];first|rfl|simp_all,HW.o.2⟩
    ·have k3b:(a2==3)=false:=by simp[k3]
     by_cases k2:a2=2
     ·subst k2
      have HS:=U0 (show ok=false by rw[HS0.o];simp[c0,c1])
      clear HS0
      go_enter func80,ntmps80
      go_wp2_with (first
       |(with_reducible refine Z4 _ _ rfl 26 (.tmp 0) rfl _ rfl HW.o.1 ?_)
       |(go_at_call 67;refine (aA _ _ _ _).mono ?_;rintro e w' ⟨rfl,rfl⟩)
       |(go_at_call 71;refine (eD _ _).mono ?_;rintro e w' ⟨rfl,rfl⟩))
      go_ret
      exact⟨by rw[HS.o];first|rfl|simp_all,HW.o.2⟩
     ·have k2b:(a2==2)=false:=by simp[k2]
      by_cases k4:a2=4
      ·subst k4
       have HS:=U0 (show ok=false by rw[HS0.o];simp[c0,c1])
       clear HS0
       go_enter func80,ntmps80
       go_wp2_with (first
        |(with_reducible refine Z4 _ _ rfl 26 (.tmp 0) rfl _ rfl HW.o.1 ?_)
        |(go_at_call 67;refine (aA _ _ _ _).mono ?_;rintro e w' ⟨rfl,rfl⟩)
        |(go_at_call 71;refine (eD _ _).mono ?_;rintro e w' ⟨rfl,rfl⟩))
       go_ret
       exact⟨by rw[HS.o];first|rfl|simp_all,HW.o.2⟩
      ·have k4b:(a2==4)=false:=by simp[k4]
       have HS:=U0 (show ok=false by rw[HS0.o];simp[c0,c1,k1,k2,k3,k4])
       clear HS0
       go_enter func80,ntmps80
       go_wp2_with (first
        |(with_reducible refine Z4 _ _ rfl 26 (.tmp 0) rfl _ rfl HW.o.1 ?_)
        |(go_at_call 67;refine (aA _ _ _ _).mono ?_;rintro e w' ⟨rfl,rfl⟩)
        |(go_at_call 71;refine (eD _ _).mono ?_;rintro e w' ⟨rfl,rfl⟩))
       go_ret
       exact⟨by rw[HS.o];first|rfl|simp_all,HW.o.2⟩
 ·by_cases k1:a2=1
  ·subst k1
   have HS:=U0 (show ok=false by rw[HS0.o];simp[c0])
   clear HS0
   go_enter func80,ntmps80
   go_wp2_with (first
    |(with_reducible refine Z4 _ _ rfl 26 (.tmp 0) rfl _ rfl HW.o.1 ?_)
    |(go_at_call 67;refine (aA _ _ _ _).mono ?_;rintro e w' ⟨rfl,rfl⟩)
    |(go_at_call 71;refine (eD _ _).mono ?_;rintro e w' ⟨rfl,rfl⟩))
   go_ret
   exact⟨by rw[HS.o];first|rfl|simp_all,HW.o.2⟩
  ·have k1b:(a2==1)=false:=by simp[k1]
   by_cases k3:a2=3
   ·subst k3
    have HS:=U0 (show ok=false by rw[HS0.o];simp[c0])
    clear HS0
    go_enter func80,ntmps80
    go_wp2_with (first
     |(with_reducible refine Z4 _ _ rfl 26 (.tmp 0) rfl _ rfl HW.o.1 ?_)
     |(go_at_call 67;refine (aA _ _ _ _).mono ?_;rintro e w' ⟨rfl,rfl⟩)
     |(go_at_call 71;refine (eD _ _).mono ?_;rintro e w' ⟨rfl,rfl⟩))
    go_ret
    exact⟨by rw[HS.o];first|rfl|simp_all,HW.o.2⟩
   ·have k3b:(a2==3)=false:=by simp[k3]
    by_cases k2:a2=2
    ·subst k2
     have HS:=U0 (show ok=false by rw[HS0.o];simp[c0])
     clear HS0
     go_enter func80,ntmps80
     go_wp2_with (first
      |(with_reducible refine Z4 _ _ rfl 26 (.tmp 0) rfl _ rfl HW.o.1 ?_)
      |(go_at_call 67;refine (aA _ _ _ _).mono ?_;rintro e w' ⟨rfl,rfl⟩)
      |(go_at_call 71;refine (eD _ _).mono ?_;rintro e w' ⟨rfl,rfl⟩))
     go_ret
     exact⟨by rw[HS.o];first|rfl|simp_all,HW.o.2⟩
    ·have k2b:(a2==2)=false:=by simp[k2]
     by_cases k4:a2=4
     ·subst k4
      have HS:=U0 (show ok=false by rw[HS0.o];simp[c0])
      clear HS0
      go_enter func80,ntmps80
      go_wp2_with (first
       |(with_reducible refine Z4 _ _ rfl 26 (.tmp 0) rfl _ rfl HW.o.1 ?_)
       |(go_at_call 67;refine (aA _ _ _ _).mono ?_;rintro e w' ⟨rfl,rfl⟩)
       |(go_at_call 71;refine (eD _ _).mono ?_;rintro e w' ⟨rfl,rfl⟩))
      go_ret
      exact⟨by rw[HS.o];first|rfl|simp_all,HW.o.2⟩
     ·have k4b:(a2==4)=false:=by simp[k4]
      have HS:=U0 (show ok=false by rw[HS0.o];simp[c0,k1,k2,k3,k4])
      clear HS0
      go_enter func80,ntmps80
      go_wp2_with (first
       |(with_reducible refine Z4 _ _ rfl 26 (.tmp 0) rfl _ rfl HW.o.1 ?_)
       |(go_at_call 67;refine (aA _ _ _ _).mono ?_;rintro e w' ⟨rfl,rfl⟩)
       |(go_at_call 71;refine (eD _ _).mono ?_;rintro e w' ⟨rfl,rfl⟩))
      go_ret
      exact⟨by rw[HS.o];first|rfl|simp_all,HW.o.2⟩
theorem WG (F:List Nat) (r:AN) (ev:Value) (w:World) (h:BH w F r ev):
 Calls prog 82 #[.agg (x9 r ev).toArray] w fun e w'=>e= .returned (.int .i64 (O9 r.ok))∧U1 [] w w':=by
 obtain⟨hn,A,c,g,rfl,_,hcm,_,_⟩:=h
 have hlm:r.env.length≤9223372036854775807:=by unfold maxLen at hcm;omega
 have k1:=(U1.refl [] w).alloc (.cells (x9 r (.slice A r.env.length c)).toArray 28)
 have r1:=l5.new w 28 (x9 r (.slice A r.env.length c)).toArray
 obtain⟨w1,hw1⟩:∃ w1,w.alloc (.cells (x9 r (.slice A r.env.length c)).toArray 28)=w1:=⟨_,rfl⟩
 rw[hw1] at k1 r1
 have HW:=U0 (U2 hw1 k1)
 have x0:w1.cell? ⟨w.heap.size,0,none⟩=some (.int .i64 r.client):=r1.cell 0
 have x1:w1.cell? ⟨w.heap.size,1,none⟩=some (.int .i64 r.num):=r1.cell 1
 have x2:w1.cell? ⟨w.heap.size,2,none⟩=some (.int .i64 r.code):=r1.cell 2
 have x3:w1.cell? ⟨w.heap.size,3,none⟩=some (.int .i64 r.version):=r1.cell 3
 have x4:w1.cell? ⟨w.heap.size,4,none⟩=some (.int .i64 r.epoch):=r1.cell 4
 have x5:=(r1.cell 37).trans (VC hn)
 have HS0:=U0 (show r.ok=(qB r.client 0 2 && (qB r.num 1 9007199254740991 && (qB r.code 0 3 && (qB r.version 0 9007199254740991 && (qB r.epoch 0 255 && decide (r.env.length≤1024)))))) from rfl)
 generalize r.ok=ok at*
 obtain⟨a0,a1,a2,a3,a4,nr,er⟩:=r
 dsimp only at hlm x0 x1 x2 x3 x4 x5 HS0 HW hn ⊢
 obtain⟨L,hL⟩:∃ L,er.length=L:=⟨_,rfl⟩
 rw[hL] at hlm x5 HS0 HW ⊢
 clear k1 r1 hw1 hn hL
 rcases Bool.eq_false_or_eq_true (qB a0 0 2) with c0|c0
 ·rcases Bool.eq_false_or_eq_true (qB a1 1 9007199254740991) with c1|c1
  ·rcases Bool.eq_false_or_eq_true (qB a2 0 3) with c2|c2
   ·rcases Bool.eq_false_or_eq_true (qB a3 0 9007199254740991) with c3|c3
    ·rcases Bool.eq_false_or_eq_true (qB a4 0 255) with c4|c4
     ·by_cases e0:(L:Int)≤1024
      ·have e1:L≤1024:=by omega
       have d0:=decide_eq_true e0
       have HS:=U0 (show ok=true by rw[HS0.o];simp[c0,c1,c2,c3,c4,e1])
       clear HS0
       go_enter func82,ntmps82
       go_wp2_with (first
        |(with_reducible refine Z4 _ _ rfl 28 (.tmp 0) rfl _ rfl HW.o.1 ?_)
        |(go_at_call 67;refine (aA _ _ _ _).mono ?_;rintro e w' ⟨rfl,rfl⟩)
        |(go_at_call 69;refine (vD _ _).mono ?_;rintro e w' ⟨rfl,rfl⟩)
        |(go_at_call 71;refine (eD _ _).mono ?_;rintro e w' ⟨rfl,rfl⟩))
       go_ret
       exact⟨by rw[HS.o];first|rfl|simp_all,HW.o.2⟩
      ·have e1: ¬L≤1024:=by omega
       have d0:=decide_eq_false e0
       have HS:=U0 (show ok=false by rw[HS0.o];simp[c0,c1,c2,c3,c4,e1])
       clear HS0
       go_enter func82,ntmps82
       go_wp2_with (first
        |(with_reducible refine Z4 _ _ rfl 28 (.tmp 0) rfl _ rfl HW.o.1 ?_)
        |(go_at_call 67;refine (aA _ _ _ _).mono ?_;rintro e w' ⟨rfl,rfl⟩)
        |(go_at_call 69;refine (vD _ _).mono ?_;rintro e w' ⟨rfl,rfl⟩)
        |(go_at_call 71;refine (eD _ _).mono ?_;rintro e w' ⟨rfl,rfl⟩))
       go_ret
       exact⟨by rw[HS.o];first|rfl|simp_all,HW.o.2⟩
     ·have HS:=U0 (show ok=false by rw[HS0.o];simp[c0,c1,c2,c3,c4])
      clear HS0
      go_enter func82,ntmps82
      go_wp2_with (first
       |(with_reducible refine Z4 _ _ rfl 28 (.tmp 0) rfl _ rfl HW.o.1 ?_)
       |(go_at_call 67;refine (aA _ _ _ _).mono ?_;rintro e w' ⟨rfl,rfl⟩)
       |(go_at_call 69;refine (vD _ _).mono ?_;rintro e w' ⟨rfl,rfl⟩)
       |(go_at_call 71;refine (eD _ _).mono ?_;rintro e w' ⟨rfl,rfl⟩))
      go_ret
      exact⟨by rw[HS.o];first|rfl|simp_all,HW.o.2⟩
    ·have HS:=U0 (show ok=false by rw[HS0.o];simp[c0,c1,c2,c3])
     clear HS0
     go_enter func82,ntmps82
     go_wp2_with (first
      |(with_reducible refine Z4 _ _ rfl 28 (.tmp 0) rfl _ rfl HW.o.1 ?_)
      |(go_at_call 67;refine (aA _ _ _ _).mono ?_;rintro e w' ⟨rfl,rfl⟩)
      |(go_at_call 69;refine (vD _ _).mono ?_;rintro e w' ⟨rfl,rfl⟩)
      |(go_at_call 71;refine (eD _ _).mono ?_;rintro e w' ⟨rfl,rfl⟩))
     go_ret
     exact⟨by rw[HS.o];first|rfl|simp_all,HW.o.2⟩
   ·have HS:=U0 (show ok=false by rw[HS0.o];simp[c0,c1,c2])
    clear HS0
    go_enter func82,ntmps82
    go_wp2_with (first
     |(with_reducible refine Z4 _ _ rfl 28 (.tmp 0) rfl _ rfl HW.o.1 ?_)
     |(go_at_call 67;refine (aA _ _ _ _).mono ?_;rintro e w' ⟨rfl,rfl⟩)
     |(go_at_call 69;refine (vD _ _).mono ?_;rintro e w' ⟨rfl,rfl⟩)
     |(go_at_call 71;refine (eD _ _).mono ?_;rintro e w' ⟨rfl,rfl⟩))
    go_ret
    exact⟨by rw[HS.o];first|rfl|simp_all,HW.o.2⟩
  ·have HS:=U0 (show ok=false by rw[HS0.o];simp[c0,c1])
   clear HS0
   go_enter func82,ntmps82
   go_wp2_with (first
    |(with_reducible refine Z4 _ _ rfl 28 (.tmp 0) rfl _ rfl HW.o.1 ?_)
    |(go_at_call 67;refine (aA _ _ _ _).mono ?_;rintro e w' ⟨rfl,rfl⟩)
    |(go_at_call 69;refine (vD _ _).mono ?_;rintro e w' ⟨rfl,rfl⟩)
    |(go_at_call 71;refine (eD _ _).mono ?_;rintro e w' ⟨rfl,rfl⟩))
   go_ret
   exact⟨by rw[HS.o];first|rfl|simp_all,HW.o.2⟩
 ·have HS:=U0 (show ok=false by rw[HS0.o];simp[c0])
  clear HS0
  go_enter func82,ntmps82
  go_wp2_with (first
   |(with_reducible refine Z4 _ _ rfl 28 (.tmp 0) rfl _ rfl HW.o.1 ?_)
   |(go_at_call 67;refine (aA _ _ _ _).mono ?_;rintro e w' ⟨rfl,rfl⟩)
   |(go_at_call 69;refine (vD _ _).mono ?_;rintro e w' ⟨rfl,rfl⟩)
   |(go_at_call 71;refine (eD _ _).mono ?_;rintro e w' ⟨rfl,rfl⟩))
  go_ret
  exact⟨by rw[HS.o];first|rfl|simp_all,HW.o.2⟩
theorem OM {l:List Int} {i k:Nat} {a b:Int} {vk C:Bool} (hlk:k<i) (hb:l[k]? =some b):
 (vk && (!(((l.take i).drop k).contains a) && C))=((vk && (b !=a)) && (!(((l.take i).drop (k+1)).contains a) && C)):=by
 have e:(l.take i)[k]? =some b:=by rw[List.getElem?_take,if_pos hlk];exact hb
 obtain⟨hl',he⟩:=List.getElem?_eq_some_iff.1 e
 have hq:(b !=a)= !(a==b):=by
  by_cases h:a=b
  ·subst h;rfl
  ·have h': ¬b=a:=fun e=>h e.symm
   rw[show (b !=a)=true from by simpa using h',show (a==b)=false from by simpa using h];rfl
 rw[List.drop_eq_getElem_cons hl',he,List.contains_cons,hq,Bool.not_or]
 simp only[Bool.and_assoc]
theorem eF (F:List Nat) (r:CF) (cv:Value) (w:World) (h:F8 w F cv r.chain):
 Calls prog 83 #[.agg (bA r cv).toArray] w fun e w'=>e= .returned (.int .i64 (O9 r.ok))∧U1 [] w w':=by
 obtain⟨A,c,g,rfl,_,hcm,hA,_⟩:=h
 have hlm:r.chain.length≤9223372036854775807:=by unfold maxLen at hcm;omega
 have k1:=(U1.refl [] w).alloc (.cells (bA r (.slice A r.chain.length c)).toArray 31)
 have r1:=l5.new w 31 (bA r (.slice A r.chain.length c)).toArray
 obtain⟨w1,hw1⟩:∃ w1,w.alloc (.cells (bA r (.slice A r.chain.length c)).toArray 31)=w1:=⟨_,rfl⟩
 rw[hw1] at k1 r1
 have HW:=U0 (U2 hw1 (U2 k1 (hA.keepS k1 (by simp))))
 have x0:w1.cell? ⟨w.heap.size,0,none⟩=some (.int .i64 r.num):=r1.cell 0
 have x1:w1.cell? ⟨w.heap.size,1,none⟩=some (.int .i64 r.full):=r1.cell 1
 have x2:w1.cell? ⟨w.heap.size,2,none⟩=some (.slice A r.chain.length c):=r1.cell 2
 have hbs:w.heap.size<w1.heap.size:=by rw[←hw1,World.size_alloc];omega
 have HS0:V5 (r.ok=((qB r.num 0 9007199254740991 && (qB (r.chain.length:Int) 1 4 && qB r.full 1 r.chain.length)) && NC [] r.chain)):=U0 (by
  have e1:decide (1≤r.chain.length)=decide ((1:Int)≤(r.chain.length:Int)):=decide_eq_decide.2 (by omega)
  have e2:decide (r.chain.length≤4)=decide ((r.chain.length:Int)≤4):=decide_eq_decide.2 (by omega)
  unfold CF.ok qB
  rw[e1,e2]
  simp only[Bool.and_assoc])
 generalize r.ok=ok at*
 obtain⟨a0,a1,l⟩:=r
 dsimp only at hlm x0 x1 x2 HS0 HW ⊢
 obtain⟨L,hL⟩:∃ L,l.length=L:=⟨_,rfl⟩
 rw[hL] at hlm x2 HS0 HW ⊢
 clear k1 r1 hw1 hA
 obtain⟨b0,hb0⟩:∃ b,qB a0 0 9007199254740991=b:=⟨_,rfl⟩
 obtain⟨b1,hb1⟩:∃ b,qB (L:Int) 1 4=b:=⟨_,rfl⟩
 obtain⟨b2,hb2⟩:∃ b,qB a1 1 (L:Int)=b:=⟨_,rfl⟩
 have H0:=U0 (aA a1 1 L w1)
 have H1:=U0 (aA L 1 4 w1)
 have H2:=U0 (vD a0 w1)
 rw[hb0] at HS0 H2
 rw[hb1] at HS0 H1
 rw[hb2] at HS0 H0
 clear hb0 hb1 hb2
 have HL:=U0 (U2 hL hbs)
 clear hL hbs hcm
 go_enter func83,ntmps83
 go_upto_region 1 with (with_reducible refine Z4 _ _ rfl 31 (.tmp 0) rfl _ rfl HW.o.1 ?_)
 go_cut [3] (fun v3 wx=>v3= .bool (b0 && (b1 && b2))∧wx=w1)
 case first=>
  cases b0<;>cases b1<;>cases b2
  all_goals
   go_wp2_with (first
    |(go_at_call 69;refine H2.o.mono ?_;rintro e w' ⟨rfl,rfl⟩)
    |(go_at_call 67;with_reducible refine H1.o.mono ?_;rintro e w' ⟨rfl,rfl⟩)
    |(go_at_call 67;with_reducible refine H0.o.mono ?_;rintro e w' ⟨rfl,rfl⟩))
   go_meet
   case rel=>exact⟨rfl,rfl⟩
 case rest=>
  obtain⟨rfl,rfl⟩:=hcut
  clear H0 H1 H2 x0 x1
  generalize (b0 && (b1 && b2))=B at*
  go_upto_region 3 with fail
  go_loopw [3,4,5] (fun v3 v4 _ wx=>∃ (i:Nat) (v:Bool),i≤L∧v3= .bool v∧v4= .int .i64 (i:Int)∧ok=(v && NC (l.take i) (l.drop i))∧U1 [] w wx∧U1 [] wc wx) (fun _ v4 _ _=>L-(intOf v4).toNat)
  case atStart=>exact⟨0,B,by omega,rfl,rfl,HS0.o,HW.o.2.1,U1.refl _ _⟩
  case round=>
   obtain⟨i,v,hi,rfl,rfl,ht,hk,hk1⟩:=hrel
   by_cases hlt:i<L
   ·have hlt':(i:Int)<(L:Int):=by omega
    obtain⟨a,ha⟩:∃ a,l[i]? =some a:=⟨_,List.getElem?_eq_getElem (by rw[HL.o.1];omega)⟩
    obtain⟨o,rfl,hgl,hcA⟩:=HW.o.2.2.2 (by omega)
    have y0:=(hk1.cell (p:=⟨g,o+i,none⟩) hgl (by simp)).trans (hcA i (.int .i64 a) (by rw[List.getElem?_map,ha];rfl))
    have x2':=(hk1.cell (p:=⟨w.heap.size,2,none⟩) HL.o.2 (by simp)).trans x2
    have hs:ok=((v && qB a 10 13) && (!((l.take i).contains a) && NC (l.take (i+1)) (l.drop (i+1)))):=by rw[ht,UI ha,Bool.and_assoc]
    have hread:=U0 (fun j (hj:j<i)=>(⟨l[j]'(by rw[HL.o.1];omega),List.getElem?_eq_getElem _,(hk1.cell (p:=⟨g,o+j,none⟩) hgl (by simp)).trans (hcA j (.int .i64 (l[j]'(by rw[HL.o.1];omega))) (by rw[List.getElem?_map,List.getElem?_eq_getElem (by rw[HL.o.1];omega)];rfl))⟩:∃ b,l[j]? =some b∧wr.cell? ⟨g,o+j,none⟩=some (.int .i64 b)))
    have HR:=U0 (U2 hs (U2 hk (U2 hk1 ha)))
    have HP:=U0 (bO a wr)
    clear hs hk hk1 ha ht
    go_upto_region 5 with fail
    go_cut [3] (fun v3 wx=>v3= .bool (v && qB a 10 13)∧wx=wr)
    case first=>
     cases v
     all_goals
      go_wp2_with (go_at_call 134;refine HP.o.mono ?_;rintro e w' ⟨rfl,rfl⟩)
      go_meet
      case rel=>exact⟨rfl,rfl⟩
    case rest=>
     obtain⟨rfl,rfl⟩:=hcut
     generalize (v && qB a 10 13)=B2 at*
     clear HP
     go_upto_region 7 with fail
     go_loopw [3,5] (fun v3 v5 wx=>∃ (k:Nat) (v:Bool),k≤i∧v3= .bool v∧v5= .int .i64 (k:Int)∧ok=(v && (!(((l.take i).drop k).contains a) && NC (l.take (i+1)) (l.drop (i+1))))∧U1 [] wc wx) (fun _ v5 _=>i-(intOf v5).toNat)
     case atStart=>exact⟨0,B2,by omega,rfl,rfl,HR.o.1,U1.refl _ _⟩
     case round=>
      obtain⟨k,vk,hki,rfl,rfl,htk,hkk⟩:=hrel
      by_cases hlk:k<i
      ·have hlk':(k:Int)<(i:Int):=by omega
       obtain⟨b,hb,cb⟩:=hread.o k hlk
       have y0':=(hkk.cell (p:=⟨g,o+i,none⟩) (World.block_lt_of_cell? wc _ y0) (by simp)).trans y0
       have z0':=(hkk.cell (p:=⟨g,o+k,none⟩) (World.block_lt_of_cell? wc _ cb) (by simp)).trans cb
       have x2'':=(hkk.cell (p:=⟨w.heap.size,2,none⟩) (World.block_lt_of_cell? wc _ x2') (by simp)).trans x2'
       have hn:=OM (C:=NC (l.take (i+1)) (l.drop (i+1))) (vk:=vk) (a:=a) hlk hb
       have HN:=U0 (U2 (htk.trans hn) hkk)
       clear htk hkk hn hb cb
       by_cases hba:b=a
       ·have t3:(b !=a)=false:=by simp[hba]
        have HB:=U0 t3
        clear hba
        cases vk
        all_goals
         go_upto_region 9 with fail
         go_quiet (fail)
         go_wp2
         go_roundw
         case rel=>exact⟨k+1,_,by omega,rfl,by go_num,by rw[HN.o.1,HB.o];simp,HN.o.2.drewN _⟩
         case measure=>simp[intOf];omega
       ·have t3:(b !=a)=true:=by simp[hba]
        have HB:=U0 t3
        clear hba
        cases vk
        all_goals
         go_upto_region 9 with fail
         go_quiet (fail)
         go_wp2
         go_roundw
         case rel=>exact⟨k+1,_,by omega,rfl,by go_num,by rw[HN.o.1,HB.o];simp,HN.o.2.drewN _⟩
         case measure=>simp[intOf];omega
      ·obtain rfl:k=i:=by omega
       have hfin:ok=(vk && NC (l.take (k+1)) (l.drop (k+1))):=by
        rw[htk,List.drop_eq_nil_of_le (by rw[List.length_take];omega)]
        simp
       have HN:=U0 (U2 hfin (U2 (HR.o.2.1.then hkk (by simp)) (HR.o.2.2.1.then hkk (by simp))))
       clear htk hkk hfin
       go_wp2
       go_roundw
       case rel=>exact⟨k+1,vk,by omega,rfl,by go_num,HN.o.1,HN.o.2.1,HN.o.2.2⟩
       case measure=>simp[intOf];omega
   ·obtain rfl:i=L:=by omega
    have hv:ok=v:=by rw[ht,List.drop_eq_nil_of_le (by rw[HL.o.1];exact Nat.le_refl _)];simp[NC]
    have x2':=(hk1.cell (p:=⟨w.heap.size,2,none⟩) HL.o.2 (by simp)).trans x2
    have HV:=U0 (U2 hv hk)
    clear hv hk ht hk1
    go_wp2_with (go_at_call 71;refine (eD _ _).mono ?_;rintro e w' ⟨rfl,rfl⟩)
    go_ret
    exact⟨by rw[HV.o.1];rfl,HV.o.2⟩
theorem votesD (F:List Nat) (l:List VT) (v:Value) (w:World) (h:xA w F v l):
 Calls prog 135 #[v] w fun e w'=>e= .returned (.bool (JB l))∧U1 [] w w':=by
 obtain⟨A,c,gA,TA,rfl,_,hc,_⟩:=id h
 obtain⟨L,hL⟩:∃ L,l.length=L:=⟨_,rfl⟩
 have hmx:L≤9223372036854775807:=by unfold maxLen at hc;omega
 have HS0:=U0 (show JB l=(decide (l.length≤8) && fE (l.drop 0)) from rfl)
 generalize JB l=ok at*
 have HA:=U0 h
 rw[hL] at HA HS0 ⊢
 have HL:=U0 hL
 clear h hL hc
 go_enter func135,ntmps135
 go_upto_region 2 with fail
 go_loopw [3] (fun v2 wx=>∃ i:Nat,i≤L∧v2= .int .i64 (i:Int)∧ok=(decide (L≤8) && fE (l.drop i))∧U1 [] w wx) (fun v2 _=>L-(intOf v2).toNat)
 case atStart=>exact⟨0,by omega,rfl,HS0.o,U1.refl _ _⟩
 case round=>
  obtain⟨i,hi,rfl,ht,hk⟩:=hrel
  by_cases hlt:i<L
  ·have hlt':(i:Int)<(L:Int):=by omega
   obtain⟨a,ha⟩:∃ a,l[i]? =some a:=⟨_,List.getElem?_eq_getElem (by rw[HL.o];omega)⟩
   obtain⟨g,o,cv,rfl,hgl,_,hcv,x0,x1,x2,x3⟩:=(HA.o.keep hk (by simp)).at ha
   have hs:=ht.trans (congrArg (decide (L≤8) && ·) (BL ha))
   have HR:=U0 (U2 hs (U2 hk hcv))
   clear ht hk ha hcv hs
   obtain⟨ab,an,af,al⟩:=a
   dsimp only at x0 x1 x2 x3
   obtain⟨CA,cc,cg,rfl,_⟩:=id HR.o.2.2
   dsimp only at x3
   have HC:=U0 (eF F ⟨an,af,al⟩ _ wr HR.o.2.2)
   have HP:=U0 (aA ab 1 9007199254740991 wr)
   have HS1:=U0 (show ok=(decide (L≤8) && ((qB ab 1 9007199254740991 && CF.ok ⟨an,af,al⟩) && fE (l.drop (i+1)))) from HR.o.1)
   have HK:=U0 HR.o.2.1
   generalize qB ab 1 9007199254740991=b0 at*
   generalize CF.ok ⟨an,af,al⟩=b1 at*
   clear HR
   go_upto_region 4 with fail
   cases b0<;>cases b1
   all_goals simp only[O9,Bool.false_eq_true,if_false,if_true] at HC
   ·go_wp2_with (first|(go_at_call 67;refine HP.o.mono ?_;rintro e w' ⟨rfl,rfl⟩))
    have HF:=U0 (show ok=false by rw[HS1.o];simp)
    go_ret
    exact⟨by rw[HF.o];rfl,HK.o⟩
   ·go_wp2_with (first|(go_at_call 67;refine HP.o.mono ?_;rintro e w' ⟨rfl,rfl⟩))
    have HF:=U0 (show ok=false by rw[HS1.o];simp)
    go_ret
    exact⟨by rw[HF.o];rfl,HK.o⟩
   ·go_wp2_with (first|(go_at_call 67;refine HP.o.mono ?_;rintro e w' ⟨rfl,rfl⟩)|(go_at_call 83;refine HC.o.mono ?_;rintro e w' ⟨rfl,k3⟩;have HK3:=U0 (HK.o.then k3 (by simp));clear k3 x0 x1 x2 x3))
    have HF:=U0 (show ok=false by rw[HS1.o];simp)
    go_ret
    exact⟨by rw[HF.o];rfl,HK3.o⟩
   ·go_wp2_with (first|(go_at_call 67;refine HP.o.mono ?_;rintro e w' ⟨rfl,rfl⟩)|(go_at_call 83;refine HC.o.mono ?_;rintro e w' ⟨rfl,k3⟩;have HK3:=U0 (HK.o.then k3 (by simp));clear k3 x0 x1 x2 x3))
    go_roundw
    case rel=>exact⟨i+1,by omega,by go_num,by rw[HS1.o];simp,HK3.o⟩
    case measure=>simp[intOf];omega
  ·obtain rfl:i=L:=by omega
   have hv:ok=decide (i≤8):=by rw[ht,←HL.o,List.drop_length];simp[fE]
   have HV:=U0 (U2 hv hk)
   clear hv hk ht
   by_cases h8:(i:Int)≤8
   ·have h8d:=decide_eq_true h8
    have H8:=U0 (show decide (i≤8)=true by simp;omega)
    go_wp2_with fail
    go_ret
    exact⟨by rw[HV.o.1,H8.o];rfl,HV.o.2⟩
   ·have h8d:=decide_eq_false h8
    have H8:=U0 (show decide (i≤8)=false by simp;omega)
    go_wp2_with fail
    go_ret
    exact⟨by rw[HV.o.1,H8.o];rfl,HV.o.2⟩
end Go.Proofs.YthfdkonhjpdflaaGreatDoor
