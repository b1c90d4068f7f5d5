import Derived.Test.YthfdkonhjpdflaaGreatDoorPk9
namespace Go.Proofs.YthfdkonhjpdflaaGreatDoor
open Go.RowKit Go.Proofs.Tryz
set_option linter.unusedVariables false
set_option maxRecDepth 100000
set_option maxHeartbeats 8000000
def iE:List UInt8:=List.replicate 32 0
theorem bL:iE.length=32:=List.length_replicate
theorem yE (w:World):(Instr.build 23 #[]).run prog w= .ok (.agg (U7 iE).toArray) w:=by kernel_rfl
theorem EB {P:Program} (w:World) {ops:Array Oper} {rest:List Oper} {o:Oper} {a:Act} {Q:Exit→Act→World→Prop} (t:TypeId) (ho:o.op= .build t #[])
 (v:Value) (hr:(Instr.build t #[]).run P w= .ok v w) (hw:Region.wanted o (yielded ops a.tmps)=true) (h:wpList P ops Q rest (a.put o.dst v) w):wpList P ops Q (o::rest) a w:=by
 refine RD hw fun K hK=> ?_
 have hK':=hK _ _ h
 unfold Oper.wp execOp
 simp only[ho,List.map_toArray,List.map_nil,Sem.run_bind,hr,Result.andThen_ok,Sem.run_pure]
 exact hK'
def RQ.ok (r:RQ):Bool:=qB r.client 0 2 && (qB r.num 1 9007199254740991 && (if r.kind=1∨r.kind=3 then (r.version==0) && (r.env.length==0) else if r.kind=2 then qB r.version 1 9007199254740991 && qB (r.env.length:Int) 1 1024 else if r.kind=4 then qB r.version 1 255 && (decide (r.name=iE) && (r.env.length==0)) else false))
def AN.ok (a:AN):Bool:=qB a.client 0 2 && (qB a.num 1 9007199254740991 && (qB a.code 0 3 && (qB a.version 0 9007199254740991 && (qB a.epoch 0 255 && decide (a.env.length≤1024)))))
theorem fD (F:List Nat) (r:RQ) (ev:Value) (w:World) (h:dH w F r ev):
 Calls prog 20 #[.agg (U8 r ev).toArray] w fun e w'=>e= .returned (.int .i64 (O9 r.ok))∧U1 [] w w':=by
 obtain⟨hn,A,c,g,rfl,_,hcm,_,_⟩:=h
 have hlm:r.env.length≤9223372036854775807:=by unfold maxLen at hcm;omega
 have k1:=(U1.refl [] w).alloc (.cells (U8 r (.slice A r.env.length c)).toArray 26)
 have r1:=l5.new w 26 (U8 r (.slice A r.env.length c)).toArray
 obtain⟨w1,hw1⟩:∃ w1,w.alloc (.cells (U8 r (.slice A r.env.length c)).toArray 26)=w1:=⟨_,rfl⟩
 rw[hw1] at k1 r1
 have HW:=U0 (U2 hw1 k1)
 have x0:w1.cell? ⟨w.heap.size,0,none⟩=some (.int .i64 r.client):=r1.cell 0
 have x1:w1.cell? ⟨w.heap.size,1,none⟩=some (.int .i64 r.num):=r1.cell 1
 have x2:w1.cell? ⟨w.heap.size,2,none⟩=some (.int .i64 r.kind):=r1.cell 2
 have x3:w1.cell? ⟨w.heap.size,3,none⟩=some (.int .i64 r.version):=r1.cell 3
 have x5:=(r1.cell 36).trans (WC hn)
 have HX:=U0 (r1.range (IE r (.slice A r.env.length c)))
 have HQ:=U0 (ZF r.name iE hn bL w1)
 have HI:=U0 (show (prog.info? 23).map (·.size)=some (U7 r.name).length by rw[A8,hn];exact xB)
 have HS0:=U0 (show r.ok=(qB r.client 0 2 && (qB r.num 1 9007199254740991 && (if r.kind=1∨r.kind=3 then (r.version==0) && (r.env.length==0) else if r.kind=2 then qB r.version 1 9007199254740991 && qB (r.env.length:Int) 1 1024 else if r.kind=4 then qB r.version 1 255 && (decide (r.name=iE) && (r.env.length==0)) else false))) from rfl)
 generalize r.ok=ok at*
 obtain⟨a0,a1,a2,a3,nr,er⟩:=r
 dsimp only at hlm x0 x1 x2 x3 x5 HX HQ HI HS0 HW hn ⊢
 obtain⟨L,hL⟩:∃ L,er.length=L:=⟨_,rfl⟩
 rw[hL] at hlm x5 HS0 HW ⊢
 clear k1 r1 hw1 hn hL
 rcases Bool.eq_false_or_eq_true (qB a0 0 2) with c0|c0
 ·rcases Bool.eq_false_or_eq_true (qB a1 1 9007199254740991) with c1|c1
  ·by_cases k1:a2=1
   ·subst k1
    by_cases v0:a3=0
    ·subst v0
     by_cases e0:L=0
     ·subst e0
      have HS:=U0 (show ok=true by rw[HS0.o];simp[c0,c1])
      clear HS0
      go_enter func20,ntmps20
      go_wp2_with (first
       |(with_reducible refine Z4 _ _ rfl 26 (.tmp 0) rfl _ rfl HW.o.1 ?_)
       |(go_at_call 84;refine (p9 _ _).mono ?_;rintro e w' ⟨rfl,rfl⟩)
       |(go_at_call 85;refine (I8 _ _).mono ?_;rintro e w' ⟨rfl,rfl⟩)
       |(go_at_call 66;refine (Q8 _ _).mono ?_;rintro e w' ⟨rfl,rfl⟩))
      go_ret
      exact⟨by rw[HS.o];first|rfl|simp_all,HW.o.2⟩
     ·have e1:((L:Int)==0)=false:=by simp[e0]
      have e2:(L==0)=false:=by simp[e0]
      have HS:=U0 (show ok=false by rw[HS0.o];simp[c0,c1,e0])
      clear HS0
      go_enter func20,ntmps20
      go_wp2_with (first
       |(with_reducible refine Z4 _ _ rfl 26 (.tmp 0) rfl _ rfl HW.o.1 ?_)
       |(go_at_call 84;refine (p9 _ _).mono ?_;rintro e w' ⟨rfl,rfl⟩)
       |(go_at_call 85;refine (I8 _ _).mono ?_;rintro e w' ⟨rfl,rfl⟩)
       |(go_at_call 66;refine (Q8 _ _).mono ?_;rintro e w' ⟨rfl,rfl⟩))
      go_ret
      exact⟨by rw[HS.o];first|rfl|simp_all,HW.o.2⟩
    ·have v1:(a3==0)=false:=by simp[v0]
     have HS:=U0 (show ok=false by rw[HS0.o];simp[c0,c1,v0])
     clear HS0
     go_enter func20,ntmps20
     go_wp2_with (first
      |(with_reducible refine Z4 _ _ rfl 26 (.tmp 0) rfl _ rfl HW.o.1 ?_)
      |(go_at_call 84;refine (p9 _ _).mono ?_;rintro e w' ⟨rfl,rfl⟩)
      |(go_at_call 85;refine (I8 _ _).mono ?_;rintro e w' ⟨rfl,rfl⟩)
      |(go_at_call 66;refine (Q8 _ _).mono ?_;rintro e w' ⟨rfl,rfl⟩))
     go_ret
     exact⟨by rw[HS.o];first|rfl|simp_all,HW.o.2⟩
   ·have k1b:(a2==1)=false:=by simp[k1]
    by_cases k3:a2=3
    ·subst k3
     clear k1
     by_cases v0:a3=0
     ·subst v0
      by_cases e0:L=0
      ·subst e0
       have HS:=U0 (show ok=true by rw[HS0.o];simp[c0,c1])
       clear HS0
       go_enter func20,ntmps20
       go_wp2_with (first
        |(with_reducible refine Z4 _ _ rfl 26 (.tmp 0) rfl _ rfl HW.o.1 ?_)
        |(go_at_call 84;refine (p9 _ _).mono ?_;rintro e w' ⟨rfl,rfl⟩)
        |(go_at_call 85;refine (I8 _ _).mono ?_;rintro e w' ⟨rfl,rfl⟩)
        |(go_at_call 66;refine (Q8 _ _).mono ?_;rintro e w' ⟨rfl,rfl⟩))
       go_ret
       exact⟨by rw[HS.o];first|rfl|simp_all,HW.o.2⟩
      ·have e1:((L:Int)==0)=false:=by simp[e0]
       have e2:(L==0)=false:=by simp[e0]
       have HS:=U0 (show ok=false by rw[HS0.o];simp[c0,c1,e0])
       clear HS0
       go_enter func20,ntmps20
       go_wp2_with (first
        |(with_reducible refine Z4 _ _ rfl 26 (.tmp 0) rfl _ rfl HW.o.1 ?_)
        |(go_at_call 84;refine (p9 _ _).mono ?_;rintro e w' ⟨rfl,rfl⟩)
        |(go_at_call 85;refine (I8 _ _).mono ?_;rintro e w' ⟨rfl,rfl⟩)
        |(go_at_call 66;refine (Q8 _ _).mono ?_;rintro e w' ⟨rfl,rfl⟩))
       go_ret
       exact⟨by rw[HS.o];first|rfl|simp_all,HW.o.2⟩
     ·have v1:(a3==0)=false:=by simp[v0]
      have HS:=U0 (show ok=false by rw[HS0.o];simp[c0,c1,v0])
      clear HS0
      go_enter func20,ntmps20
      go_wp2_with (first
       |(with_reducible refine Z4 _ _ rfl 26 (.tmp 0) rfl _ rfl HW.o.1 ?_)
       |(go_at_call 84;refine (p9 _ _).mono ?_;rintro e w' ⟨rfl,rfl⟩)
       |(go_at_call 85;refine (I8 _ _).mono ?_;rintro e w' ⟨rfl,rfl⟩)
       |(go_at_call 66;refine (Q8 _ _).mono ?_;rintro e w' ⟨rfl,rfl⟩))
      go_ret
      exact⟨by rw[HS.o];first|rfl|simp_all,HW.o.2⟩
    ·have k3b:(a2==3)=false:=by simp[k3]
     by_cases k2:a2=2
     ·subst k2
      rcases Bool.eq_false_or_eq_true (qB a3 1 9007199254740991) with v1|v1
      ·by_cases e1:1≤(L:Int)
       ·by_cases e2:(L:Int)≤1024
        ·have i1:=OB (n:=(L:Int)) (lo:=1) (hi:=1024) ⟨e1,e2⟩
         have d1:=decide_eq_true e1
         have d2:=decide_eq_true e2
         have HS:=U0 (show ok=true by rw[HS0.o];simp[c0,c1,v1,i1])
         clear HS0
         go_enter func20,ntmps20
         go_wp2_with (first
          |(with_reducible refine Z4 _ _ rfl 26 (.tmp 0) rfl _ rfl HW.o.1 ?_)
          |(go_at_call 84;refine (p9 _ _).mono ?_;rintro e w' ⟨rfl,rfl⟩)
          |(go_at_call 85;refine (I8 _ _).mono ?_;rintro e w' ⟨rfl,rfl⟩)
          |(go_at_call 66;refine (Q8 _ _).mono ?_;rintro e w' ⟨rfl,rfl⟩))
         go_ret
         exact⟨by rw[HS.o];first|rfl|simp_all,HW.o.2⟩
        ·have i1:=eB (n:=(L:Int)) (lo:=1) (hi:=1024) (fun h=>e2 h.2)
         have d1:=decide_eq_true e1
         have d2:=decide_eq_false e2
         have HS:=U0 (show ok=false by rw[HS0.o];simp[c0,c1,v1,i1])
         clear HS0
         go_enter func20,ntmps20
         go_wp2_with (first
          |(with_reducible refine Z4 _ _ rfl 26 (.tmp 0) rfl _ rfl HW.o.1 ?_)
          |(go_at_call 84;refine (p9 _ _).mono ?_;rintro e w' ⟨rfl,rfl⟩)
          |(go_at_call 85;refine (I8 _ _).mono ?_;rintro e w' ⟨rfl,rfl⟩)
          |(go_at_call 66;refine (Q8 _ _).mono ?_;rintro e w' ⟨rfl,rfl⟩))
         go_ret
         exact⟨by rw[HS.o];first|rfl|simp_all,HW.o.2⟩
       ·have i1:=eB (n:=(L:Int)) (lo:=1) (hi:=1024) (fun h=>e1 h.1)
        have d1:=decide_eq_false e1
        have HS:=U0 (show ok=false by rw[HS0.o];simp[c0,c1,v1,i1])
        clear HS0
        go_enter func20,ntmps20
        go_wp2_with (first
         |(with_reducible refine Z4 _ _ rfl 26 (.tmp 0) rfl _ rfl HW.o.1 ?_)
         |(go_at_call 84;refine (p9 _ _).mono ?_;rintro e w' ⟨rfl,rfl⟩)
         |(go_at_call 85;refine (I8 _ _).mono ?_;rintro e w' ⟨rfl,rfl⟩)
         |(go_at_call 66;refine (Q8 _ _).mono ?_;rintro e w' ⟨rfl,rfl⟩))
        go_ret
        exact⟨by rw[HS.o];first|rfl|simp_all,HW.o.2⟩
      ·have HS:=U0 (show ok=false by rw[HS0.o];simp[c0,c1,v1])
       clear HS0
       go_enter func20,ntmps20
       go_wp2_with (first
        |(with_reducible refine Z4 _ _ rfl 26 (.tmp 0) rfl _ rfl HW.o.1 ?_)
        |(go_at_call 84;refine (p9 _ _).mono ?_;rintro e w' ⟨rfl,rfl⟩)
        |(go_at_call 85;refine (I8 _ _).mono ?_;rintro e w' ⟨rfl,rfl⟩)
        |(go_at_call 66;refine (Q8 _ _).mono ?_;rintro e w' ⟨rfl,rfl⟩))
       go_ret
       exact⟨by rw[HS.o];first|rfl|simp_all,HW.o.2⟩
     ·have k2b:(a2==2)=false:=by simp[k2]
      by_cases k4:a2=4
      ·subst k4
       by_cases v1:1≤a3
       ·by_cases v2:a3≤255
        ·have i1:=OB (n:=a3) (lo:=1) (hi:=255) ⟨v1,v2⟩
         have d1:=decide_eq_true v1
         have d2:=decide_eq_true v2
         by_cases nz:nr=iE
         ·have dn:decide (nr=iE)=true:=by simp[nz]
          rw[dn] at HQ
          by_cases e0:L=0
          ·subst e0
           have HS:=U0 (show ok=true by rw[HS0.o];simp[c0,c1,i1,nz])
           clear HS0
           go_enter func20,ntmps20
           go_wp2_with (first
            |(with_reducible refine Z4 _ _ rfl 26 (.tmp 0) rfl _ rfl HW.o.1 ?_)
            |(go_at_call 84;refine (p9 _ _).mono ?_;rintro e w' ⟨rfl,rfl⟩)
            |(go_at_call 85;refine (I8 _ _).mono ?_;rintro e w' ⟨rfl,rfl⟩)
            |(go_at_call 66;refine (Q8 _ _).mono ?_;rintro e w' ⟨rfl,rfl⟩)
            |(refine j5 23 (.tmp 57) rfl w.heap.size 4 rfl (U7 nr) _ HX.o underlying23 rfl HI.o ?_ ?_;·rfl)
            |(refine EB _ 23 rfl _ (yE _) ?_ ?_;·rfl)
            |(refine jA _ .eql 23 23 (.tmp 58) (.tmp 59) rfl YB (U7 nr).toArray (U7 iE).toArray rfl rfl _ HQ.o ?_ ?_;·rfl))
           go_ret
           exact⟨by rw[HS.o];first|rfl|simp_all,HW.o.2⟩
          ·have e1:((L:Int)==0)=false:=by simp[e0]
           have HS:=U0 (show ok=false by rw[HS0.o];simp[c0,c1,i1,nz,e0])
           clear HS0
           go_enter func20,ntmps20
           go_wp2_with (first
            |(with_reducible refine Z4 _ _ rfl 26 (.tmp 0) rfl _ rfl HW.o.1 ?_)
            |(go_at_call 84;refine (p9 _ _).mono ?_;rintro e w' ⟨rfl,rfl⟩)
            |(go_at_call 85;refine (I8 _ _).mono ?_;rintro e w' ⟨rfl,rfl⟩)
            |(go_at_call 66;refine (Q8 _ _).mono ?_;rintro e w' ⟨rfl,rfl⟩)
            |(refine j5 23 (.tmp 57) rfl w.heap.size 4 rfl (U7 nr) _ HX.o underlying23 rfl HI.o ?_ ?_;·rfl)
            |(refine EB _ 23 rfl _ (yE _) ?_ ?_;·rfl)
            |(refine jA _ .eql 23 23 (.tmp 58) (.tmp 59) rfl YB (U7 nr).toArray (U7 iE).toArray rfl rfl _ HQ.o ?_ ?_;·rfl))
           go_ret
           exact⟨by rw[HS.o];first|rfl|simp_all,HW.o.2⟩
         ·have dn:decide (nr=iE)=false:=by simp[nz]
          rw[dn] at HQ
          have HS:=U0 (show ok=false by rw[HS0.o];simp[c0,c1,i1,nz])
          clear HS0
          go_enter func20,ntmps20
          go_wp2_with (first
           |(with_reducible refine Z4 _ _ rfl 26 (.tmp 0) rfl _ rfl HW.o.1 ?_)
           |(go_at_call 84;refine (p9 _ _).mono ?_;rintro e w' ⟨rfl,rfl⟩)
           |(go_at_call 85;refine (I8 _ _).mono ?_;rintro e w' ⟨rfl,rfl⟩)
           |(go_at_call 66;refine (Q8 _ _).mono ?_;rintro e w' ⟨rfl,rfl⟩)
           |(refine j5 23 (.tmp 57) rfl w.heap.size 4 rfl (U7 nr) _ HX.o underlying23 rfl HI.o ?_ ?_;·rfl)
           |(refine EB _ 23 rfl _ (yE _) ?_ ?_;·rfl)
           |(refine jA _ .eql 23 23 (.tmp 58) (.tmp 59) rfl YB (U7 nr).toArray (U7 iE).toArray rfl rfl _ HQ.o ?_ ?_;·rfl))
          go_ret
          exact⟨by rw[HS.o];first|rfl|simp_all,HW.o.2⟩
        ·have i1:=eB (n:=a3) (lo:=1) (hi:=255) (fun h=>v2 h.2)
         have d1:=decide_eq_true v1
         have d2:=decide_eq_false v2
         have HS:=U0 (show ok=false by rw[HS0.o];simp[c0,c1,i1])
         clear HS0
         go_enter func20,ntmps20
         go_wp2_with (first
          |(with_reducible refine Z4 _ _ rfl 26 (.tmp 0) rfl _ rfl HW.o.1 ?_)
          |(go_at_call 84;refine (p9 _ _).mono ?_;rintro e w' ⟨rfl,rfl⟩)
          |(go_at_call 85;refine (I8 _ _).mono ?_;rintro e w' ⟨rfl,rfl⟩)
          |(go_at_call 66;refine (Q8 _ _).mono ?_;rintro e w' ⟨rfl,rfl⟩))
         go_ret
         exact⟨by rw[HS.o];first|rfl|simp_all,HW.o.2⟩
       ·have i1:=eB (n:=a3) (lo:=1) (hi:=255) (fun h=>v1 h.1)
        have d1:=decide_eq_false v1
        have HS:=U0 (show ok=false by rw[HS0.o];simp[c0,c1,i1])
        clear HS0
        go_enter func20,ntmps20
        go_wp2_with (first
         |(with_reducible refine Z4 _ _ rfl 26 (.tmp 0) rfl _ rfl HW.o.1 ?_)
         |(go_at_call 84;refine (p9 _ _).mono ?_;rintro e w' ⟨rfl,rfl⟩)
         |(go_at_call 85;refine (I8 _ _).mono ?_;rintro e w' ⟨rfl,rfl⟩)
         |(go_at_call 66;refine (Q8 _ _).mono ?_;rintro e w' ⟨rfl,rfl⟩))
        go_ret
        exact⟨by rw[HS.o];first|rfl|simp_all,HW.o.2⟩
      ·have k4b:(a2==4)=false:=by simp[k4]
       have HS:=U0 (show ok=false by rw[HS0.o];simp[c0,c1,k1,k2,k3,k4])
       clear HS0
       go_enter func20,ntmps20
       go_wp2_with (first
        |(with_reducible refine Z4 _ _ rfl 26 (.tmp 0) rfl _ rfl HW.o.1 ?_)
        |(go_at_call 84;refine (p9 _ _).mono ?_;rintro e w' ⟨rfl,rfl⟩)
        |(go_at_call 85;refine (I8 _ _).mono ?_;rintro e w' ⟨rfl,rfl⟩)
        |(go_at_call 66;refine (Q8 _ _).mono ?_;rintro e w' ⟨rfl,rfl⟩))
       go_ret
       exact⟨by rw[HS.o];first|rfl|simp_all,HW.o.2⟩
  ·have HS:=U0 (show ok=false by rw[HS0.o];simp[c0,c1])
   clear HS0
   go_enter func20,ntmps20
   go_wp2_with (first
    |(with_reducible refine Z4 _ _ rfl 26 (.tmp 0) rfl _ rfl HW.o.1 ?_)
    |(go_at_call 84;refine (p9 _ _).mono ?_;rintro e w' ⟨rfl,rfl⟩)
    |(go_at_call 85;refine (I8 _ _).mono ?_;rintro e w' ⟨rfl,rfl⟩)
    |(go_at_call 66;refine (Q8 _ _).mono ?_;rintro e w' ⟨rfl,rfl⟩))
   go_ret
   exact⟨by rw[HS.o];first|rfl|simp_all,HW.o.2⟩
 ·have HS:=U0 (show ok=false by rw[HS0.o];simp[c0])
  clear HS0
  go_enter func20,ntmps20
  go_wp2_with (first
   |(with_reducible refine Z4 _ _ rfl 26 (.tmp 0) rfl _ rfl HW.o.1 ?_)
   |(go_at_call 84;refine (p9 _ _).mono ?_;rintro e w' ⟨rfl,rfl⟩)
   |(go_at_call 85;refine (I8 _ _).mono ?_;rintro e w' ⟨rfl,rfl⟩)
   |(go_at_call 66;refine (Q8 _ _).mono ?_;rintro e w' ⟨rfl,rfl⟩))
  go_ret
  exact⟨by rw[HS.o];first|rfl|simp_all,HW.o.2⟩
theorem LD (F:List Nat) (r:AN) (ev:Value) (w:World) (h:BH w F r ev):
 Calls prog 21 #[.agg (x9 r ev).toArray] w fun e w'=>e= .returned (.int .i64 (O9 r.ok))∧U1 [] w w':=by
 obtain⟨hn,A,c,g,rfl,_,hcm,_,_⟩:=h
 have hlm:r.env.length≤9223372036854775807:=by unfold maxLen at hcm;omega
 have k1:=(U1.refl [] w).alloc (.cells (x9 r (.slice A r.env.length c)).toArray 28)
 have r1:=l5.new w 28 (x9 r (.slice A r.env.length c)).toArray
 obtain⟨w1,hw1⟩:∃ w1,w.alloc (.cells (x9 r (.slice A r.env.length c)).toArray 28)=w1:=⟨_,rfl⟩
 rw[hw1] at k1 r1
 have HW:=U0 (U2 hw1 k1)
 have x0:w1.cell? ⟨w.heap.size,0,none⟩=some (.int .i64 r.client):=r1.cell 0
 have x1:w1.cell? ⟨w.heap.size,1,none⟩=some (.int .i64 r.num):=r1.cell 1
 have x2:w1.cell? ⟨w.heap.size,2,none⟩=some (.int .i64 r.code):=r1.cell 2
 have x3:w1.cell? ⟨w.heap.size,3,none⟩=some (.int .i64 r.version):=r1.cell 3
 have x4:w1.cell? ⟨w.heap.size,4,none⟩=some (.int .i64 r.epoch):=r1.cell 4
 have x5:=(r1.cell 37).trans (VC hn)
 have HS0:=U0 (show r.ok=(qB r.client 0 2 && (qB r.num 1 9007199254740991 && (qB r.code 0 3 && (qB r.version 0 9007199254740991 && (qB r.epoch 0 255 && decide (r.env.length≤1024)))))) from rfl)
 generalize r.ok=ok at*
 obtain⟨a0,a1,a2,a3,a4,nr,er⟩:=r
 dsimp only at hlm x0 x1 x2 x3 x4 x5 HS0 HW hn ⊢
 obtain⟨L,hL⟩:∃ L,er.length=L:=⟨_,rfl⟩
 rw[hL] at hlm x5 HS0 HW ⊢
 clear k1 r1 hw1 hn hL
 rcases Bool.eq_false_or_eq_true (qB a0 0 2) with c0|c0
 ·skip
  rcases Bool.eq_false_or_eq_true (qB a1 1 9007199254740991) with c1|c1
  ·skip
   by_cases c2a:0≤a2
   ·by_cases c2b:a2≤3
    ·skip
     have c2:=OB (n:=a2) (lo:=0) (hi:=3) ⟨c2a,c2b⟩
     have dc2a:=decide_eq_true c2a
     have dc2b:=decide_eq_true c2b
     rcases Bool.eq_false_or_eq_true (qB a3 0 9007199254740991) with c3|c3
     ·skip
      by_cases c4a:0≤a4
      ·by_cases c4b:a4≤255
       ·skip
        have c4:=OB (n:=a4) (lo:=0) (hi:=255) ⟨c4a,c4b⟩
        have dc4a:=decide_eq_true c4a
        have dc4b:=decide_eq_true c4b
        by_cases e0:(L:Int)≤1024
        ·skip
         have e1:L≤1024:=by omega
         have d0:=decide_eq_true e0
         have HS:=U0 (show ok=true by rw[HS0.o];simp[c0,c1,c2,c3,c4,e1])
         clear HS0
         go_enter func21,ntmps21
         go_wp2_with (first
          |(with_reducible refine Z4 _ _ rfl 28 (.tmp 0) rfl _ rfl HW.o.1 ?_)
          |(go_at_call 84;refine (p9 _ _).mono ?_;rintro e w' ⟨rfl,rfl⟩)
          |(go_at_call 85;refine (I8 _ _).mono ?_;rintro e w' ⟨rfl,rfl⟩)
          |(go_at_call 63;refine (o8 _ _).mono ?_;rintro e w' ⟨rfl,rfl⟩)
          |(go_at_call 66;refine (Q8 _ _).mono ?_;rintro e w' ⟨rfl,rfl⟩))
         go_ret
         exact⟨by rw[HS.o];first|rfl|simp_all,HW.o.2⟩
        ·skip
         have e1: ¬L≤1024:=by omega
         have d0:=decide_eq_false e0
         have HS:=U0 (show ok=false by rw[HS0.o];simp[c0,c1,c2,c3,c4,e1])
         clear HS0
         go_enter func21,ntmps21
         go_wp2_with (first
          |(with_reducible refine Z4 _ _ rfl 28 (.tmp 0) rfl _ rfl HW.o.1 ?_)
          |(go_at_call 84;refine (p9 _ _).mono ?_;rintro e w' ⟨rfl,rfl⟩)
          |(go_at_call 85;refine (I8 _ _).mono ?_;rintro e w' ⟨rfl,rfl⟩)
          |(go_at_call 63;refine (o8 _ _).mono ?_;rintro e w' ⟨rfl,rfl⟩)
          |(go_at_call 66;refine (Q8 _ _).mono ?_;rintro e w' ⟨rfl,rfl⟩))
         go_ret
         exact⟨by rw[HS.o];first|rfl|simp_all,HW.o.2⟩
       ·skip
        have c4:=eB (n:=a4) (lo:=0) (hi:=255) (fun h=>c4b h.2)
        have dc4a:=decide_eq_true c4a
        have dc4b:=decide_eq_false c4b
        have HS:=U0 (show ok=false by rw[HS0.o];simp[c0,c1,c2,c3,c4])
        clear HS0
        go_enter func21,ntmps21
        go_wp2_with (first
         |(with_reducible refine Z4 _ _ rfl 28 (.tmp 0) rfl _ rfl HW.o.1 ?_)
         |(go_at_call 84;refine (p9 _ _).mono ?_;rintro e w' ⟨rfl,rfl⟩)
         |(go_at_call 85;refine (I8 _ _).mono ?_;rintro e w' ⟨rfl,rfl⟩)
         |(go_at_call 63;refine (o8 _ _).mono ?_;rintro e w' ⟨rfl,rfl⟩)
         |(go_at_call 66;refine (Q8 _ _).mono ?_;rintro e w' ⟨rfl,rfl⟩))
        go_ret
        exact⟨by rw[HS.o];first|rfl|simp_all,HW.o.2⟩
      ·skip
       have c4:=eB (n:=a4) (lo:=0) (hi:=255) (fun h=>c4a h.1)
       have dc4a:=decide_eq_false c4a
       have HS:=U0 (show ok=false by rw[HS0.o];simp[c0,c1,c2,c3,c4])
       clear HS0
       go_enter func21,ntmps21
       go_wp2_with (first
        |(with_reducible refine Z4 _ _ rfl 28 (.tmp 0) rfl _ rfl HW.o.1 ?_)
        |(go_at_call 84;refine (p9 _ _).mono ?_;rintro e w' ⟨rfl,rfl⟩)
        |(go_at_call 85;refine (I8 _ _).mono ?_;rintro e w' ⟨rfl,rfl⟩)
        |(go_at_call 63;refine (o8 _ _).mono ?_;rintro e w' ⟨rfl,rfl⟩)
        |(go_at_call 66;refine (Q8 _ _).mono ?_;rintro e w' ⟨rfl,rfl⟩))
       go_ret
       exact⟨by rw[HS.o];first|rfl|simp_all,HW.o.2⟩
     ·skip
      have HS:=U0 (show ok=false by rw[HS0.o];simp[c0,c1,c2,c3])
      clear HS0
      go_enter func21,ntmps21
      go_wp2_with (first
       |(with_reducible refine Z4 _ _ rfl 28 (.tmp 0) rfl _ rfl HW.o.1 ?_)
       |(go_at_call 84;refine (p9 _ _).mono ?_;rintro e w' ⟨rfl,rfl⟩)
       |(go_at_call 85;refine (I8 _ _).mono ?_;rintro e w' ⟨rfl,rfl⟩)
       |(go_at_call 63;refine (o8 _ _).mono ?_;rintro e w' ⟨rfl,rfl⟩)
       |(go_at_call 66;refine (Q8 _ _).mono ?_;rintro e w' ⟨rfl,rfl⟩))
      go_ret
      exact⟨by rw[HS.o];first|rfl|simp_all,HW.o.2⟩
    ·skip
     have c2:=eB (n:=a2) (lo:=0) (hi:=3) (fun h=>c2b h.2)
     have dc2a:=decide_eq_true c2a
     have dc2b:=decide_eq_false c2b
     have HS:=U0 (show ok=false by rw[HS0.o];simp[c0,c1,c2])
     clear HS0
     go_enter func21,ntmps21
     go_wp2_with (first
      |(with_reducible refine Z4 _ _ rfl 28 (.tmp 0) rfl _ rfl HW.o.1 ?_)
      |(go_at_call 84;refine (p9 _ _).mono ?_;rintro e w' ⟨rfl,rfl⟩)
      |(go_at_call 85;refine (I8 _ _).mono ?_;rintro e w' ⟨rfl,rfl⟩)
      |(go_at_call 63;refine (o8 _ _).mono ?_;rintro e w' ⟨rfl,rfl⟩)
      |(go_at_call 66;refine (Q8 _ _).mono ?_;rintro e w' ⟨rfl,rfl⟩))
     go_ret
     exact⟨by rw[HS.o];first|rfl|simp_all,HW.o.2⟩
   ·skip
    have c2:=eB (n:=a2) (lo:=0) (hi:=3) (fun h=>c2a h.1)
    have dc2a:=decide_eq_false c2a
    have HS:=U0 (show ok=false by rw[HS0.o];simp[c0,c1,c2])
    clear HS0
    go_enter func21,ntmps21
    go_wp2_with (first
     |(with_reducible refine Z4 _ _ rfl 28 (.tmp 0) rfl _ rfl HW.o.1 ?_)
     |(go_at_call 84;refine (p9 _ _).mono ?_;rintro e w' ⟨rfl,rfl⟩)
     |(go_at_call 85;refine (I8 _ _).mono ?_;rintro e w' ⟨rfl,rfl⟩)
     |(go_at_call 63;refine (o8 _ _).mono ?_;rintro e w' ⟨rfl,rfl⟩)
     |(go_at_call 66;refine (Q8 _ _).mono ?_;rintro e w' ⟨rfl,rfl⟩))
    go_ret
    exact⟨by rw[HS.o];first|rfl|simp_all,HW.o.2⟩
  ·skip
   have HS:=U0 (show ok=false by rw[HS0.o];simp[c0,c1])
   clear HS0
   go_enter func21,ntmps21
   go_wp2_with (first
    |(with_reducible refine Z4 _ _ rfl 28 (.tmp 0) rfl _ rfl HW.o.1 ?_)
    |(go_at_call 84;refine (p9 _ _).mono ?_;rintro e w' ⟨rfl,rfl⟩)
    |(go_at_call 85;refine (I8 _ _).mono ?_;rintro e w' ⟨rfl,rfl⟩)
    |(go_at_call 63;refine (o8 _ _).mono ?_;rintro e w' ⟨rfl,rfl⟩)
    |(go_at_call 66;refine (Q8 _ _).mono ?_;rintro e w' ⟨rfl,rfl⟩))
   go_ret
   exact⟨by rw[HS.o];first|rfl|simp_all,HW.o.2⟩
 ·skip
  have HS:=U0 (show ok=false by rw[HS0.o];simp[c0])
  clear HS0
  go_enter func21,ntmps21
  go_wp2_with (first
   |(with_reducible refine Z4 _ _ rfl 28 (.tmp 0) rfl _ rfl HW.o.1 ?_)
   |(go_at_call 84;refine (p9 _ _).mono ?_;rintro e w' ⟨rfl,rfl⟩)
   |(go_at_call 85;refine (I8 _ _).mono ?_;rintro e w' ⟨rfl,rfl⟩)
   |(go_at_call 63;refine (o8 _ _).mono ?_;rintro e w' ⟨rfl,rfl⟩)
   |(go_at_call 66;refine (Q8 _ _).mono ?_;rintro e w' ⟨rfl,rfl⟩))
  go_ret
  exact⟨by rw[HS.o];first|rfl|simp_all,HW.o.2⟩
def NC:List Int→List Int→Bool
 |_,[]=>true
 |pre,a::r=>qB a 10 13 && (!(pre.contains a) && NC (pre++[a]) r)
theorem UI {l:List Int} {i:Nat} {a:Int} (h:l[i]? =some a):NC (l.take i) (l.drop i)=(qB a 10 13 && (!((l.take i).contains a) && NC (l.take (i+1)) (l.drop (i+1)))):=by
 obtain⟨hl,ha⟩:=List.getElem?_eq_some_iff.1 h
 rw[List.drop_eq_getElem_cons hl,ha,List.take_add_one,h]
 rfl
theorem XI {l:List Int} {i:Nat} {a:Int}:a∈l.take i↔∃ k,k<i∧l[k]? =some a:=by
 rw[List.mem_iff_getElem?]
 constructor
 ·rintro⟨k,h⟩
  rw[List.getElem?_take] at h
  by_cases hk:k<i
  ·rw[if_pos hk] at h;exact⟨k,hk,h⟩
  ·rw[if_neg hk] at h;simp at h
 ·rintro⟨k,hk,h⟩
  exact⟨k,by rw[List.getElem?_take,if_pos hk];exact h⟩
def CF.ok (c:CF):Bool:=qB c.num 0 9007199254740991 && (decide (1≤c.chain.length) && (decide (c.chain.length≤4) && (qB c.full 1 c.chain.length && NC [] c.chain)))
theorem tC (F:List Nat) (r:CF) (cv:Value) (w:World) (h:F8 w F cv r.chain):
 Calls prog 22 #[.agg (bA r cv).toArray] w fun e w'=>e= .returned (.int .i64 (O9 r.ok))∧U1 [] w w':=by
 obtain⟨A,c,g,rfl,_,hcm,hA,_⟩:=h
 have hlm:r.chain.length≤9223372036854775807:=by unfold maxLen at hcm;omega
 have k1:=(U1.refl [] w).alloc (.cells (bA r (.slice A r.chain.length c)).toArray 31)
 have r1:=l5.new w 31 (bA r (.slice A r.chain.length c)).toArray
 obtain⟨w1,hw1⟩:∃ w1,w.alloc (.cells (bA r (.slice A r.chain.length c)).toArray 31)=w1:=⟨_,rfl⟩
 rw[hw1] at k1 r1
 have HW:=U0 (U2 hw1 (U2 k1 (hA.keepS k1 (by simp))))
 have x0:w1.cell? ⟨w.heap.size,0,none⟩=some (.int .i64 r.num):=r1.cell 0
 have x1:w1.cell? ⟨w.heap.size,1,none⟩=some (.int .i64 r.full):=r1.cell 1
 have x2:w1.cell? ⟨w.heap.size,2,none⟩=some (.slice A r.chain.length c):=r1.cell 2
 have hbs:w.heap.size<w1.heap.size:=by rw[←hw1,World.size_alloc];omega
 have HS0:=U0 (show r.ok=(qB r.num 0 9007199254740991 && (decide (1≤r.chain.length) && (decide (r.chain.length≤4) && (qB r.full 1 r.chain.length && NC [] r.chain)))) from rfl)
 generalize r.ok=ok at*
 obtain⟨a0,a1,l⟩:=r
 dsimp only at hlm x0 x1 x2 HS0 HW ⊢
 obtain⟨L,hL⟩:∃ L,l.length=L:=⟨_,rfl⟩
 rw[hL] at hlm x2 HS0 HW ⊢
 clear k1 r1 hw1 hA
 rcases Bool.eq_false_or_eq_true (qB a0 0 9007199254740991) with c0|c0
 ·by_cases e1:(L:Int)<1
  ·have e1d:=decide_eq_true e1
   have hn: ¬1≤L:=by omega
   have HS:=U0 (show ok=false by rw[HS0.o];simp[c0,hn])
   clear HS0
   go_enter func22,ntmps22
   go_wp2_with (first
    |(with_reducible refine Z4 _ _ rfl 31 (.tmp 0) rfl _ rfl HW.o.1 ?_)
    |(go_at_call 63;refine (o8 _ _).mono ?_;rintro e w' ⟨rfl,rfl⟩))
   go_ret
   exact⟨by rw[HS.o];rfl,HW.o.2.1⟩
  ·have e1d:=decide_eq_false e1
   have hn:1≤L:=by omega
   by_cases e2:(L:Int)>4
   ·have e2d:=decide_eq_true e2
    have hn2: ¬L≤4:=by omega
    have HS:=U0 (show ok=false by rw[HS0.o];simp[c0,hn2])
    clear HS0
    go_enter func22,ntmps22
    go_wp2_with (first
     |(with_reducible refine Z4 _ _ rfl 31 (.tmp 0) rfl _ rfl HW.o.1 ?_)
     |(go_at_call 63;refine (o8 _ _).mono ?_;rintro e w' ⟨rfl,rfl⟩))
    go_ret
    exact⟨by rw[HS.o];rfl,HW.o.2.1⟩
   ·have e2d:=decide_eq_false e2
    have hn2:L≤4:=by omega
    by_cases e3:a1<1
    ·have e3d:=decide_eq_true e3
     have i1:=eB (n:=a1) (lo:=1) (hi:=L) (fun h=>by omega)
     have HS:=U0 (show ok=false by rw[HS0.o];simp[c0,i1])
     clear HS0
     go_enter func22,ntmps22
     go_wp2_with (first
      |(with_reducible refine Z4 _ _ rfl 31 (.tmp 0) rfl _ rfl HW.o.1 ?_)
      |(go_at_call 63;refine (o8 _ _).mono ?_;rintro e w' ⟨rfl,rfl⟩))
     go_ret
     exact⟨by rw[HS.o];rfl,HW.o.2.1⟩
    ·have e3d:=decide_eq_false e3
     by_cases e4:a1>(L:Int)
     ·have e4d:=decide_eq_true e4
      have i1:=eB (n:=a1) (lo:=1) (hi:=L) (fun h=>by omega)
      have HS:=U0 (show ok=false by rw[HS0.o];simp[c0,i1])
      clear HS0
      go_enter func22,ntmps22
      go_wp2_with (first
       |(with_reducible refine Z4 _ _ rfl 31 (.tmp 0) rfl _ rfl HW.o.1 ?_)
       |(go_at_call 63;refine (o8 _ _).mono ?_;rintro e w' ⟨rfl,rfl⟩))
      go_ret
      exact⟨by rw[HS.o];rfl,HW.o.2.1⟩
     ·have e4d:=decide_eq_false e4
      have i1:=OB (n:=a1) (lo:=1) (hi:=L) ⟨by omega,by omega⟩
      have HS:=U0 (show ok=NC (l.take 0) (l.drop 0) by rw[HS0.o];simp[c0,i1,hn,hn2])
      clear HS0
      go_enter func22,ntmps22
      go_wp2_with (first
       |(with_reducible refine Z4 _ _ rfl 31 (.tmp 0) rfl _ rfl HW.o.1 ?_)
       |(go_at_call 63;refine (o8 _ _).mono ?_;rintro e w' ⟨rfl,rfl⟩))
      go_loopw [3,4,6,39,50,51,52] (fun _ _ _ v39 _ _ _ wx=>∃ i:Nat,i≤L∧v39= .int .i64 (i:Int)∧NC (l.take 0) (l.drop 0)=NC (l.take i) (l.drop i)∧U1 [] w wx∧U1 [] w1 wx) (fun _ _ _ v39 _ _ _ _=>L-(intOf v39).toNat)
      case atStart=>exact⟨0,by omega,rfl,rfl,HW.o.2.1,U1.refl _ _⟩
      case round=>
       obtain⟨i,hi,rfl,ht,hk,hk1⟩:=hrel
       by_cases hlt:i<L
       ·have hlt':(i:Int)<(L:Int):=by omega
        obtain⟨a,ha⟩:∃ a,l[i]? =some a:=⟨_,List.getElem?_eq_getElem (by omega)⟩
        obtain⟨o,rfl,hgl,hcA⟩:=HW.o.2.2.2 (by omega)
        have y0:=(hk1.cell (p:=⟨g,o+i,none⟩) hgl (by simp)).trans (hcA i (.int .i64 a) (by rw[List.getElem?_map,ha];rfl))
        have x2':=(hk1.cell (p:=⟨w.heap.size,2,none⟩) hbs (by simp)).trans x2
        have hw1:IntKind.i64.wrap ((i:Int)+1)=(i:Int)+1:=Z8 _ (by omega) (by omega)
        have hs:=ht.trans (UI ha)
        have hread:=U0 (fun j (hj:j<i)=>(⟨l[j]'(by omega),List.getElem?_eq_getElem _,(hk1.cell (p:=⟨g,o+j,none⟩) hgl (by simp)).trans (hcA j (.int .i64 (l[j]'(by omega))) (by rw[List.getElem?_map,List.getElem?_eq_getElem (by omega)];rfl))⟩:∃ b,l[j]? =some b∧wr.cell? ⟨g,o+j,none⟩=some (.int .i64 b)))
        have HR:=U0 (U2 hs (U2 hk (U2 hk1 ha)))
        clear ht hk hk1 hcA ha hs
        have hgr:g<wr.heap.size:=World.block_lt_of_cell? wr _ y0
        by_cases hrp:qB a 10 13=true
        ·go_wp2_with (first
          |(go_at_call 86;refine (wE _ _).mono ?_;rintro e w' ⟨rfl,rfl⟩))
         go_loopw [6,52] (fun _ v52 wx=>∃ j:Nat,j≤i∧v52= .int .i64 (j:Int)∧(∀ k,k<j→l[k]? ≠some a)∧wx=wr) (fun _ v52 _=>i-(intOf v52).toNat)
         case atStart=>exact⟨0,by omega,rfl,fun k h=>absurd h (by omega),rfl⟩
         case round=>
          obtain⟨j,hj,rfl,hno,rfl⟩:=hrel
          by_cases hltj:j<i
          ·have hltj':(j:Int)<(i:Int):=by omega
           obtain⟨b,hb,y1⟩:=hread.o j hltj
           have hw1:IntKind.i64.wrap ((j:Int)+1)=(j:Int)+1:=Z8 _ (by omega) (by omega)
           by_cases hab:b=a
           ·subst hab
            have hm:(l.take i).contains b=true:=by
             rw[List.contains_iff_mem,XI]
             exact⟨j,hltj,hb⟩
            have HS2:=U0 (show ok=false by rw[HS.o,HR.o.1,hm];simp)
            have HK2:=U0 HR.o.2.1
            clear hm hno HS HR
            go_wp2_with fail
            go_ret
            exact⟨by rw[HS2.o];rfl,HK2.o⟩
           ·have hbf:(b==a)=false:=by simpa using hab
            have HN:=U0 (show ∀ k,k<j+1→l[k]? ≠some a from fun k hk'=>by
             by_cases e:k=j
             ·subst e;rw[hb];intro h;injection h with h;exact hab h
             ·exact hno k (by omega))
            clear hno hb hab
            go_wp2_with fail
            go_roundw
            case rel=>exact⟨j+1,by omega,by go_num,HN.o,by first|rfl|trivial⟩
            case measure=>simp[intOf];omega
          ·obtain rfl:j=i:=by omega
           have hm:(l.take j).contains a=false:=by
            rw[Bool.eq_false_iff]
            intro h
            rw[List.contains_iff_mem,XI] at h
            obtain⟨k,hk',h⟩:=h
            exact hno k hk' h
           have HS2:=U0 (show NC (l.take 0) (l.drop 0)=NC (l.take (j+1)) (l.drop (j+1)) by rw[HR.o.1,hm,hrp];simp)
           clear hm hno
           go_wp2_with fail
           go_roundw
           case rel=>exact⟨j+1,by omega,by go_num,HS2.o,HR.o.2.1,HR.o.2.2.1⟩
           case measure=>simp[intOf];omega
        ·have hrf:qB a 10 13=false:=by simpa using hrp
         have HS2:=U0 (show ok=false by rw[HS.o,HR.o.1,hrf];simp)
         clear hrp
         go_wp2_with (first
          |(go_at_call 86;refine (wE _ _).mono ?_;rintro e w' ⟨rfl,rfl⟩;rw[hrf]))
         go_ret
         exact⟨by rw[HS2.o];rfl,HR.o.2.1⟩
       ·obtain rfl:i=L:=by omega
        have HS2:=U0 (show ok=true by rw[HS.o,ht,←hL,List.drop_length];rfl)
        have HK:=U0 hk
        clear ht hk hk1
        go_wp2_with fail
        go_ret
        exact⟨by rw[HS2.o];rfl,HK.o⟩
 ·have HS:=U0 (show ok=false by rw[HS0.o];simp[c0])
  clear HS0
  go_enter func22,ntmps22
  go_wp2_with (first
   |(with_reducible refine Z4 _ _ rfl 31 (.tmp 0) rfl _ rfl HW.o.1 ?_)
   |(go_at_call 63;refine (o8 _ _).mono ?_;rintro e w' ⟨rfl,rfl⟩))
  go_ret
  exact⟨by rw[HS.o];rfl,HW.o.2.1⟩
end Go.Proofs.YthfdkonhjpdflaaGreatDoor
