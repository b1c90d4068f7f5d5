import Derived.Test.YthfdkonhjpdflaaGreatDoorRCB
import Derived.Test.YthfdkonhjpdflaaGreatDoorPk9
import Derived.Test.YthfdkonhjpdflaaGreatDoorPk16
namespace Go.Proofs.YthfdkonhjpdflaaGreatDoor
open Go.RowKit Go.Proofs.Tryz
set_option linter.unusedVariables false
set_option maxRecDepth 100000
set_option linter.unusedSimpArgs false
set_option maxHeartbeats 16000000
def PK.partsD (p:PK):Bool:=((decide (p.kind=11) && JB p.votes)||decide (p.votes.length=0)) && (((decide (p.kind=6) && decide (p.bytes.length≤32768))||decide (p.bytes.length=0)) && ((if bG.contains p.kind then p.req.ok else p.req.same I7) && ((if p.kind=2 then p.ans.ok else p.ans.same l8) && (if UC.contains p.kind then p.conf.ok else p.conf.same V7))))
theorem MQ (w:World):(Instr.build 26 #[]).run prog w= .ok (.agg (U8 I7 I4).toArray) w:=by kernel_rfl
theorem LQ (w:World):(Instr.build 28 #[]).run prog w= .ok (.agg (x9 l8 I4).toArray) w:=by kernel_rfl
theorem build_cfZ (w:World):(Instr.build 31 #[]).run prog w= .ok (.agg (bA V7 I4).toArray) w:=by kernel_rfl
theorem qP (F:List Nat) (p:PK) (ev av cv vv bw:Value) (w:World) (h:wD w F p ev av cv vv bw) (hf:p.fits):
 Calls prog 72 #[.agg (q8 p ev av cv vv bw).toArray] w fun e w'=>e= .returned (.bool p.partsD)∧U1 [] w w':=by
 have k1:=(U1.refl [] w).alloc (.cells (q8 p ev av cv vv bw).toArray 34)
 have r1:=l5.new w 34 (q8 p ev av cv vv bw).toArray
 obtain⟨w1,hw1⟩:∃ w1,w.alloc (.cells (q8 p ev av cv vv bw).toArray 34)=w1:=⟨_,rfl⟩
 rw[hw1] at k1 r1
 have a1:=r1.pk h.rn h.an
 have HW:=U0 hw1
 have HA:=U0 (U2 a1 (U2 (h.over k1) k1))
 have x0:=a1.c0
 have x7:=a1.d3
 have x8:=a1.d4
 obtain⟨VA,vc,vg,TV,rfl,hv1,hv2,hv3,hv4,hv5,hv6⟩:=id h.vs
 obtain⟨BA,bc,bg,rfl,_,_,sb,_⟩:=id h.bs
 have HFc:=U0 hf.c
 clear a1 k1 r1 hw1 h hf hv1 hv2 hv3 hv4 hv5 hv6 sb
 obtain⟨fin,hfin⟩:∃ b,p.partsD=b:=⟨_,rfl⟩
 have HF0:=U0 hfin
 rw[hfin]
 clear hfin
 go_enter func72,ntmps72
 go_upto_region 1 with (with_reducible refine Z4 _ _ rfl 34 (.tmp 0) rfl _ rfl HW.o ?_)
 obtain⟨B1,hB1⟩:∃ B,((decide (p.kind=11) && JB p.votes)||decide (p.votes.length=0))=B:=⟨_,rfl⟩
 obtain⟨B2,hB2⟩:∃ B,((decide (p.kind=6) && decide (p.bytes.length≤32768))||decide (p.bytes.length=0))=B:=⟨_,rfl⟩
 have HB1:=U0 hB1
 have HB2:=U0 hB2
 clear hB1 hB2
 go_cut [3] (fun v3 wx=>v3= .bool B1∧U1 [] w1 wx)
 case first=>
  have HC:=U0 (votesD F p.votes _ w1 HA.o.2.1.vs)
  have HR:=U0 (U1.refl [] w1)
  obtain⟨B,hB⟩:∃ B,JB p.votes=B:=⟨_,rfl⟩
  rw[hB] at HC HB1
  clear hB x8
  by_cases h0:p.votes.length=0
  ·have g0:((p.votes.length:Int)==0)=true:=by simp[h0]
   have HZ:=U0 (show decide (p.votes.length=0)=true by simp[h0])
   clear h0
   by_cases hk:p.kind=11
   ·have HD:=U0 (show decide (p.kind=11)=true by simp[hk])
    rw[hk] at x0
    clear hk
    cases B
    all_goals
     go_wp2_with (go_at_call 135;refine HC.o.mono ?_;rintro e w' ⟨rfl,k3⟩;have HK3:=U0 k3;have x7:=(k3.cell (p:=⟨w.heap.size,85,none⟩) (World.block_lt_of_cell? w1 _ x7) (by simp)).trans x7;clear k3)
     go_meet
     case rel=>exact⟨by rw[←HB1.o,HD.o,HZ.o];rfl,HK3.o⟩
   ·have g1:(p.kind==11)=false:=by simp[hk]
    have HD:=U0 (show decide (p.kind=11)=false by simp[hk])
    clear hk
    go_wp2_with fail
    go_meet
    case rel=>exact⟨by rw[←HB1.o,HD.o,HZ.o];rfl,HR.o⟩
  ·have g0:((p.votes.length:Int)==0)=false:=beq_eq_false_iff_ne.2 (by omega)
   have HZ:=U0 (show decide (p.votes.length=0)=false from decide_eq_false h0)
   clear h0
   by_cases hk:p.kind=11
   ·have HD:=U0 (show decide (p.kind=11)=true by simp[hk])
    rw[hk] at x0
    clear hk
    cases B
    all_goals
     go_wp2_with (go_at_call 135;refine HC.o.mono ?_;rintro e w' ⟨rfl,k3⟩;have HK3:=U0 k3;have x7:=(k3.cell (p:=⟨w.heap.size,85,none⟩) (World.block_lt_of_cell? w1 _ x7) (by simp)).trans x7;clear k3)
     go_meet
     case rel=>exact⟨by rw[←HB1.o,HD.o,HZ.o];rfl,HK3.o⟩
   ·have g1:(p.kind==11)=false:=by simp[hk]
    have HD:=U0 (show decide (p.kind=11)=false by simp[hk])
    clear hk
    go_wp2_with fail
    go_meet
    case rel=>exact⟨by rw[←HB1.o,HD.o,HZ.o];rfl,HR.o⟩
 case rest=>
  obtain⟨rfl,hk⟩:=hcut
  have HA2:=U0 (U2 (HA.o.1.keep hk (by simp)) (U2 (HA.o.2.1.over hk) (HA.o.2.2.then hk (by simp))))
  clear x0 x7 x8 hk
  have x0:=HA2.o.1.c0
  have x8:=HA2.o.1.d4
  have HR:=U0 (U1.refl [] wc)
  go_upto_region 2 with fail
  go_cut [3] (fun v3 wx=>v3= .bool (B1 && B2)∧wx=wc)
  case first=>
   cases B1
   ·go_wp2_with fail
    go_meet
    case rel=>exact⟨rfl,rfl⟩
   ·by_cases hk:p.kind=6
    ·have HD:=U0 (show decide (p.kind=6)=true by simp[hk])
     rw[hk] at x0
     clear hk
     by_cases h1:(p.bytes.length:Int)≤32768
     ·have d1:=decide_eq_true h1
      have HZ:=U0 (show B2=true by rw[←HB2.o,HD.o,show decide (p.bytes.length≤32768)=true from decide_eq_true (by omega)];rfl)
      go_wp2_with fail
      go_meet
      case rel=>exact⟨by rw[HZ.o];rfl,rfl⟩
     ·have d1:=decide_eq_false h1
      have g1:((p.bytes.length:Int)==0)=false:=beq_eq_false_iff_ne.2 (by omega)
      have HZ:=U0 (show B2=false by rw[←HB2.o,HD.o,show decide (p.bytes.length≤32768)=false from decide_eq_false (by omega),show decide (p.bytes.length=0)=false from decide_eq_false (by omega)];rfl)
      go_wp2_with fail
      go_meet
      case rel=>exact⟨by rw[HZ.o];rfl,rfl⟩
    ·have g0:(p.kind==6)=false:=by simp[hk]
     have HD:=U0 (show decide (p.kind=6)=false by simp[hk])
     clear hk
     by_cases h1:p.bytes.length=0
     ·have g1:((p.bytes.length:Int)==0)=true:=by simp[h1]
      have HZ:=U0 (show B2=true by rw[←HB2.o,HD.o,show decide (p.bytes.length=0)=true from decide_eq_true h1];rfl)
      clear h1
      go_wp2_with fail
      go_meet
      case rel=>exact⟨by rw[HZ.o];rfl,rfl⟩
     ·have g1:((p.bytes.length:Int)==0)=false:=beq_eq_false_iff_ne.2 (by omega)
      have HZ:=U0 (show B2=false by rw[←HB2.o,HD.o,show decide (p.bytes.length=0)=false from decide_eq_false h1];rfl)
      clear h1
      go_wp2_with fail
      go_meet
      case rel=>exact⟨by rw[HZ.o];rfl,rfl⟩
  case rest=>
   obtain⟨rfl,rfl⟩:=hcut
   obtain⟨B12,hB12⟩:∃ B,(B1 && B2)=B:=⟨_,rfl⟩
   have HB12:=U0 hB12
   rw[hB12]
   obtain⟨cR,hcR⟩:∃ b,bG.contains p.kind=b:=⟨_,rfl⟩
   have HQ:=U0 (OD p.kind wc)
   rw[hcR] at HQ
   have HcR:=U0 hcR
   clear hcR hB12
   go_upto_if 38 with (go_at_call 57;refine HQ.o.mono ?_;rintro e wq ⟨rfl,k3⟩;have HA3:=U0 (U2 (HA2.o.1.keep k3 (by simp)) (U2 (HA2.o.2.1.over k3) (HA2.o.2.2.then k3 (by simp))));clear k3 x0 x8)
   obtain⟨B3,hB3⟩:∃ B,(if bG.contains p.kind then p.req.ok else p.req.same I7)=B:=⟨_,rfl⟩
   have HB3:=U0 hB3
   have HB1':=HB1
   have HB2':=HB2
   clear hB3 HQ HA HR HB1 HB2
   have HI:=U0 (show (prog.info? 26).map (·.size)=some (U8 p.req ev).length by rw[O8 HA3.o.2.1.rn];exact D9)
   go_cut [3] (fun v3 wx=>v3= .bool (B12 && B3)∧U1 [] wq wx)
   case first=>
    have HR:=U0 (U1.refl [] wq)
    have HC:=U0 (XG F p.req ev wq ⟨HA3.o.2.1.rn,HA3.o.2.1.re⟩)
    have HE:=U0 (iK F [] p.req I7 ev I4 wq ⟨HA3.o.2.1.rn,HA3.o.2.1.re⟩ ⟨j6,G7.nil _ _⟩)
    cases B12
    ·cases cR
     all_goals
      go_wp2_with fail
      go_meet
      case rel=>exact⟨rfl,HR.o⟩
    ·cases cR
     ·have hb3:=HB3.o
      rw[HcR.o] at hb3
      simp only[Bool.false_eq_true,if_false] at hb3
      rw[hb3] at HE
      have HZ:=U0 (MQ wq)
      clear hb3
      go_wp2_with (first
       |(refine j5 26 (.tmp 48) rfl w.heap.size 7 rfl (U8 p.req ev) _ HA3.o.1.rq underlying26 rfl HI.o ?_ ?_;·rfl)
       |(refine EB _ 26 rfl _ HZ.o ?_ ?_;·rfl)
       |(go_at_call 36;refine HE.o.mono ?_;rintro e w' ⟨rfl,k3⟩;have HK3:=U0 k3;clear k3))
      go_meet
      case rel=>exact⟨rfl,HK3.o⟩
     ·have hb3:=HB3.o
      rw[HcR.o] at hb3
      simp only[if_true] at hb3
      rw[hb3] at HC
      clear hb3
      cases B3
      all_goals
       simp only[O9,Bool.false_eq_true,if_false,if_true] at HC
       go_wp2_with (first
        |(refine j5 26 (.tmp 41) rfl w.heap.size 7 rfl (U8 p.req ev) _ HA3.o.1.rq underlying26 rfl HI.o ?_ ?_;·rfl)
        |(go_at_call 80;refine HC.o.mono ?_;rintro e w' ⟨rfl,k3⟩;have HK3:=U0 k3;clear k3))
       go_meet
       case rel=>exact⟨rfl,HK3.o⟩
   case rest=>
    obtain⟨rfl,hk⟩:=hcut
    have HA4:=U0 (U2 (HA3.o.1.keep hk (by simp)) (U2 (HA3.o.2.1.over hk) (HA3.o.2.2.then hk (by simp))))
    clear hk
    have x0:=HA4.o.1.c0
    obtain⟨C1,hC1⟩:∃ B,(B12 && B3)=B:=⟨_,rfl⟩
    have HC1:=U0 hC1
    rw[hC1]
    clear hC1 HA3 HI
    obtain⟨B4,hB4⟩:∃ B,(if p.kind=2 then p.ans.ok else p.ans.same l8)=B:=⟨_,rfl⟩
    have HB4:=U0 hB4
    clear hB4
    have HI:=U0 (show (prog.info? 28).map (·.size)=some (x9 p.ans av).length by rw[y9 HA4.o.2.1.an];exact Q9)
    go_upto_if 55 with fail
    clear x0
    go_cut [3] (fun v3 wx=>v3= .bool (C1 && B4)∧U1 [] wc wx)
    case first=>
     have HR:=U0 (U1.refl [] wc)
     have HC:=U0 (WG F p.ans av wc ⟨HA4.o.2.1.an,HA4.o.2.1.ae⟩)
     have HE:=U0 (gK F [] p.ans l8 av I4 wc ⟨HA4.o.2.1.an,HA4.o.2.1.ae⟩ ⟨F6,G7.nil _ _⟩)
     by_cases hk:p.kind=2
     ·have g0:(p.kind==2)=true:=by simp[hk]
      have hb4:=HB4.o
      rw[if_pos hk] at hb4
      rw[hb4] at HC
      clear hb4 hk
      cases C1
      ·go_wp2_with fail
       go_meet
       case rel=>exact⟨rfl,HR.o⟩
      ·cases B4
       all_goals
        simp only[O9,Bool.false_eq_true,if_false,if_true] at HC
        go_wp2_with (first
         |(refine j5 28 (.tmp 58) rfl w.heap.size 44 rfl (x9 p.ans av) _ HA4.o.1.an underlying28 rfl HI.o ?_ ?_;·rfl)
         |(go_at_call 82;refine HC.o.mono ?_;rintro e w' ⟨rfl,k3⟩;have HK3:=U0 k3;clear k3))
        go_meet
        case rel=>exact⟨rfl,HK3.o⟩
     ·have g0:(p.kind==2)=false:=by simp[hk]
      have hb4:=HB4.o
      rw[if_neg hk] at hb4
      rw[hb4] at HE
      have HZ:=U0 (LQ wc)
      clear hb4 hk
      cases C1
      ·go_wp2_with fail
       go_meet
       case rel=>exact⟨rfl,HR.o⟩
      ·go_wp2_with (first
        |(refine j5 28 (.tmp 65) rfl w.heap.size 44 rfl (x9 p.ans av) _ HA4.o.1.an underlying28 rfl HI.o ?_ ?_;·rfl)
        |(refine EB _ 28 rfl _ HZ.o ?_ ?_;·rfl)
        |(go_at_call 37;refine HE.o.mono ?_;rintro e w' ⟨rfl,k3⟩;have HK3:=U0 k3;clear k3))
       go_meet
       case rel=>exact⟨rfl,HK3.o⟩
    case rest=>
     obtain⟨rfl,hk⟩:=hcut
     have HA5:=U0 (U2 (HA4.o.1.keep hk (by simp)) (U2 (HA4.o.2.1.over hk) (HA4.o.2.2.then hk (by simp))))
     clear hk
     have x0:=HA5.o.1.c0
     obtain⟨D1,hD1⟩:∃ B,(C1 && B4)=B:=⟨_,rfl⟩
     have HD1:=U0 hD1
     rw[hD1]
     clear hD1 HA4 HI
     obtain⟨cF,hcF⟩:∃ b,UC.contains p.kind=b:=⟨_,rfl⟩
     have HQ:=U0 (XF p.kind wc)
     rw[hcF] at HQ
     have HcF:=U0 hcF
     clear hcF
     go_upto_if 72 with (go_at_call 59;refine HQ.o.mono ?_;rintro e wq ⟨rfl,k3⟩;have HA6:=U0 (U2 (HA5.o.1.keep k3 (by simp)) (U2 (HA5.o.2.1.over k3) (HA5.o.2.2.then k3 (by simp))));clear k3 x0)
     have u0:=HA6.o.1.d0
     have u1:=HA6.o.1.d1
     have u2:=HA6.o.1.d2
     have HFIN:=U0 (show fin=(D1 && (if UC.contains p.kind then p.conf.ok else p.conf.same V7)) by rw[←HF0.o];unfold PK.partsD;rw[HB1'.o,HB2'.o,HB3.o,HB4.o,←HD1.o,←HC1.o,←HB12.o];simp only[Bool.and_assoc])
     have HC:=U0 (eF F p.conf cv wq HA6.o.2.1.cc)
     have HE:=U0 (eH F [] p.conf V7 cv I4 wq HA6.o.2.1.cc (F8.nil _ _) HFc.o (by simp[V7]))
     cases D1
     ·have HF:=U0 (show fin=false by rw[HFIN.o];rfl)
      cases cF
      all_goals
       go_wp2_with fail
       go_ret
       exact⟨by rw[HF.o];rfl,HA6.o.2.2⟩
     ·cases cF
      ·have HF:=U0 (show fin=p.conf.same V7 by rw[HFIN.o,HcF.o];simp)
       go_wp2_with (go_at_call 38;refine HE.o.mono ?_;rintro e w' ⟨rfl,k3⟩;have HK3:=U0 (HA6.o.2.2.then k3 (by simp));clear k3 u0 u1 u2)
       go_ret
       exact⟨by rw[HF.o];rfl,HK3.o⟩
      ·have HF:=U0 (show fin=p.conf.ok by rw[HFIN.o,HcF.o];simp)
       generalize p.conf.ok=cfo at*
       cases cfo
       all_goals
        simp only[O9,Bool.false_eq_true,if_false,if_true] at HC
        go_wp2_with (go_at_call 83;refine HC.o.mono ?_;rintro e w' ⟨rfl,k3⟩;have HK3:=U0 (HA6.o.2.2.then k3 (by simp));clear k3 u0 u1 u2)
        go_ret
        exact⟨by rw[HF.o];rfl,HK3.o⟩
def PK.headD (p:PK):Bool:=qB p.kind 1 14 && (WB p.frm && WB p.dst)
def PK.numD (p:PK):Bool:=(gH.contains p.kind && qB p.num 0 9007199254740991)||(p.num==0)
def PK.seqD (p:PK):Bool:=(iH.contains p.kind && qB p.seq (lG p.kind) 9007199254740990)||(p.seq==0)
def PK.balD (p:PK):Bool:=(DC.contains p.kind && qB p.ballot 0 9007199254740991)||(p.ballot==0)
def PK.okD (p:PK):Bool:=((p.headD && (p.numD && (p.seqD && p.balD))) && ((p.kind==8)|| !p.ready)) && p.partsD
structure kindB (k n:Int):Prop where
 f:l6 k=n
 nz:(n==0)=false
 hd:qB k 1 14=true
 b1:gH.contains k= !(U6 n 1==0)
 b2:iH.contains k= !(U6 n 2==0)
 b3:DC.contains k= !(U6 n 4==0)
 b4:(k==8)= !(U6 n 8==0)
 b5:bG.contains k= !(U6 n 16==0)
 b6:decide (k=2)= !(U6 n 32==0)
 b7:UC.contains k= !(U6 n 64==0)
 b8:decide (k=11)= !(U6 n 128==0)
 b9:decide (k=6)= !(U6 n 256==0)
theorem kinds {k:Int} (h:1≤k∧k≤14):∃ n,kindB k n:=by
 have:k=1∨k=2∨k=3∨k=4∨k=5∨k=6∨k=7∨k=8∨k=9∨k=10∨k=11∨k=12∨k=13∨k=14:=by omega
 rcases this with rfl|rfl|rfl|rfl|rfl|rfl|rfl|rfl|rfl|rfl|rfl|rfl|rfl|rfl
 ·exact⟨16,by decide+kernel,by decide+kernel,by decide+kernel,by decide+kernel,by decide+kernel,by decide+kernel,by decide+kernel,by decide+kernel,by decide+kernel,by decide+kernel,by decide+kernel,by decide+kernel⟩
 ·exact⟨32,by decide+kernel,by decide+kernel,by decide+kernel,by decide+kernel,by decide+kernel,by decide+kernel,by decide+kernel,by decide+kernel,by decide+kernel,by decide+kernel,by decide+kernel,by decide+kernel⟩
 ·exact⟨19,by decide+kernel,by decide+kernel,by decide+kernel,by decide+kernel,by decide+kernel,by decide+kernel,by decide+kernel,by decide+kernel,by decide+kernel,by decide+kernel,by decide+kernel,by decide+kernel⟩
 ·exact⟨3,by decide+kernel,by decide+kernel,by decide+kernel,by decide+kernel,by decide+kernel,by decide+kernel,by decide+kernel,by decide+kernel,by decide+kernel,by decide+kernel,by decide+kernel,by decide+kernel⟩
 ·exact⟨3,by decide+kernel,by decide+kernel,by decide+kernel,by decide+kernel,by decide+kernel,by decide+kernel,by decide+kernel,by decide+kernel,by decide+kernel,by decide+kernel,by decide+kernel,by decide+kernel⟩
 ·exact⟨259,by decide+kernel,by decide+kernel,by decide+kernel,by decide+kernel,by decide+kernel,by decide+kernel,by decide+kernel,by decide+kernel,by decide+kernel,by decide+kernel,by decide+kernel,by decide+kernel⟩
 ·exact⟨64,by decide+kernel,by decide+kernel,by decide+kernel,by decide+kernel,by decide+kernel,by decide+kernel,by decide+kernel,by decide+kernel,by decide+kernel,by decide+kernel,by decide+kernel,by decide+kernel⟩
 ·exact⟨9,by decide+kernel,by decide+kernel,by decide+kernel,by decide+kernel,by decide+kernel,by decide+kernel,by decide+kernel,by decide+kernel,by decide+kernel,by decide+kernel,by decide+kernel,by decide+kernel⟩
 ·exact⟨1024,by decide+kernel,by decide+kernel,by decide+kernel,by decide+kernel,by decide+kernel,by decide+kernel,by decide+kernel,by decide+kernel,by decide+kernel,by decide+kernel,by decide+kernel,by decide+kernel⟩
 ·exact⟨6,by decide+kernel,by decide+kernel,by decide+kernel,by decide+kernel,by decide+kernel,by decide+kernel,by decide+kernel,by decide+kernel,by decide+kernel,by decide+kernel,by decide+kernel,by decide+kernel⟩
 ·exact⟨134,by decide+kernel,by decide+kernel,by decide+kernel,by decide+kernel,by decide+kernel,by decide+kernel,by decide+kernel,by decide+kernel,by decide+kernel,by decide+kernel,by decide+kernel,by decide+kernel⟩
 ·exact⟨70,by decide+kernel,by decide+kernel,by decide+kernel,by decide+kernel,by decide+kernel,by decide+kernel,by decide+kernel,by decide+kernel,by decide+kernel,by decide+kernel,by decide+kernel,by decide+kernel⟩
 ·exact⟨6,by decide+kernel,by decide+kernel,by decide+kernel,by decide+kernel,by decide+kernel,by decide+kernel,by decide+kernel,by decide+kernel,by decide+kernel,by decide+kernel,by decide+kernel,by decide+kernel⟩
 ·exact⟨4,by decide+kernel,by decide+kernel,by decide+kernel,by decide+kernel,by decide+kernel,by decide+kernel,by decide+kernel,by decide+kernel,by decide+kernel,by decide+kernel,by decide+kernel,by decide+kernel⟩
theorem intC (b x lo hi:Int) (h0:lo≤0) (h1:0≤hi):(((!(b==0)) && qB x lo hi)||(x==0))=((x==oI b x) && qB x lo hi):=by
 unfold oI
 by_cases hx:x=0
 ·subst hx
  rw[OB ⟨h0,h1⟩]
  simp
 ·have e:(x==0)=false:=by simpa using hx
  by_cases hb:b=0
  ·subst hb;simp[e]
  ·have hb':(b==0)=false:=by simpa using hb
   rw[if_neg hb];simp[e,hb']
theorem boolC (b:Int) (x:Bool):((!(b==0))|| !x)=(x==oB b x):=by
 unfold oB
 by_cases hb:b=0
 ·subst hb;cases x<;>rfl
 ·have hb':(b==0)=false:=by simpa using hb
  rw[if_neg hb];cases x<;>simp[hb']
theorem RQ.same_self (r:RQ):r.same r=true:=by simp[RQ.same]
theorem AN.same_self (r:AN):r.same r=true:=by simp[AN.same]
theorem CF.same_self (r:CF):r.same r=true:=by simp[CF.same]
theorem kK:∀ l:List VT,xH l l=true
 |[]=>rfl
 |v::r=>by simp[xH,VT.same,CF.same_self,kK r]
theorem OW (l:List VT):xH l []=decide (l.length=0):=by cases l<;>simp[xH]
theorem jU {α:Type} (b:Int) (x z:α) (same:α→α→Bool) (ok:α→Bool) (hs:same x x=true):(if (!(b==0))=true then ok x else same x z)=(same x (oV b z x) && ((b==0)||ok x)):=by
 unfold oV
 by_cases hb:b=0
 ·subst hb;simp
 ·have hb':(b==0)=false:=by simpa using hb
  rw[if_neg hb];simp[hs,hb']
theorem votesC (b:Int) (l:List VT):(((!(b==0)) && JB l)||decide (l.length=0))=(xH l (oV b [] l) && JB l):=by
 unfold oV
 by_cases hb:b=0
 ·subst hb
  rw[if_pos rfl,OW]
  cases l with
  |nil=>simp[JB,fE]
  |cons a r=>simp
 ·have hb':(b==0)=false:=by simpa using hb
  rw[if_neg hb,kK,hb']
  cases l with
  |nil=>simp[JB,fE]
  |cons a r=>simp
theorem bytesC (b:Int) (l:List UInt8):(((!(b==0)) && decide (l.length≤32768))||decide (l.length=0))=((l==oV b [] l) && decide (l.length≤32768)):=by
 unfold oV
 by_cases hb:b=0
 ·subst hb
  rw[if_pos rfl]
  cases l with
  |nil=>simp
  |cons a r=>simp
 ·have hb':(b==0)=false:=by simpa using hb
  rw[if_neg hb,hb']
  cases l with
  |nil=>simp
  |cons a r=>simp
theorem vH (p:PK):p.okD=p.ok:=by
 by_cases hk:1≤p.kind∧p.kind≤14
 ·obtain⟨n,h⟩:=kinds hk
  have e1:p.numD=((p.num==oI (U6 n 1) p.num) && qB p.num 0 9007199254740991):=by unfold PK.numD;rw[h.b1];exact intC _ _ _ _ (by omega) (by omega)
  have e2:p.seqD=((p.seq==oI (U6 n 2) p.seq) && JI p.kind p.seq):=by
   unfold PK.seqD
   rw[h.b2,intC _ _ _ _ (by unfold lG;split<;>omega) (by omega)]
   rfl
  have e3:p.balD=((p.ballot==oI (U6 n 4) p.ballot) && qB p.ballot 0 9007199254740991):=by unfold PK.balD;rw[h.b3];exact intC _ _ _ _ (by omega) (by omega)
  have e4:((p.kind==8)|| !p.ready)=(p.ready==oB (U6 n 8) p.ready):=by rw[h.b4];exact boolC _ _
  have e5:(if bG.contains p.kind then p.req.ok else p.req.same I7)=(p.req.same (oV (U6 n 16) I7 p.req) && ((U6 n 16==0)||p.req.ok)):=by rw[h.b5];exact jU _ p.req I7 RQ.same RQ.ok (RQ.same_self _)
  have e6:(if p.kind=2 then p.ans.ok else p.ans.same l8)=(p.ans.same (oV (U6 n 32) l8 p.ans) && ((U6 n 32==0)||p.ans.ok)):=by
   rw[←jU _ p.ans l8 AN.same AN.ok (AN.same_self _),←h.b6]
   simp only[decide_eq_true_eq]
  have e7:(if UC.contains p.kind then p.conf.ok else p.conf.same V7)=(p.conf.same (oV (U6 n 64) V7 p.conf) && ((U6 n 64==0)||p.conf.ok)):=by rw[h.b7];exact jU _ p.conf V7 CF.same CF.ok (CF.same_self _)
  have e8:((decide (p.kind=11) && JB p.votes)||decide (p.votes.length=0))=(xH p.votes (oV (U6 n 128) [] p.votes) && JB p.votes):=by rw[h.b8];exact votesC _ _
  have e9:((decide (p.kind=6) && decide (p.bytes.length≤32768))||decide (p.bytes.length=0))=((p.bytes==oV (U6 n 256) [] p.bytes) && decide (p.bytes.length≤32768)):=by rw[h.b9];exact bytesC _ _
  unfold PK.okD PK.partsD PK.headD PK.ok PK.parts
  rw[e1,e2,e3,e4,e5,e6,e7,e8,e9,h.f,h.nz,h.hd]
  unfold PK.same PK.cut
  dsimp only
  rw[show (p.kind==p.kind)=true by simp,show (p.frm==p.frm)=true by simp,show (p.dst==p.dst)=true by simp]
  simp only[Bool.true_and,Bool.not_false]
  generalize WB p.frm=a1
  generalize WB p.dst=a2
  generalize (p.num==oI (U6 n 1) p.num)=a3
  generalize qB p.num 0 9007199254740991=a4
  generalize (p.seq==oI (U6 n 2) p.seq)=a5
  generalize JI p.kind p.seq=a6
  generalize (p.ballot==oI (U6 n 4) p.ballot)=a7
  generalize qB p.ballot 0 9007199254740991=a8
  generalize (p.ready==oB (U6 n 8) p.ready)=a9
  generalize p.req.same (oV (U6 n 16) I7 p.req)=b1
  generalize (U6 n 16==0||p.req.ok)=b2
  generalize p.ans.same (oV (U6 n 32) l8 p.ans)=b3
  generalize (U6 n 32==0||p.ans.ok)=b4
  generalize p.conf.same (oV (U6 n 64) V7 p.conf)=b5
  generalize (U6 n 64==0||p.conf.ok)=b6
  generalize xH p.votes (oV (U6 n 128) [] p.votes)=b7
  generalize JB p.votes=b8
  generalize (p.bytes==oV (U6 n 256) [] p.bytes)=b9
  generalize decide (p.bytes.length≤32768)=c1
  ac_rfl
 ·have h1:qB p.kind 1 14=false:=eB hk
  have h2:(l6 p.kind==0)=true:=by
   unfold l6
   by_cases h:0≤p.kind∧p.kind≤14
   ·rw[if_pos h]
    obtain h0:p.kind=0:=by omega
    rw[h0];rfl
   ·rw[if_neg h];rfl
  unfold PK.okD PK.headD PK.ok
  rw[h1,h2]
  simp
end Go.Proofs.YthfdkonhjpdflaaGreatDoor
