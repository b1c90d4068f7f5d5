import Derived.Test.YthfdkonhjpdflaaGreatDoorRCA
import Derived.Test.YthfdkonhjpdflaaGreatDoorPk9
import Derived.Test.YthfdkonhjpdflaaGreatDoorPk16
import Derived.StillTailTactics
namespace Go.Proofs.YthfdkonhjpdflaaGreatDoor
open Go.RowKit Go.Proofs.Tryz
set_option linter.unusedVariables false
set_option maxRecDepth 100000
set_option linter.unusedSimpArgs false
set_option maxHeartbeats 16000000
theorem LU {l m:List VT} {i:Nat} {a b:VT} (ha:l[i]? =some a) (hb:m[i]? =some b):xH (l.drop i) (m.drop i)=(a.same b && xH (l.drop (i+1)) (m.drop (i+1))):=by
 obtain⟨h1,h2⟩:=List.getElem?_eq_some_iff.1 ha
 obtain⟨h3,h4⟩:=List.getElem?_eq_some_iff.1 hb
 rw[List.drop_eq_getElem_cons h1,h2,List.drop_eq_getElem_cons h3,h4]
 rfl
theorem oW (F G:List Nat) (p q:PK) (ev av cv vv bw ev' av' cv' vv' bw':Value) (w:World) (hp:wD w F p ev av cv vv bw) (hq:wD w G q ev' av' cv' vv' bw') (hfp:p.fits) (hfq:q.fits):
 Calls prog 13 #[.agg (q8 p ev av cv vv bw).toArray,.agg (q8 q ev' av' cv' vv' bw').toArray] w fun e w'=>e= .returned (.bool (p.same q))∧U1 [] w w':=by
 have k1:=(U1.refl [] w).alloc (.cells (q8 p ev av cv vv bw).toArray 34)
 have r1:=l5.new w 34 (q8 p ev av cv vv bw).toArray
 obtain⟨w1,hw1⟩:∃ w1,w.alloc (.cells (q8 p ev av cv vv bw).toArray 34)=w1:=⟨_,rfl⟩
 rw[hw1] at k1 r1
 have k2:=(U1.refl [] w1).alloc (.cells (q8 q ev' av' cv' vv' bw').toArray 34)
 have r2:=l5.new w1 34 (q8 q ev' av' cv' vv' bw').toArray
 have r12:=k2.row r1 (by simp)
 obtain⟨w2,hw2⟩:∃ w2,w1.alloc (.cells (q8 q ev' av' cv' vv' bw').toArray 34)=w2:=⟨_,rfl⟩
 rw[hw2] at k2 r2 r12
 have kk:=k1.then k2 (by simp)
 have a1:=r12.pk hp.rn hp.an
 have a2:=r2.pk hq.rn hq.an
 have HW:=U0 (U2 hw1 hw2)
 have HA:=U0 (U2 a1 (U2 a2 (U2 (hp.over kk) (U2 (hq.over kk) kk))))
 have x0:=a1.c0
 have y0:=a2.c0
 have x1:=a1.c1
 have y1:=a2.c1
 have x2:=a1.c2
 have y2:=a2.c2
 have x3:=a1.c3
 have y3:=a2.c3
 have x4:=a1.c4
 have y4:=a2.c4
 have x5:=a1.c5
 have y5:=a2.c5
 have x6:=a1.c6
 have y6:=a2.c6
 have x7:=a1.d3
 have y7:=a2.d3
 have x8:=a1.d4
 have y8:=a2.d4
 obtain⟨VA,vc,vg,TV,rfl,hv1,hv2,hv3,hv4,hv5,hv6⟩:=id hp.vs
 obtain⟨VB,ve,vh,TW,rfl,hw1',hw2',hw3',hw4',hw5',hw6'⟩:=id hq.vs
 obtain⟨BA,bc,bg,rfl,_,_,sb,_⟩:=id hp.bs
 obtain⟨BB,bd,bh,rfl,_,_,sc,_⟩:=id hq.bs
 have HE0:=U0 (YC BA BB bg bh bc bd p.bytes q.bytes w2 (sb.keep kk (by simp)) (sc.keep kk (by simp)))
 have HM:=U0 (show p.votes.length≤9223372036854775807∧q.votes.length≤9223372036854775807 by unfold maxLen at hv2 hw2';omega)
 have HFT:=U0 (U2 hfp hfq)
 clear hfp hfq hv1 hv2 hv3 hv4 hv5 hv6 hw1' hw2' hw3' hw4' hw5' hw6' sb sc
 clear a1 a2 k1 k2 r1 r2 r12 hw1 hw2 hp hq kk
 have HS0:=U0 (show p.same q=((p.kind==q.kind) && ((p.frm==q.frm) && ((p.dst==q.dst) && ((p.num==q.num) && ((p.seq==q.seq) && ((p.ballot==q.ballot) && ((p.ready==q.ready) && (p.req.same q.req && (p.ans.same q.ans && (p.conf.same q.conf && (xH p.votes q.votes && (p.bytes==q.bytes)))))))))))) from rfl)
 generalize p.same q=sv at*
 by_cases h0:p.kind=q.kind
 ·have e0:(p.kind==q.kind)=true:=by simp[h0]
  rw[h0] at x0
  have f0:(p.kind !=q.kind)=false:=by simp[h0]
  by_cases h1:p.frm=q.frm
  ·have e1:(p.frm==q.frm)=true:=by simp[h1]
   rw[h1] at x1
   have f1:(p.frm !=q.frm)=false:=by simp[h1]
   by_cases h2:p.dst=q.dst
   ·have e2:(p.dst==q.dst)=true:=by simp[h2]
    rw[h2] at x2
    have f2:(p.dst !=q.dst)=false:=by simp[h2]
    by_cases h3:p.num=q.num
    ·have e3:(p.num==q.num)=true:=by simp[h3]
     rw[h3] at x3
     have f3:(p.num !=q.num)=false:=by simp[h3]
     by_cases h4:p.seq=q.seq
     ·have e4:(p.seq==q.seq)=true:=by simp[h4]
      rw[h4] at x4
      have f4:(p.seq !=q.seq)=false:=by simp[h4]
      by_cases h5:p.ballot=q.ballot
      ·have e5:(p.ballot==q.ballot)=true:=by simp[h5]
       rw[h5] at x5
       have f5:(p.ballot !=q.ballot)=false:=by simp[h5]
       by_cases h6:p.ready=q.ready
       ·have e6:(p.ready==q.ready)=true:=by simp[h6]
        rw[h6] at x6
        have f6:(p.ready !=q.ready)=false:=by simp[h6]
        by_cases hl:p.votes.length=q.votes.length
        ·have g1:((p.votes.length:Int)==(q.votes.length:Int))=true:=by simp[hl]
         have g2:((p.votes.length:Int) !=(q.votes.length:Int))=false:=by simp[hl]
         by_cases hb:p.bytes=q.bytes
         ·have b1:(p.bytes==q.bytes)=true:=by simp[hb]
          rw[b1] at HE0
          have HS1:=U0 (show sv=(p.req.same q.req && (p.ans.same q.ans && (p.conf.same q.conf && xH p.votes q.votes))) by rw[HS0.o,e0,e1,e2,e3,e4,e5,e6,b1];simp)
          have HL:=U0 (U2 hl hb)
          clear HS0 hl hb b1 h0 h1 h2 h3 h4 h5 h6 e0 e1 e2 e3 e4 e5 e6
          go_enter func13,ntmps13
          go_upto_region 2 with (first|(with_reducible refine Z4 _ _ rfl 34 (.tmp 0) rfl _ rfl HW.o.1 ?_)|(with_reducible refine Z4 _ _ rfl 34 (.tmp 1) rfl _ rfl HW.o.2 ?_)|(go_at_call 11;refine HE0.o.mono ?_;rintro e w' ⟨rfl,rfl⟩))
          clear x0 y0 x1 y1 x2 y2 x3 y3 x4 y4 x5 y5 x6 y6
          go_upto_region 3 with fail
          clear f0 f1 f2 f3 f4 f5 f6 g1 g2 HE0
          go_loopw [5] (fun v5 wx=>∃ i:Nat,i≤q.votes.length∧v5= .int .i64 (i:Int)∧xH p.votes q.votes=xH (p.votes.drop i) (q.votes.drop i)∧U1 [] w2 wx) (fun v5 _=>q.votes.length-(intOf v5).toNat)
          case atStart=>exact⟨0,by omega,rfl,rfl,U1.refl _ _⟩
          case round=>
           obtain⟨i,hi,rfl,ht,hk⟩:=hrel
           have hM:=HM.o.2
           have hbw:w.heap.size<w2.heap.size:=World.block_lt_of_cell? w2 _ x7
           have hbw':w1.heap.size<w2.heap.size:=World.block_lt_of_cell? w2 _ y7
           have x7':=(hk.cell (p:=⟨w.heap.size,85,none⟩) hbw (by simp)).trans x7
           have y7':=(hk.cell (p:=⟨w1.heap.size,85,none⟩) hbw' (by simp)).trans y7
           clear hbw hbw'
           by_cases hlt:i<q.votes.length
           ·have hlt':(i:Int)<(q.votes.length:Int):=by omega
            have hlt2:(i:Int)<(p.votes.length:Int):=by rw[HL.o.1];omega
            obtain⟨a,ha⟩:∃ a,p.votes[i]? =some a:=⟨_,List.getElem?_eq_getElem (by rw[HL.o.1];omega)⟩
            obtain⟨b,hb⟩:∃ b,q.votes[i]? =some b:=⟨_,List.getElem?_eq_getElem hlt⟩
            obtain⟨g,o,cva,rfl, -, -,hca,a0,a1,a2,a3⟩:=(HA.o.2.2.1.vs.keep hk (by simp)).at ha
            obtain⟨h,o',cvb,rfl, -, -,hcb,b0,b1,b2,b3⟩:=(HA.o.2.2.2.1.vs.keep hk (by simp)).at hb
            have hs:=ht.trans (LU ha hb)
            have HC:=U0 (eH F G a.conf b.conf cva cvb wr.drew (hca.keep ((U1.refl [] wr).drew) (by simp)) (hcb.keep ((U1.refl [] wr).drew) (by simp)) (HFT.o.1.vc a (List.mem_of_getElem? ha)) (HFT.o.2.vc b (List.mem_of_getElem? hb)))
            obtain⟨ab,an,af,al⟩:=a
            obtain⟨bb,bn,bf,bl⟩:=b
            dsimp only at a0 a1 a2 a3 b0 b1 b2 b3 HC
            have hs2:xH p.votes q.votes=(((ab==bb) && CF.same ⟨an,af,al⟩ ⟨bn,bf,bl⟩) && xH (p.votes.drop (i+1)) (q.votes.drop (i+1))):=hs
            have HR:=U0 (U2 hs2 hk)
            clear ht hk ha hb hca hcb hs hs2
            go_upto_region 6 with fail
            by_cases hab:ab=bb
            ·have t1:(ab==bb)=true:=by simp[hab]
             have t2:(ab !=bb)=false:=by simp[hab]
             have HT:=U0 t1
             clear t1
             have HR2:=U0 (show xH p.votes q.votes=(CF.same ⟨an,af,al⟩ ⟨bn,bf,bl⟩ && xH (p.votes.drop (i+1)) (q.votes.drop (i+1))) by rw[HR.o.1,HT.o,Bool.true_and])
             have HK:=U0 (HR.o.2.then ((U1.refl [] wr).drew) (by simp))
             clear hab
             generalize CF.same ⟨an,af,al⟩ ⟨bn,bf,bl⟩=c1 at HC HR2
             cases c1
             ·have HF:=U0 (show sv=false by rw[HS1.o,HR2.o];simp)
              go_still_tail 26,(by kernel_rfl)
              change wpList _ _ _ _ _ wr.drew
              go_wp2_with (go_at_call 38;refine HC.o.mono ?_;rintro e w' ⟨rfl,k3⟩;have HK3:=U0 (HK.o.then k3 (by simp));clear k3 a0 a1 a2 a3 b0 b1 b2 b3 x7' y7')
              go_ret
              exact⟨by rw[HF.o];rfl,(HA.o.2.2.2.2.then HK3.o (by simp))⟩
             ·go_still_tail 26,(by kernel_rfl)
              change wpList _ _ _ _ _ wr.drew
              go_wp2_with (go_at_call 38;refine HC.o.mono ?_;rintro e w' ⟨rfl,k3⟩;have HK3:=U0 (HK.o.then k3 (by simp));clear k3 a0 a1 a2 a3 b0 b1 b2 b3 x7' y7')
              go_roundw
              case rel=>exact⟨i+1,by omega,by go_num,by rw[HR2.o,Bool.true_and],HK3.o⟩
              case measure=>simp[intOf];omega
            ·have t1:(ab==bb)=false:=by simp[hab]
             have t2:(ab !=bb)=true:=by simp[hab]
             have HF:=U0 (show sv=false by rw[HS1.o,HR.o.1,t1];simp)
             clear t1 hab
             go_quiet (fail)
             go_wp2
             go_ret
             exact⟨by rw[HF.o];rfl,(HA.o.2.2.2.2.then HR.o.2 (by simp)).drewN _⟩
           ·obtain rfl:i=q.votes.length:=by omega
            have hlt2: ¬((q.votes.length:Int)<(p.votes.length:Int)):=by rw[HL.o.1];omega
            have hfin:xH p.votes q.votes=true:=by rw[ht,List.drop_length,List.drop_eq_nil_of_le (by rw[HL.o.1];exact Nat.le_refl _)];rfl
            have HS2:=U0 (show sv=(p.req.same q.req && (p.ans.same q.ans && p.conf.same q.conf)) by rw[HS1.o,hfin];simp)
            have HB:=U0 (U2 (HA.o.1.keep hk (by simp)) (U2 (HA.o.2.1.keep hk (by simp)) (U2 (HA.o.2.2.1.over hk) (U2 (HA.o.2.2.2.1.over hk) (HA.o.2.2.2.2.then hk (by simp))))))
            clear ht hfin hk
            have HI:=U0 (show (prog.info? 26).map (·.size)=some (U8 p.req ev).length by rw[O8 HA.o.2.2.1.rn];exact D9)
            have HJ:=U0 (show (prog.info? 26).map (·.size)=some (U8 q.req ev').length by rw[O8 HA.o.2.2.2.1.rn];exact D9)
            have HI2:=U0 (show (prog.info? 28).map (·.size)=some (x9 p.ans av).length by rw[y9 HA.o.2.2.1.an];exact Q9)
            have HJ2:=U0 (show (prog.info? 28).map (·.size)=some (x9 q.ans av').length by rw[y9 HA.o.2.2.2.1.an];exact Q9)
            go_wp2_with (first|(refine j5 26 (.tmp 106) rfl w.heap.size 7 rfl (U8 p.req ev) _ HB.o.1.rq underlying26 rfl HI.o ?_ ?_;·rfl)|(refine j5 26 (.tmp 108) rfl w1.heap.size 7 rfl (U8 q.req ev') _ HB.o.2.1.rq underlying26 rfl HJ.o ?_ ?_;·rfl))
            refine (iK F G p.req q.req ev ev' _ ⟨HB.o.2.2.1.rn,HB.o.2.2.1.re⟩ ⟨HB.o.2.2.2.1.rn,HB.o.2.2.2.1.re⟩).mono ?_
            rintro e w3 ⟨rfl,k3⟩
            have HB3:=U0 (U2 (HB.o.1.keep k3 (by simp)) (U2 (HB.o.2.1.keep k3 (by simp)) (U2 (HB.o.2.2.1.over k3) (U2 (HB.o.2.2.2.1.over k3) (HB.o.2.2.2.2.then k3 (by simp))))))
            clear k3 x7' y7'
            rcases Bool.eq_false_or_eq_true (p.req.same q.req) with q1|q1
            ·rw[q1]
             go_wp2_with (first|(refine j5 28 (.tmp 112) rfl w.heap.size 44 rfl (x9 p.ans av) _ HB3.o.1.an underlying28 rfl HI2.o ?_ ?_;·rfl)|(refine j5 28 (.tmp 114) rfl w1.heap.size 44 rfl (x9 q.ans av') _ HB3.o.2.1.an underlying28 rfl HJ2.o ?_ ?_;·rfl))
             refine (gK F G p.ans q.ans av av' _ ⟨HB3.o.2.2.1.an,HB3.o.2.2.1.ae⟩ ⟨HB3.o.2.2.2.1.an,HB3.o.2.2.2.1.ae⟩).mono ?_
             rintro e w4 ⟨rfl,k4⟩
             have HB4:=U0 (U2 (HB3.o.1.keep k4 (by simp)) (U2 (HB3.o.2.1.keep k4 (by simp)) (U2 (HB3.o.2.2.1.over k4) (U2 (HB3.o.2.2.2.1.over k4) (HB3.o.2.2.2.2.then k4 (by simp))))))
             clear k4
             rcases Bool.eq_false_or_eq_true (p.ans.same q.ans) with q2|q2
             ·rw[q2]
              have u0:=HB4.o.1.d0
              have v0:=HB4.o.2.1.d0
              have u1:=HB4.o.1.d1
              have v1:=HB4.o.2.1.d1
              have u2:=HB4.o.1.d2
              have v2:=HB4.o.2.1.d2
              have HS3:=U0 (show sv=p.conf.same q.conf by rw[HS2.o,q1,q2];simp)
              clear q1 q2
              go_wp2_with fail
              refine (eH F G p.conf q.conf cv cv' _ HB4.o.2.2.1.cc HB4.o.2.2.2.1.cc HFT.o.1.c HFT.o.2.c).mono ?_
              rintro e w5 ⟨rfl,k5⟩
              have HB5:=U0 (HB4.o.2.2.2.2.then k5 (by simp))
              clear u0 u1 u2 v0 v1 v2 k5
              go_wp2_with fail
              go_ret
              exact⟨by rw[HS3.o];rfl,HB5.o⟩
             ·rw[q2]
              have HS3:=U0 (show sv=false by rw[HS2.o,q1,q2];simp)
              clear q1 q2
              go_wp2_with fail
              go_ret
              exact⟨by rw[HS3.o];rfl,HB4.o.2.2.2.2⟩
            ·rw[q1]
             have HS3:=U0 (show sv=false by rw[HS2.o,q1];simp)
             clear q1
             go_wp2_with fail
             go_ret
             exact⟨by rw[HS3.o];rfl,HB3.o.2.2.2.2⟩
         ·have b1:(p.bytes==q.bytes)=false:=by simp[hb]
          rw[b1] at HE0
          have HS:=U0 (show sv=false by rw[HS0.o,e0,e1,e2,e3,e4,e5,e6,b1];simp)
          clear hb hl b1 h0 h1 h2 h3 h4 h5 h6 e0 e1 e2 e3 e4 e5 e6
          clear HS0
          go_enter func13,ntmps13
          go_wp2_with (first|(with_reducible refine Z4 _ _ rfl 34 (.tmp 0) rfl _ rfl HW.o.1 ?_)|(with_reducible refine Z4 _ _ rfl 34 (.tmp 1) rfl _ rfl HW.o.2 ?_)|(go_at_call 11;refine HE0.o.mono ?_;rintro e w' ⟨rfl,rfl⟩))
          go_ret
          exact⟨by rw[HS.o];rfl,HA.o.2.2.2.2⟩
        ·have g1:((p.votes.length:Int)==(q.votes.length:Int))=false:=by simp;omega
         have g2:((p.votes.length:Int) !=(q.votes.length:Int))=true:=by simp;omega
         have HS:=U0 (show sv=false by rw[HS0.o,e0,e1,e2,e3,e4,e5,e6,LP (fun e=>hl (by rw[e]))];simp)
         clear hl h0 h1 h2 h3 h4 h5 h6 e0 e1 e2 e3 e4 e5 e6
         clear HS0
         go_enter func13,ntmps13
         go_wp2_with (first|(with_reducible refine Z4 _ _ rfl 34 (.tmp 0) rfl _ rfl HW.o.1 ?_)|(with_reducible refine Z4 _ _ rfl 34 (.tmp 1) rfl _ rfl HW.o.2 ?_))
         go_ret
         exact⟨by rw[HS.o];rfl,HA.o.2.2.2.2⟩
       ·have t6:(p.ready==q.ready)=false:=by simpa using h6
        have f6:(p.ready !=q.ready)=true:=by simpa using h6
        have HS:=U0 (show sv=false by rw[HS0.o,e0,e1,e2,e3,e4,e5,t6];simp)
        clear h6 h0 e0 h1 e1 h2 e2 h3 e3 h4 e4 h5 e5
        clear HS0
        go_enter func13,ntmps13
        go_wp2_with (first|(with_reducible refine Z4 _ _ rfl 34 (.tmp 0) rfl _ rfl HW.o.1 ?_)|(with_reducible refine Z4 _ _ rfl 34 (.tmp 1) rfl _ rfl HW.o.2 ?_))
        go_ret
        exact⟨by rw[HS.o];rfl,HA.o.2.2.2.2⟩
      ·have t5:(p.ballot==q.ballot)=false:=by simpa using h5
       have f5:(p.ballot !=q.ballot)=true:=by simpa using h5
       have HS:=U0 (show sv=false by rw[HS0.o,e0,e1,e2,e3,e4,t5];simp)
       clear h5 h0 e0 h1 e1 h2 e2 h3 e3 h4 e4
       clear HS0
       go_enter func13,ntmps13
       go_wp2_with (first|(with_reducible refine Z4 _ _ rfl 34 (.tmp 0) rfl _ rfl HW.o.1 ?_)|(with_reducible refine Z4 _ _ rfl 34 (.tmp 1) rfl _ rfl HW.o.2 ?_))
       go_ret
       exact⟨by rw[HS.o];rfl,HA.o.2.2.2.2⟩
     ·have t4:(p.seq==q.seq)=false:=by simpa using h4
      have f4:(p.seq !=q.seq)=true:=by simpa using h4
      have HS:=U0 (show sv=false by rw[HS0.o,e0,e1,e2,e3,t4];simp)
      clear h4 h0 e0 h1 e1 h2 e2 h3 e3
      clear HS0
      go_enter func13,ntmps13
      go_wp2_with (first|(with_reducible refine Z4 _ _ rfl 34 (.tmp 0) rfl _ rfl HW.o.1 ?_)|(with_reducible refine Z4 _ _ rfl 34 (.tmp 1) rfl _ rfl HW.o.2 ?_))
      go_ret
      exact⟨by rw[HS.o];rfl,HA.o.2.2.2.2⟩
    ·have t3:(p.num==q.num)=false:=by simpa using h3
     have f3:(p.num !=q.num)=true:=by simpa using h3
     have HS:=U0 (show sv=false by rw[HS0.o,e0,e1,e2,t3];simp)
     clear h3 h0 e0 h1 e1 h2 e2
     clear HS0
     go_enter func13,ntmps13
     go_wp2_with (first|(with_reducible refine Z4 _ _ rfl 34 (.tmp 0) rfl _ rfl HW.o.1 ?_)|(with_reducible refine Z4 _ _ rfl 34 (.tmp 1) rfl _ rfl HW.o.2 ?_))
     go_ret
     exact⟨by rw[HS.o];rfl,HA.o.2.2.2.2⟩
   ·have t2:(p.dst==q.dst)=false:=by simpa using h2
    have f2:(p.dst !=q.dst)=true:=by simpa using h2
    have HS:=U0 (show sv=false by rw[HS0.o,e0,e1,t2];simp)
    clear h2 h0 e0 h1 e1
    clear HS0
    go_enter func13,ntmps13
    go_wp2_with (first|(with_reducible refine Z4 _ _ rfl 34 (.tmp 0) rfl _ rfl HW.o.1 ?_)|(with_reducible refine Z4 _ _ rfl 34 (.tmp 1) rfl _ rfl HW.o.2 ?_))
    go_ret
    exact⟨by rw[HS.o];rfl,HA.o.2.2.2.2⟩
  ·have t1:(p.frm==q.frm)=false:=by simpa using h1
   have f1:(p.frm !=q.frm)=true:=by simpa using h1
   have HS:=U0 (show sv=false by rw[HS0.o,e0,t1];simp)
   clear h1 h0 e0
   clear HS0
   go_enter func13,ntmps13
   go_wp2_with (first|(with_reducible refine Z4 _ _ rfl 34 (.tmp 0) rfl _ rfl HW.o.1 ?_)|(with_reducible refine Z4 _ _ rfl 34 (.tmp 1) rfl _ rfl HW.o.2 ?_))
   go_ret
   exact⟨by rw[HS.o];rfl,HA.o.2.2.2.2⟩
 ·have t0:(p.kind==q.kind)=false:=by simpa using h0
  have f0:(p.kind !=q.kind)=true:=by simpa using h0
  have HS:=U0 (show sv=false by rw[HS0.o,t0];simp)
  clear h0
  clear HS0
  go_enter func13,ntmps13
  go_wp2_with (first|(with_reducible refine Z4 _ _ rfl 34 (.tmp 0) rfl _ rfl HW.o.1 ?_)|(with_reducible refine Z4 _ _ rfl 34 (.tmp 1) rfl _ rfl HW.o.2 ?_))
  go_ret
  exact⟨by rw[HS.o];rfl,HA.o.2.2.2.2⟩
end Go.Proofs.YthfdkonhjpdflaaGreatDoor
