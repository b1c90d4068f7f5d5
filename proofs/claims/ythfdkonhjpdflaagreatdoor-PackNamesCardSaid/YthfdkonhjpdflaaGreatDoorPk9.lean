import Derived.Test.YthfdkonhjpdflaaGreatDoorPkF
namespace Go.Proofs.YthfdkonhjpdflaaGreatDoor
open Go.RowKit Go.Proofs.Tryz
set_option linter.unusedVariables false
set_option maxRecDepth 100000
set_option maxHeartbeats 16000000
def PK.same (p q:PK):Bool:=(p.kind==q.kind) && ((p.frm==q.frm) && ((p.dst==q.dst) && ((p.num==q.num) && ((p.seq==q.seq) && ((p.ballot==q.ballot) && ((p.ready==q.ready) && (p.req.same q.req && (p.ans.same q.ans && (p.conf.same q.conf && (xH p.votes q.votes && (p.bytes==q.bytes)))))))))))
structure wD (w:World) (F:List Nat) (p:PK) (ev av cv vv bw:Value):Prop where
 rn:p.req.name.length=32
 an:p.ans.name.length=32
 re:G7 w F ev p.req.env
 ae:G7 w F av p.ans.env
 cc:F8 w F cv p.conf.chain
 vs:xA w F vv p.votes
 bs:G7 w F bw p.bytes
theorem wD.keep {S F:List Nat} {w w':World} {p:PK} {ev av cv vv bw:Value} (h:wD w F p ev av cv vv bw) (hk:U1 S w w') (hS:∀ y∈F,y∉S):wD w' F p ev av cv vv bw:=
 ⟨h.rn,h.an,h.re.keep hk hS,h.ae.keep hk hS,h.cc.keep hk hS,h.vs.keep hk hS,h.bs.keep hk hS⟩
theorem wD.over {F:List Nat} {w w':World} {p:PK} {ev av cv vv bw:Value} (h:wD w F p ev av cv vv bw) (hk:U1 [] w w'):wD w' F p ev av cv vv bw:=h.keep hk (by simp)
section
variable {p:PK} {ev av cv vv bw:Value}
theorem nQ:∀ j v,(U8 p.req ev)[j]? =some v→(q8 p ev av cv vv bw).toArray[7+j]? =some v:=fun j v hv=>by
 have:=uH (l:=[.int .i64 p.kind,.int .i64 p.frm,.int .i64 p.dst,.int .i64 p.num,.int .i64 p.seq,.int .i64 p.ballot,.bool p.ready]) (m:=U8 p.req ev) (r:=x9 p.ans av++(bA p.conf cv++[vv,bw])) rfl j v hv
 simpa[q8] using this
theorem mQ (h:p.req.name.length=32):∀ j v,(x9 p.ans av)[j]? =some v→(q8 p ev av cv vv bw).toArray[44+j]? =some v:=fun j v hv=>by
 have:=uH (l:=[.int .i64 p.kind,.int .i64 p.frm,.int .i64 p.dst,.int .i64 p.num,.int .i64 p.seq,.int .i64 p.ballot,.bool p.ready]++U8 p.req ev) (m:=x9 p.ans av) (r:=bA p.conf cv++[vv,bw]) (k:=44) (by rw[List.length_append,O8 h];rfl) j v hv
 simpa[q8] using this
theorem sU (h:p.req.name.length=32) (h':p.ans.name.length=32):∀ j v,(bA p.conf cv++[vv,bw])[j]? =some v→(q8 p ev av cv vv bw).toArray[82+j]? =some v:=fun j v hv=>by
 have:=uH (l:=[.int .i64 p.kind,.int .i64 p.frm,.int .i64 p.dst,.int .i64 p.num,.int .i64 p.seq,.int .i64 p.ballot,.bool p.ready]++U8 p.req ev++x9 p.ans av) (m:=bA p.conf cv++[vv,bw]) (r:=[]) (k:=82) (by rw[List.length_append,List.length_append,O8 h,y9 h'];rfl) j v hv
 simpa[q8] using this
end
structure RN (w:World) (g:Nat) (p:PK) (ev av cv vv bw:Value):Prop where
 c0:w.cell? ⟨g,0,none⟩=some (.int .i64 p.kind)
 c1:w.cell? ⟨g,1,none⟩=some (.int .i64 p.frm)
 c2:w.cell? ⟨g,2,none⟩=some (.int .i64 p.dst)
 c3:w.cell? ⟨g,3,none⟩=some (.int .i64 p.num)
 c4:w.cell? ⟨g,4,none⟩=some (.int .i64 p.seq)
 c5:w.cell? ⟨g,5,none⟩=some (.int .i64 p.ballot)
 c6:w.cell? ⟨g,6,none⟩=some (.bool p.ready)
 rq:w.rangeAt g 7 (U8 p.req ev)
 an:w.rangeAt g 44 (x9 p.ans av)
 d0:w.cell? ⟨g,82,none⟩=some (.int .i64 p.conf.num)
 d1:w.cell? ⟨g,83,none⟩=some (.int .i64 p.conf.full)
 d2:w.cell? ⟨g,84,none⟩=some cv
 d3:w.cell? ⟨g,85,none⟩=some vv
 d4:w.cell? ⟨g,86,none⟩=some bw
theorem l5.pk {w:World} {g:Nat} {t:TypeId} {p:PK} {ev av cv vv bw:Value} (h:l5 w g t (q8 p ev av cv vv bw).toArray) (h1:p.req.name.length=32) (h2:p.ans.name.length=32):RN w g p ev av cv vv bw:=by
 have ht:=fun j v hv=>(h.cell (82+j)).trans (sU (ev:=ev) (av:=av) (cv:=cv) (vv:=vv) (bw:=bw) h1 h2 j v hv)
 exact⟨h.cell 0,h.cell 1,h.cell 2,h.cell 3,h.cell 4,h.cell 5,h.cell 6,h.range nQ,h.range (mQ h1),ht 0 _ rfl,ht 1 _ rfl,ht 2 _ rfl,ht 3 _ rfl,ht 4 _ rfl⟩
theorem RN.keep {S:List Nat} {w w':World} {g:Nat} {p:PK} {ev av cv vv bw:Value} (h:RN w g p ev av cv vv bw) (hk:U1 S w w') (hS:g∉S):RN w' g p ev av cv vv bw:=by
 have hg:=World.block_lt_of_cell? w _ h.c0
 have e:=fun o=>hk.cell (p:=⟨g,o,none⟩) hg hS
 exact⟨(e _).trans h.c0,(e _).trans h.c1,(e _).trans h.c2,(e _).trans h.c3,(e _).trans h.c4,(e _).trans h.c5,(e _).trans h.c6,_root_.Go.Proofs.YthfdkonhjpdflaaGreatDoor.rangeAt.keep h.rq hk hS,_root_.Go.Proofs.YthfdkonhjpdflaaGreatDoor.rangeAt.keep h.an hk hS,(e _).trans h.d0,(e _).trans h.d1,(e _).trans h.d2,(e _).trans h.d3,(e _).trans h.d4⟩
theorem Z4 {P:Program} (w w':World) {ops:Array Oper} {rest:List Oper} {o:Oper} {a:Act} {Q:Exit→Act→World→Prop} (hgd:o.guard=none) (t:TypeId) (x:Operand) (ho:o.op= .box t x)
 (bs:Array Value) (hx:a.eval x= .agg bs) (hw:w.alloc (.cells bs t)=w') (h:wpList P ops Q rest (a.put o.dst (.pointer (some ⟨w.heap.size,0,none⟩))) w'):wpList P ops Q (o::rest) a w:=by
 subst hw
 exact Z5 w hgd t x ho bs hx h
theorem pF (F G:List Nat) (p q:PK) (ev av cv vv bw ev' av' cv' vv' bw':Value) (w:World) (hp:wD w F p ev av cv vv bw) (hq:wD w G q ev' av' cv' vv' bw'):
 Calls prog 12 #[.agg (q8 p ev av cv vv bw).toArray,.agg (q8 q ev' av' cv' vv' bw').toArray] w fun e w'=>e= .returned (.bool (p.same q))∧U1 [] w w':=by
 have k1:=(U1.refl [] w).alloc (.cells (q8 p ev av cv vv bw).toArray 34)
 have r1:=l5.new w 34 (q8 p ev av cv vv bw).toArray
 obtain⟨w1,hw1⟩:∃ w1,w.alloc (.cells (q8 p ev av cv vv bw).toArray 34)=w1:=⟨_,rfl⟩
 rw[hw1] at k1 r1
 have k2:=(U1.refl [] w1).alloc (.cells (q8 q ev' av' cv' vv' bw').toArray 34)
 have r2:=l5.new w1 34 (q8 q ev' av' cv' vv' bw').toArray
 have r12:=k2.row r1 (by simp)
 obtain⟨w2,hw2⟩:∃ w2,w1.alloc (.cells (q8 q ev' av' cv' vv' bw').toArray 34)=w2:=⟨_,rfl⟩
 rw[hw2] at k2 r2 r12
 have kk:=k1.then k2 (by simp)
 have a1:=r12.pk hp.rn hp.an
 have a2:=r2.pk hq.rn hq.an
 have HW:=U0 (U2 hw1 hw2)
 have HA:=U0 (U2 a1 (U2 a2 (U2 (hp.over kk) (U2 (hq.over kk) kk))))
 have x0:=a1.c0
 have y0:=a2.c0
 have x1:=a1.c1
 have y1:=a2.c1
 have x2:=a1.c2
 have y2:=a2.c2
 have x3:=a1.c3
 have y3:=a2.c3
 have x4:=a1.c4
 have y4:=a2.c4
 have x5:=a1.c5
 have y5:=a2.c5
 have x6:=a1.c6
 have y6:=a2.c6
 clear a1 a2 k1 k2 r1 r2 r12 hw1 hw2 hp hq kk
 have HS0:=U0 (show p.same q=((p.kind==q.kind) && ((p.frm==q.frm) && ((p.dst==q.dst) && ((p.num==q.num) && ((p.seq==q.seq) && ((p.ballot==q.ballot) && ((p.ready==q.ready) && (p.req.same q.req && (p.ans.same q.ans && (p.conf.same q.conf && (xH p.votes q.votes && (p.bytes==q.bytes)))))))))))) from rfl)
 generalize p.same q=sv at*
 by_cases h0:p.kind=q.kind
 ·have e0:(p.kind==q.kind)=true:=by simp[h0]
  rw[h0] at x0
  by_cases h1:p.frm=q.frm
  ·have e1:(p.frm==q.frm)=true:=by simp[h1]
   rw[h1] at x1
   by_cases h2:p.dst=q.dst
   ·have e2:(p.dst==q.dst)=true:=by simp[h2]
    rw[h2] at x2
    by_cases h3:p.num=q.num
    ·have e3:(p.num==q.num)=true:=by simp[h3]
     rw[h3] at x3
     by_cases h4:p.seq=q.seq
     ·have e4:(p.seq==q.seq)=true:=by simp[h4]
      rw[h4] at x4
      by_cases h5:p.ballot=q.ballot
      ·have e5:(p.ballot==q.ballot)=true:=by simp[h5]
       rw[h5] at x5
       by_cases h6:p.ready=q.ready
       ·have e6:(p.ready==q.ready)=true:=by simp[h6]
        rw[h6] at x6
        have HS1:=U0 (show sv=(p.req.same q.req && (p.ans.same q.ans && (p.conf.same q.conf && (xH p.votes q.votes && (p.bytes==q.bytes))))) by rw[HS0.o,e0,e1,e2,e3,e4,e5,e6];simp)
        clear HS0 e0 h0 e1 h1 e2 h2 e3 h3 e4 h4 e5 h5 e6 h6
        have HI:=U0 (show (prog.info? 26).map (·.size)=some (U8 p.req ev).length by rw[O8 HA.o.2.2.1.rn];exact D9)
        have HJ:=U0 (show (prog.info? 26).map (·.size)=some (U8 q.req ev').length by rw[O8 HA.o.2.2.2.1.rn];exact D9)
        have HI2:=U0 (show (prog.info? 28).map (·.size)=some (x9 p.ans av).length by rw[y9 HA.o.2.2.1.an];exact Q9)
        have HJ2:=U0 (show (prog.info? 28).map (·.size)=some (x9 q.ans av').length by rw[y9 HA.o.2.2.2.1.an];exact Q9)
        go_enter func12,ntmps12
        go_wp2_with (first|(with_reducible refine Z4 _ _ rfl 34 (.tmp 0) rfl _ rfl HW.o.1 ?_)|(with_reducible refine Z4 _ _ rfl 34 (.tmp 1) rfl _ rfl HW.o.2 ?_)|(refine j5 26 (.tmp 53) rfl w.heap.size 7 rfl (U8 p.req ev) _ HA.o.1.rq underlying26 rfl HI.o ?_ ?_;·rfl)|(refine j5 26 (.tmp 55) rfl w1.heap.size 7 rfl (U8 q.req ev') _ HA.o.2.1.rq underlying26 rfl HJ.o ?_ ?_;·rfl))
        refine (mO F G p.req q.req ev ev' _ ⟨HA.o.2.2.1.rn,HA.o.2.2.1.re⟩ ⟨HA.o.2.2.2.1.rn,HA.o.2.2.2.1.re⟩).mono ?_
        rintro e w3 ⟨rfl,k3⟩
        rcases Bool.eq_false_or_eq_true (p.req.same q.req) with q1|q1
        ·have HB:=U0 (U2 (HA.o.1.keep k3 (by simp)) (U2 (HA.o.2.1.keep k3 (by simp)) (U2 (HA.o.2.2.1.over k3) (U2 (HA.o.2.2.2.1.over k3) (HA.o.2.2.2.2.then k3 (by simp))))))
         rw[q1]
         clear k3
         go_wp2_with (first|(refine j5 28 (.tmp 60) rfl w.heap.size 44 rfl (x9 p.ans av) _ HB.o.1.an underlying28 rfl HI2.o ?_ ?_;·rfl)|(refine j5 28 (.tmp 62) rfl w1.heap.size 44 rfl (x9 q.ans av') _ HB.o.2.1.an underlying28 rfl HJ2.o ?_ ?_;·rfl))
         refine (jO F G p.ans q.ans av av' _ ⟨HB.o.2.2.1.an,HB.o.2.2.1.ae⟩ ⟨HB.o.2.2.2.1.an,HB.o.2.2.2.1.ae⟩).mono ?_
         rintro e w4 ⟨rfl,k4⟩
         rcases Bool.eq_false_or_eq_true (p.ans.same q.ans) with q2|q2
         ·have HC:=U0 (U2 (HB.o.1.keep k4 (by simp)) (U2 (HB.o.2.1.keep k4 (by simp)) (U2 (HB.o.2.2.1.over k4) (U2 (HB.o.2.2.2.1.over k4) (HB.o.2.2.2.2.then k4 (by simp))))))
          rw[q2]
          clear k4
          have u0:=HC.o.1.d0
          have v0:=HC.o.2.1.d0
          have u1:=HC.o.1.d1
          have v1:=HC.o.2.1.d1
          have u2:=HC.o.1.d2
          have v2:=HC.o.2.1.d2
          go_wp2_with fail
          refine (fI F G p.conf q.conf cv cv' _ HC.o.2.2.1.cc HC.o.2.2.2.1.cc).mono ?_
          rintro e w5 ⟨rfl,k5⟩
          clear u0 u1 u2 v0 v1 v2
          rcases Bool.eq_false_or_eq_true (p.conf.same q.conf) with q3|q3
          ·have HD:=U0 (U2 (HC.o.1.keep k5 (by simp)) (U2 (HC.o.2.1.keep k5 (by simp)) (U2 (HC.o.2.2.1.over k5) (U2 (HC.o.2.2.2.1.over k5) (HC.o.2.2.2.2.then k5 (by simp))))))
           rw[q3]
           clear k5
           have u0:=HD.o.1.d3
           have v0:=HD.o.2.1.d3
           go_wp2_with fail
           refine (gN F G p.votes q.votes vv vv' _ HD.o.2.2.1.vs HD.o.2.2.2.1.vs).mono ?_
           rintro e w6 ⟨rfl,k6⟩
           clear u0 v0
           rcases Bool.eq_false_or_eq_true (xH p.votes q.votes) with q4|q4
           ·have HE:=U0 (U2 (HD.o.1.keep k6 (by simp)) (U2 (HD.o.2.1.keep k6 (by simp)) (U2 (HD.o.2.2.1.over k6) (U2 (HD.o.2.2.2.1.over k6) (HD.o.2.2.2.2.then k6 (by simp))))))
            rw[q4]
            clear k6
            have u0:=HE.o.1.d4
            have v0:=HE.o.2.1.d4
            obtain⟨BA,bc,bg,rfl,_,_,sb,_⟩:=id HE.o.2.2.1.bs
            obtain⟨BB,bd,bh,rfl,_,_,sc,_⟩:=id HE.o.2.2.2.1.bs
            have HF:=U0 (U2 sb sc)
            clear sb sc
            have HS:=U0 (show sv=(p.bytes==q.bytes) by rw[HS1.o,q1,q2,q3,q4];simp)
            go_wp2_with fail
            refine (BG BA BB bg bh bc bd p.bytes q.bytes _ HF.o.1 HF.o.2).mono ?_
            rintro e w' ⟨rfl,rfl⟩
            clear u0 v0
            go_wp2_with fail
            go_ret
            exact⟨by rw[HS.o];rfl,HE.o.2.2.2.2⟩
           ·have HS:=U0 (show sv=false by rw[HS1.o,q1,q2,q3,q4];simp)
            have HK:=U0 (HD.o.2.2.2.2.then k6 (by simp))
            rw[q4]
            clear q4
            go_wp2_with fail
            go_ret
            exact⟨by rw[HS.o];rfl,HK.o⟩
          ·have HS:=U0 (show sv=false by rw[HS1.o,q1,q2,q3];simp)
           have HK:=U0 (HC.o.2.2.2.2.then k5 (by simp))
           rw[q3]
           clear q3
           go_wp2_with fail
           go_ret
           exact⟨by rw[HS.o];rfl,HK.o⟩
         ·have HS:=U0 (show sv=false by rw[HS1.o,q1,q2];simp)
          have HK:=U0 (HB.o.2.2.2.2.then k4 (by simp))
          rw[q2]
          clear q2
          go_wp2_with fail
          go_ret
          exact⟨by rw[HS.o];rfl,HK.o⟩
        ·have HS:=U0 (show sv=false by rw[HS1.o,q1];rfl)
         have HK:=U0 (HA.o.2.2.2.2.then k3 (by simp))
         rw[q1]
         clear q1
         go_wp2_with fail
         go_ret
         exact⟨by rw[HS.o];rfl,HK.o⟩
       ·have t6:(p.ready==q.ready)=false:=by simpa using h6
        have HS:=U0 (show sv=false by rw[HS0.o,e0,e1,e2,e3,e4,e5,t6];simp)
        clear HS0 h6 e0 h0 e1 h1 e2 h2 e3 h3 e4 h4 e5 h5
        go_enter func12,ntmps12
        go_wp2_with (first|(with_reducible refine Z4 _ _ rfl 34 (.tmp 0) rfl _ rfl HW.o.1 ?_)|(with_reducible refine Z4 _ _ rfl 34 (.tmp 1) rfl _ rfl HW.o.2 ?_))
        go_ret
        exact⟨by rw[HS.o];rfl,HA.o.2.2.2.2⟩
      ·have t5:(p.ballot==q.ballot)=false:=by simpa using h5
       have HS:=U0 (show sv=false by rw[HS0.o,e0,e1,e2,e3,e4,t5];simp)
       clear HS0 h5 e0 h0 e1 h1 e2 h2 e3 h3 e4 h4
       go_enter func12,ntmps12
       go_wp2_with (first|(with_reducible refine Z4 _ _ rfl 34 (.tmp 0) rfl _ rfl HW.o.1 ?_)|(with_reducible refine Z4 _ _ rfl 34 (.tmp 1) rfl _ rfl HW.o.2 ?_))
       go_ret
       exact⟨by rw[HS.o];rfl,HA.o.2.2.2.2⟩
     ·have t4:(p.seq==q.seq)=false:=by simpa using h4
      have HS:=U0 (show sv=false by rw[HS0.o,e0,e1,e2,e3,t4];simp)
      clear HS0 h4 e0 h0 e1 h1 e2 h2 e3 h3
      go_enter func12,ntmps12
      go_wp2_with (first|(with_reducible refine Z4 _ _ rfl 34 (.tmp 0) rfl _ rfl HW.o.1 ?_)|(with_reducible refine Z4 _ _ rfl 34 (.tmp 1) rfl _ rfl HW.o.2 ?_))
      go_ret
      exact⟨by rw[HS.o];rfl,HA.o.2.2.2.2⟩
    ·have t3:(p.num==q.num)=false:=by simpa using h3
     have HS:=U0 (show sv=false by rw[HS0.o,e0,e1,e2,t3];simp)
     clear HS0 h3 e0 h0 e1 h1 e2 h2
     go_enter func12,ntmps12
     go_wp2_with (first|(with_reducible refine Z4 _ _ rfl 34 (.tmp 0) rfl _ rfl HW.o.1 ?_)|(with_reducible refine Z4 _ _ rfl 34 (.tmp 1) rfl _ rfl HW.o.2 ?_))
     go_ret
     exact⟨by rw[HS.o];rfl,HA.o.2.2.2.2⟩
   ·have t2:(p.dst==q.dst)=false:=by simpa using h2
    have HS:=U0 (show sv=false by rw[HS0.o,e0,e1,t2];simp)
    clear HS0 h2 e0 h0 e1 h1
    go_enter func12,ntmps12
    go_wp2_with (first|(with_reducible refine Z4 _ _ rfl 34 (.tmp 0) rfl _ rfl HW.o.1 ?_)|(with_reducible refine Z4 _ _ rfl 34 (.tmp 1) rfl _ rfl HW.o.2 ?_))
    go_ret
    exact⟨by rw[HS.o];rfl,HA.o.2.2.2.2⟩
  ·have t1:(p.frm==q.frm)=false:=by simpa using h1
   have HS:=U0 (show sv=false by rw[HS0.o,e0,t1];simp)
   clear HS0 h1 e0 h0
   go_enter func12,ntmps12
   go_wp2_with (first|(with_reducible refine Z4 _ _ rfl 34 (.tmp 0) rfl _ rfl HW.o.1 ?_)|(with_reducible refine Z4 _ _ rfl 34 (.tmp 1) rfl _ rfl HW.o.2 ?_))
   go_ret
   exact⟨by rw[HS.o];rfl,HA.o.2.2.2.2⟩
 ·have t0:(p.kind==q.kind)=false:=by simpa using h0
  have HS:=U0 (show sv=false by rw[HS0.o,t0];simp)
  clear HS0 h0
  go_enter func12,ntmps12
  go_wp2_with (first|(with_reducible refine Z4 _ _ rfl 34 (.tmp 0) rfl _ rfl HW.o.1 ?_)|(with_reducible refine Z4 _ _ rfl 34 (.tmp 1) rfl _ rfl HW.o.2 ?_))
  go_ret
  exact⟨by rw[HS.o];rfl,HA.o.2.2.2.2⟩
end Go.Proofs.YthfdkonhjpdflaaGreatDoor
