import Derived.Test.YthfdkonhjpdflaaGreatDoorPkA
namespace Go.Proofs.YthfdkonhjpdflaaGreatDoor
open Go.RowKit Go.Proofs.Tryz
set_option linter.unusedVariables false
set_option maxRecDepth 100000
set_option maxHeartbeats 4000000
def RQ.same (r s:RQ):Bool:=(r.client==s.client) && ((r.num==s.num) && ((r.kind==s.kind) && ((r.version==s.version) && ((decide (r.name=s.name)) && (r.env==s.env)))))
def AN.same (r s:AN):Bool:=(r.client==s.client) && ((r.num==s.num) && ((r.code==s.code) && ((r.version==s.version) && ((r.epoch==s.epoch) && ((decide (r.name=s.name)) && (r.env==s.env))))))
def dH (w:World) (F:List Nat) (r:RQ) (ev:Value):Prop:=r.name.length=32∧G7 w F ev r.env
def BH (w:World) (F:List Nat) (a:AN) (ev:Value):Prop:=a.name.length=32∧G7 w F ev a.env
theorem l5.two (w:World) (t:TypeId) (cs ds:Array Value):l5 ((w.alloc (.cells cs t)).alloc (.cells ds t)) w.heap.size t cs∧l5 ((w.alloc (.cells cs t)).alloc (.cells ds t)) (w.heap.size+1) t ds∧U1 [] w ((w.alloc (.cells cs t)).alloc (.cells ds t)):=by
 have k1:=(U1.refl [] w).alloc (.cells cs t)
 have k2:=(U1.refl [] (w.alloc (.cells cs t))).alloc (.cells ds t)
 have r2:=l5.new (w.alloc (.cells cs t)) t ds
 rw[World.size_alloc] at r2
 exact⟨k2.row (l5.new w t cs) (by simp),r2,k1.then k2 (by simp)⟩
theorem mO (F G:List Nat) (r s:RQ) (ev ew:Value) (w:World) (hr:dH w F r ev) (hs:dH w G s ew):
 Calls prog 73 #[.agg (U8 r ev).toArray,.agg (U8 s ew).toArray] w fun e w'=>e= .returned (.bool (r.same s))∧U1 [] w w':=by
 obtain⟨r1,r2,kk⟩:=l5.two w 26 (U8 r ev).toArray (U8 s ew).toArray
 obtain⟨hn,A,c,g,rfl,_,_,sA,_⟩:=hr
 obtain⟨hm,B,d,h,rfl,_,_,sB,_⟩:=hs
 have H12:=U0 kk
 have sA2:=sA.keep kk (by simp)
 have sB2:=sB.keep kk (by simp)
 have xe:=(r1.cell 36).trans (WC hn)
 have ye:=(r2.cell 36).trans (WC hm)
 have xr:=r1.range (IE r (.slice A r.env.length c))
 have yr:=r2.range (IE s (.slice B s.env.length d))
 have x0:=r1.cell 0
 have y0:=r2.cell 0
 have x1:=r1.cell 1
 have y1:=r2.cell 1
 have x2:=r1.cell 2
 have y2:=r2.cell 2
 have x3:=r1.cell 3
 have y3:=r2.cell 3
 rw[show (U8 r (.slice A r.env.length c)).toArray[0]? =some (.int .i64 r.client) from rfl] at x0
 rw[show (U8 s (.slice B s.env.length d)).toArray[0]? =some (.int .i64 s.client) from rfl] at y0
 rw[show (U8 r (.slice A r.env.length c)).toArray[1]? =some (.int .i64 r.num) from rfl] at x1
 rw[show (U8 s (.slice B s.env.length d)).toArray[1]? =some (.int .i64 s.num) from rfl] at y1
 rw[show (U8 r (.slice A r.env.length c)).toArray[2]? =some (.int .i64 r.kind) from rfl] at x2
 rw[show (U8 s (.slice B s.env.length d)).toArray[2]? =some (.int .i64 s.kind) from rfl] at y2
 rw[show (U8 r (.slice A r.env.length c)).toArray[3]? =some (.int .i64 r.version) from rfl] at x3
 rw[show (U8 s (.slice B s.env.length d)).toArray[3]? =some (.int .i64 s.version) from rfl] at y3
 obtain⟨a0,a1,a2,a3,nr,er⟩:=r
 obtain⟨b0,b1,b2,b3,ns,es⟩:=s
 dsimp only at hn hm xr yr sA2 sB2 x0 y0 x1 y1 x2 y2 x3 y3 xe ye
 obtain⟨w2,hw2⟩:∃ w2,(w.alloc (.cells (U8 ⟨a0,a1,a2,a3,nr,er⟩ (.slice A er.length c)).toArray 26)).alloc (.cells (U8 ⟨b0,b1,b2,b3,ns,es⟩ (.slice B es.length d)).toArray 26)=w2:=⟨_,rfl⟩
 have HW:=U0 hw2
 have HN:=U0 (U2 hn hm)
 have HK:=H12.o
 dsimp only at HK
 rw[hw2] at HK sA2 sB2 xe ye xr yr x0 y0 x1 y1 x2 y2 x3 y3
 have HKK:=U0 HK
 have HX:=U0 (U2 xr yr)
 have HE:=U0 (BG A B g h c d er es w2 sA2 sB2)
 have HQ:=U0 (ZF nr ns hn hm w2)
 have HI:=U0 (show (prog.info? 23).map (·.size)=some (U7 nr).length by rw[A8,hn];exact xB)
 have HJ:=U0 (show (prog.info? 23).map (·.size)=some (U7 ns).length by rw[A8,hm];exact xB)
 clear H12 HK sA2 sB2 sA sB hn hm xr yr hw2 kk r1 r2
 by_cases h0:a0=b0
 ·subst h0
  by_cases h1:a1=b1
  ·subst h1
   by_cases h2:a2=b2
   ·subst h2
    by_cases h3:a3=b3
    ·subst h3
     by_cases hnm:nr=ns
     ·subst hnm
      have HS:=U0 (show RQ.same ⟨a0,a1,a2,a3,nr,er⟩ ⟨a0,a1,a2,a3,nr,es⟩=(er==es) by unfold RQ.same;simp)
      have hdn:decide (nr=nr)=true:=by simp
      rw[hdn] at HQ
      go_enter func73,ntmps73
      go_upto_region 1 with (first|(with_reducible refine Z5 _ rfl 26 (.tmp 0) rfl _ rfl ?_)|(with_reducible refine Z5 _ rfl 26 (.tmp 1) rfl _ rfl ?_))
      rw[HW.o]
      go_wp2_with (first|(refine j5 23 (.tmp 32) rfl w.heap.size 4 rfl (U7 nr) _ HX.o.1 underlying23 rfl HI.o ?_ ?_;·rfl)|(refine j5 23 (.tmp 34) rfl (w.heap.size+1) 4 rfl (U7 nr) _ HX.o.2 underlying23 rfl HJ.o ?_ ?_;·rfl)|(refine jA _ .eql 23 23 (.tmp 33) (.tmp 35) rfl YB (U7 nr).toArray (U7 nr).toArray rfl rfl _ HQ.o ?_ ?_;·rfl)|(go_at_call 78;refine HE.o.mono ?_;rintro e w' ⟨rfl,rfl⟩))
      go_ret
      exact⟨by rw[HS.o];rfl,HKK.o⟩
     ·have HS:=U0 (show RQ.same ⟨a0,a1,a2,a3,nr,er⟩ ⟨a0,a1,a2,a3,ns,es⟩=false by unfold RQ.same;simp[hnm])
      have hdn:decide (nr=ns)=false:=by simp[hnm]
      rw[hdn] at HQ
      clear hnm
      go_enter func73,ntmps73
      go_upto_region 1 with (first|(with_reducible refine Z5 _ rfl 26 (.tmp 0) rfl _ rfl ?_)|(with_reducible refine Z5 _ rfl 26 (.tmp 1) rfl _ rfl ?_))
      rw[HW.o]
      go_wp2_with (first|(refine j5 23 (.tmp 32) rfl w.heap.size 4 rfl (U7 nr) _ HX.o.1 underlying23 rfl HI.o ?_ ?_;·rfl)|(refine j5 23 (.tmp 34) rfl (w.heap.size+1) 4 rfl (U7 ns) _ HX.o.2 underlying23 rfl HJ.o ?_ ?_;·rfl)|(refine jA _ .eql 23 23 (.tmp 33) (.tmp 35) rfl YB (U7 nr).toArray (U7 ns).toArray rfl rfl _ HQ.o ?_ ?_;·rfl))
      go_ret
      exact⟨by rw[HS.o];rfl,HKK.o⟩
    ·have HS:=U0 (show RQ.same ⟨a0,a1,a2,a3,nr,er⟩ ⟨a0,a1,a2,b3,ns,es⟩=false by unfold RQ.same;simp[h3])
     have t3:(a3==b3)=false:=by simpa using h3
     clear h3
     go_enter func73,ntmps73
     go_upto_region 1 with (first|(with_reducible refine Z5 _ rfl 26 (.tmp 0) rfl _ rfl ?_)|(with_reducible refine Z5 _ rfl 26 (.tmp 1) rfl _ rfl ?_))
     rw[HW.o]
     go_wp2_with fail
     go_ret
     exact⟨by rw[HS.o];rfl,HKK.o⟩
   ·have HS:=U0 (show RQ.same ⟨a0,a1,a2,a3,nr,er⟩ ⟨a0,a1,b2,b3,ns,es⟩=false by unfold RQ.same;simp[h2])
    have t2:(a2==b2)=false:=by simpa using h2
    clear h2
    go_enter func73,ntmps73
    go_upto_region 1 with (first|(with_reducible refine Z5 _ rfl 26 (.tmp 0) rfl _ rfl ?_)|(with_reducible refine Z5 _ rfl 26 (.tmp 1) rfl _ rfl ?_))
    rw[HW.o]
    go_wp2_with fail
    go_ret
    exact⟨by rw[HS.o];rfl,HKK.o⟩
  ·have HS:=U0 (show RQ.same ⟨a0,a1,a2,a3,nr,er⟩ ⟨a0,b1,b2,b3,ns,es⟩=false by unfold RQ.same;simp[h1])
   have t1:(a1==b1)=false:=by simpa using h1
   clear h1
   go_enter func73,ntmps73
   go_upto_region 1 with (first|(with_reducible refine Z5 _ rfl 26 (.tmp 0) rfl _ rfl ?_)|(with_reducible refine Z5 _ rfl 26 (.tmp 1) rfl _ rfl ?_))
   rw[HW.o]
   go_wp2_with fail
   go_ret
   exact⟨by rw[HS.o];rfl,HKK.o⟩
 ·have HS:=U0 (show RQ.same ⟨a0,a1,a2,a3,nr,er⟩ ⟨b0,b1,b2,b3,ns,es⟩=false by unfold RQ.same;simp[h0])
  have t0:(a0==b0)=false:=by simpa using h0
  clear h0
  go_enter func73,ntmps73
  go_upto_region 1 with (first|(with_reducible refine Z5 _ rfl 26 (.tmp 0) rfl _ rfl ?_)|(with_reducible refine Z5 _ rfl 26 (.tmp 1) rfl _ rfl ?_))
  rw[HW.o]
  go_wp2_with fail
  go_ret
  exact⟨by rw[HS.o];rfl,HKK.o⟩
theorem jO (F G:List Nat) (r s:AN) (ev ew:Value) (w:World) (hr:BH w F r ev) (hs:BH w G s ew):
 Calls prog 74 #[.agg (x9 r ev).toArray,.agg (x9 s ew).toArray] w fun e w'=>e= .returned (.bool (r.same s))∧U1 [] w w':=by
 obtain⟨r1,r2,kk⟩:=l5.two w 28 (x9 r ev).toArray (x9 s ew).toArray
 obtain⟨hn,A,c,g,rfl,_,_,sA,_⟩:=hr
 obtain⟨hm,B,d,h,rfl,_,_,sB,_⟩:=hs
 have H12:=U0 kk
 have sA2:=sA.keep kk (by simp)
 have sB2:=sB.keep kk (by simp)
 have xe:=(r1.cell 37).trans (VC hn)
 have ye:=(r2.cell 37).trans (VC hm)
 have xr:=r1.range (UF r (.slice A r.env.length c))
 have yr:=r2.range (UF s (.slice B s.env.length d))
 have x0:=r1.cell 0
 have y0:=r2.cell 0
 have x1:=r1.cell 1
 have y1:=r2.cell 1
 have x2:=r1.cell 2
 have y2:=r2.cell 2
 have x3:=r1.cell 3
 have y3:=r2.cell 3
 have x4:=r1.cell 4
 have y4:=r2.cell 4
 rw[show (x9 r (.slice A r.env.length c)).toArray[0]? =some (.int .i64 r.client) from rfl] at x0
 rw[show (x9 s (.slice B s.env.length d)).toArray[0]? =some (.int .i64 s.client) from rfl] at y0
 rw[show (x9 r (.slice A r.env.length c)).toArray[1]? =some (.int .i64 r.num) from rfl] at x1
 rw[show (x9 s (.slice B s.env.length d)).toArray[1]? =some (.int .i64 s.num) from rfl] at y1
 rw[show (x9 r (.slice A r.env.length c)).toArray[2]? =some (.int .i64 r.code) from rfl] at x2
 rw[show (x9 s (.slice B s.env.length d)).toArray[2]? =some (.int .i64 s.code) from rfl] at y2
 rw[show (x9 r (.slice A r.env.length c)).toArray[3]? =some (.int .i64 r.version) from rfl] at x3
 rw[show (x9 s (.slice B s.env.length d)).toArray[3]? =some (.int .i64 s.version) from rfl] at y3
 rw[show (x9 r (.slice A r.env.length c)).toArray[4]? =some (.int .i64 r.epoch) from rfl] at x4
 rw[show (x9 s (.slice B s.env.length d)).toArray[4]? =some (.int .i64 s.epoch) from rfl] at y4
 obtain⟨a0,a1,a2,a3,a4,nr,er⟩:=r
 obtain⟨b0,b1,b2,b3,b4,ns,es⟩:=s
 dsimp only at hn hm xr yr sA2 sB2 x0 y0 x1 y1 x2 y2 x3 y3 x4 y4 xe ye
 obtain⟨w2,hw2⟩:∃ w2,(w.alloc (.cells (x9 ⟨a0,a1,a2,a3,a4,nr,er⟩ (.slice A er.length c)).toArray 28)).alloc (.cells (x9 ⟨b0,b1,b2,b3,b4,ns,es⟩ (.slice B es.length d)).toArray 28)=w2:=⟨_,rfl⟩
 have HW:=U0 hw2
 have HN:=U0 (U2 hn hm)
 have HK:=H12.o
 dsimp only at HK
 rw[hw2] at HK sA2 sB2 xe ye xr yr x0 y0 x1 y1 x2 y2 x3 y3 x4 y4
 have HKK:=U0 HK
 have HX:=U0 (U2 xr yr)
 have HE:=U0 (BG A B g h c d er es w2 sA2 sB2)
 have HQ:=U0 (ZF nr ns hn hm w2)
 have HI:=U0 (show (prog.info? 23).map (·.size)=some (U7 nr).length by rw[A8,hn];exact xB)
 have HJ:=U0 (show (prog.info? 23).map (·.size)=some (U7 ns).length by rw[A8,hm];exact xB)
 clear H12 HK sA2 sB2 sA sB hn hm xr yr hw2 kk r1 r2
 by_cases h0:a0=b0
 ·subst h0
  by_cases h1:a1=b1
  ·subst h1
   by_cases h2:a2=b2
   ·subst h2
    by_cases h3:a3=b3
    ·subst h3
     by_cases h4:a4=b4
     ·subst h4
      by_cases hnm:nr=ns
      ·subst hnm
       have HS:=U0 (show AN.same ⟨a0,a1,a2,a3,a4,nr,er⟩ ⟨a0,a1,a2,a3,a4,nr,es⟩=(er==es) by unfold AN.same;simp)
       have hdn:decide (nr=nr)=true:=by simp
       rw[hdn] at HQ
       go_enter func74,ntmps74
       go_upto_region 1 with (first|(with_reducible refine Z5 _ rfl 28 (.tmp 0) rfl _ rfl ?_)|(with_reducible refine Z5 _ rfl 28 (.tmp 1) rfl _ rfl ?_))
       rw[HW.o]
       go_wp2_with (first|(refine j5 23 (.tmp 39) rfl w.heap.size 5 rfl (U7 nr) _ HX.o.1 underlying23 rfl HI.o ?_ ?_;·rfl)|(refine j5 23 (.tmp 41) rfl (w.heap.size+1) 5 rfl (U7 nr) _ HX.o.2 underlying23 rfl HJ.o ?_ ?_;·rfl)|(refine jA _ .eql 23 23 (.tmp 40) (.tmp 42) rfl YB (U7 nr).toArray (U7 nr).toArray rfl rfl _ HQ.o ?_ ?_;·rfl)|(go_at_call 78;refine HE.o.mono ?_;rintro e w' ⟨rfl,rfl⟩))
       go_ret
       exact⟨by rw[HS.o];rfl,HKK.o⟩
      ·have HS:=U0 (show AN.same ⟨a0,a1,a2,a3,a4,nr,er⟩ ⟨a0,a1,a2,a3,a4,ns,es⟩=false by unfold AN.same;simp[hnm])
       have hdn:decide (nr=ns)=false:=by simp[hnm]
       rw[hdn] at HQ
       clear hnm
       go_enter func74,ntmps74
       go_upto_region 1 with (first|(with_reducible refine Z5 _ rfl 28 (.tmp 0) rfl _ rfl ?_)|(with_reducible refine Z5 _ rfl 28 (.tmp 1) rfl _ rfl ?_))
       rw[HW.o]
       go_wp2_with (first|(refine j5 23 (.tmp 39) rfl w.heap.size 5 rfl (U7 nr) _ HX.o.1 underlying23 rfl HI.o ?_ ?_;·rfl)|(refine j5 23 (.tmp 41) rfl (w.heap.size+1) 5 rfl (U7 ns) _ HX.o.2 underlying23 rfl HJ.o ?_ ?_;·rfl)|(refine jA _ .eql 23 23 (.tmp 40) (.tmp 42) rfl YB (U7 nr).toArray (U7 ns).toArray rfl rfl _ HQ.o ?_ ?_;·rfl))
       go_ret
       exact⟨by rw[HS.o];rfl,HKK.o⟩
     ·have HS:=U0 (show AN.same ⟨a0,a1,a2,a3,a4,nr,er⟩ ⟨a0,a1,a2,a3,b4,ns,es⟩=false by unfold AN.same;simp[h4])
      have t4:(a4==b4)=false:=by simpa using h4
      clear h4
      go_enter func74,ntmps74
      go_upto_region 1 with (first|(with_reducible refine Z5 _ rfl 28 (.tmp 0) rfl _ rfl ?_)|(with_reducible refine Z5 _ rfl 28 (.tmp 1) rfl _ rfl ?_))
      rw[HW.o]
      go_wp2_with fail
      go_ret
      exact⟨by rw[HS.o];rfl,HKK.o⟩
    ·have HS:=U0 (show AN.same ⟨a0,a1,a2,a3,a4,nr,er⟩ ⟨a0,a1,a2,b3,b4,ns,es⟩=false by unfold AN.same;simp[h3])
     have t3:(a3==b3)=false:=by simpa using h3
     clear h3
     go_enter func74,ntmps74
     go_upto_region 1 with (first|(with_reducible refine Z5 _ rfl 28 (.tmp 0) rfl _ rfl ?_)|(with_reducible refine Z5 _ rfl 28 (.tmp 1) rfl _ rfl ?_))
     rw[HW.o]
     go_wp2_with fail
     go_ret
     exact⟨by rw[HS.o];rfl,HKK.o⟩
   ·have HS:=U0 (show AN.same ⟨a0,a1,a2,a3,a4,nr,er⟩ ⟨a0,a1,b2,b3,b4,ns,es⟩=false by unfold AN.same;simp[h2])
    have t2:(a2==b2)=false:=by simpa using h2
    clear h2
    go_enter func74,ntmps74
    go_upto_region 1 with (first|(with_reducible refine Z5 _ rfl 28 (.tmp 0) rfl _ rfl ?_)|(with_reducible refine Z5 _ rfl 28 (.tmp 1) rfl _ rfl ?_))
    rw[HW.o]
    go_wp2_with fail
    go_ret
    exact⟨by rw[HS.o];rfl,HKK.o⟩
  ·have HS:=U0 (show AN.same ⟨a0,a1,a2,a3,a4,nr,er⟩ ⟨a0,b1,b2,b3,b4,ns,es⟩=false by unfold AN.same;simp[h1])
   have t1:(a1==b1)=false:=by simpa using h1
   clear h1
   go_enter func74,ntmps74
   go_upto_region 1 with (first|(with_reducible refine Z5 _ rfl 28 (.tmp 0) rfl _ rfl ?_)|(with_reducible refine Z5 _ rfl 28 (.tmp 1) rfl _ rfl ?_))
   rw[HW.o]
   go_wp2_with fail
   go_ret
   exact⟨by rw[HS.o];rfl,HKK.o⟩
 ·have HS:=U0 (show AN.same ⟨a0,a1,a2,a3,a4,nr,er⟩ ⟨b0,b1,b2,b3,b4,ns,es⟩=false by unfold AN.same;simp[h0])
  have t0:(a0==b0)=false:=by simpa using h0
  clear h0
  go_enter func74,ntmps74
  go_upto_region 1 with (first|(with_reducible refine Z5 _ rfl 28 (.tmp 0) rfl _ rfl ?_)|(with_reducible refine Z5 _ rfl 28 (.tmp 1) rfl _ rfl ?_))
  rw[HW.o]
  go_wp2_with fail
  go_ret
  exact⟨by rw[HS.o];rfl,HKK.o⟩
end Go.Proofs.YthfdkonhjpdflaaGreatDoor
