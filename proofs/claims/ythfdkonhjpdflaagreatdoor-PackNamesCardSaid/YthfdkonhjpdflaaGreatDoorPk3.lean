import Derived.Test.YthfdkonhjpdflaaGreatDoorPkA
namespace Go.Proofs.YthfdkonhjpdflaaGreatDoor
open Go.RowKit Go.Proofs.Tryz
set_option linter.unusedVariables false
set_option maxRecDepth 100000
set_option maxHeartbeats 4000000
def RQ.same (r s:RQ):Bool:=(r.client==s.client) && ((r.num==s.num) && ((r.kind==s.kind) && ((r.version==s.version) && ((decide (r.name=s.name)) && (r.env==s.env)))))
def AN.same (r s:AN):Bool:=(r.client==s.client) && ((r.num==s.num) && ((r.code==s.code) && ((r.version==s.version) && ((r.epoch==s.epoch) && ((decide (r.name=s.name)) && (r.env==s.env))))))
def l5 (w:World) (F:List Nat) (r:RQ) (ev:Value):Prop:=r.name.length=32∧aS w F ev r.env
def mM (w:World) (F:List Nat) (a:AN) (ev:Value):Prop:=a.name.length=32∧aS w F ev a.env
theorem aC.two (w:World) (t:TypeId) (cs ds:Array Value):aC ((w.alloc (.cells cs t)).alloc (.cells ds t)) w.heap.size t cs∧aC ((w.alloc (.cells cs t)).alloc (.cells ds t)) (w.heap.size+1) t ds∧ag [] w ((w.alloc (.cells cs t)).alloc (.cells ds t)):=by
 have k1:=(ag.refl [] w).alloc (.cells cs t)
 have k2:=(ag.refl [] (w.alloc (.cells cs t))).alloc (.cells ds t)
 have r2:=aC.new (w.alloc (.cells cs t)) t ds
 rw[World.size_alloc] at r2
 exact⟨k2.row (aC.new w t cs) (by simp),r2,k1.then k2 (by simp)⟩
theorem vY (F G:List Nat) (r s:RQ) (ev ew:Value) (w:World) (hr:l5 w F r ev) (hs:l5 w G s ew):
 Calls prog 73 #[.agg (bE r ev).toArray,.agg (bE s ew).toArray] w fun e w'=>e= .returned (.bool (r.same s))∧ag [] w w':=by
 obtain⟨r1,r2,kk⟩:=aC.two w 26 (bE r ev).toArray (bE s ew).toArray
 obtain⟨hn,A,c,g,rfl,_,_,sA,_⟩:=hr
 obtain⟨hm,B,d,h,rfl,_,_,sB,_⟩:=hs
 have H12:=aa kk
 have sA2:=sA.keep kk (by simp)
 have sB2:=sB.keep kk (by simp)
 have xe:=(r1.cell 36).trans (gq hn)
 have ye:=(r2.cell 36).trans (gq hm)
 have xr:=r1.range (je r (.slice A r.env.length c))
 have yr:=r2.range (je s (.slice B s.env.length d))
 have x0:=r1.cell 0
 have y0:=r2.cell 0
 have x1:=r1.cell 1
 have y1:=r2.cell 1
 have x2:=r1.cell 2
 have y2:=r2.cell 2
 have x3:=r1.cell 3
 have y3:=r2.cell 3
 rw[show (bE r (.slice A r.env.length c)).toArray[0]? =some (.int .i64 r.client) from rfl] at x0
 rw[show (bE s (.slice B s.env.length d)).toArray[0]? =some (.int .i64 s.client) from rfl] at y0
 rw[show (bE r (.slice A r.env.length c)).toArray[1]? =some (.int .i64 r.num) from rfl] at x1
 rw[show (bE s (.slice B s.env.length d)).toArray[1]? =some (.int .i64 s.num) from rfl] at y1
 rw[show (bE r (.slice A r.env.length c)).toArray[2]? =some (.int .i64 r.kind) from rfl] at x2
 rw[show (bE s (.slice B s.env.length d)).toArray[2]? =some (.int .i64 s.kind) from rfl] at y2
 rw[show (bE r (.slice A r.env.length c)).toArray[3]? =some (.int .i64 r.version) from rfl] at x3
 rw[show (bE s (.slice B s.env.length d)).toArray[3]? =some (.int .i64 s.version) from rfl] at y3
 obtain⟨a0,a1,a2,a3,nr,er⟩:=r
 obtain⟨b0,b1,b2,b3,ns,es⟩:=s
 dsimp only at hn hm xr yr sA2 sB2 x0 y0 x1 y1 x2 y2 x3 y3 xe ye
 obtain⟨w2,hw2⟩:∃ w2,(w.alloc (.cells (bE ⟨a0,a1,a2,a3,nr,er⟩ (.slice A er.length c)).toArray 26)).alloc (.cells (bE ⟨b0,b1,b2,b3,ns,es⟩ (.slice B es.length d)).toArray 26)=w2:=⟨_,rfl⟩
 have HW:=aa hw2
 have HN:=aa (ah hn hm)
 have HK:=H12.o
 dsimp only at HK
 rw[hw2] at HK sA2 sB2 xe ye xr yr x0 y0 x1 y1 x2 y2 x3 y3
 have HKK:=aa HK
 have HX:=aa (ah xr yr)
 have HE:=aa (lq A B g h c d er es w2 sA2 sB2)
 have HQ:=aa (ky nr ns hn hm w2)
 have HI:=aa (show (prog.info? 23).map (·.size)=some (aT nr).length by rw[bi,hn];exact dY)
 have HJ:=aa (show (prog.info? 23).map (·.size)=some (aT ns).length by rw[bi,hm];exact dY)
 clear H12 HK sA2 sB2 sA sB hn hm xr yr hw2 kk r1 r2
 by_cases h0:a0=b0
 ·subst h0
  by_cases h1:a1=b1
  ·subst h1
   by_cases h2:a2=b2
   ·subst h2
    by_cases h3:a3=b3
    ·subst h3
     by_cases hnm:nr=ns
     ·subst hnm
      have HS:=aa (show RQ.same ⟨a0,a1,a2,a3,nr,er⟩ ⟨a0,a1,a2,a3,nr,es⟩=(er==es) by unfold RQ.same;simp)
      have hdn:decide (nr=nr)=true:=by simp
      rw[hdn] at HQ
      go_enter func73,ntmps73
      go_upto_region 1 with (first|(with_reducible refine aJ _ rfl 26 (.tmp 0) rfl _ rfl ?_)|(with_reducible refine aJ _ rfl 26 (.tmp 1) rfl _ rfl ?_))
      rw[HW.o]
      go_wp2_with (first|(refine aB 23 (.tmp 32) rfl w.heap.size 4 rfl (aT nr) _ HX.o.1 underlying23 rfl HI.o ?_ ?_;·rfl)|(refine aB 23 (.tmp 34) rfl (w.heap.size+1) 4 rfl (aT nr) _ HX.o.2 underlying23 rfl HJ.o ?_ ?_;·rfl)|(refine cK _ .eql 23 23 (.tmp 33) (.tmp 35) rfl eT (aT nr).toArray (aT nr).toArray rfl rfl _ HQ.o ?_ ?_;·rfl)|(go_at_call 78;refine HE.o.mono ?_;rintro e w' ⟨rfl,rfl⟩))
      go_ret
      exact⟨by rw[HS.o];rfl,HKK.o⟩
     ·have HS:=aa (show RQ.same ⟨a0,a1,a2,a3,nr,er⟩ ⟨a0,a1,a2,a3,ns,es⟩=false by unfold RQ.same;simp[hnm])
      have hdn:decide (nr=ns)=false:=by simp[hnm]
      rw[hdn] at HQ
      clear hnm
      go_enter func73,ntmps73
      go_upto_region 1 with (first|(with_reducible refine aJ _ rfl 26 (.tmp 0) rfl _ rfl ?_)|(with_reducible refine aJ _ rfl 26 (.tmp 1) rfl _ rfl ?_))
      rw[HW.o]
      go_wp2_with (first|(refine aB 23 (.tmp 32) rfl w.heap.size 4 rfl (aT nr) _ HX.o.1 underlying23 rfl HI.o ?_ ?_;·rfl)|(refine aB 23 (.tmp 34) rfl (w.heap.size+1) 4 rfl (aT ns) _ HX.o.2 underlying23 rfl HJ.o ?_ ?_;·rfl)|(refine cK _ .eql 23 23 (.tmp 33) (.tmp 35) rfl eT (aT nr).toArray (aT ns).toArray rfl rfl _ HQ.o ?_ ?_;·rfl))
      go_ret
      exact⟨by rw[HS.o];rfl,HKK.o⟩
    ·have HS:=aa (show RQ.same ⟨a0,a1,a2,a3,nr,er⟩ ⟨a0,a1,a2,b3,ns,es⟩=false by unfold RQ.same;simp[h3])
     have t3:(a3==b3)=false:=by simpa using h3
     clear h3
     go_enter func73,ntmps73
     go_upto_region 1 with (first|(with_reducible refine aJ _ rfl 26 (.tmp 0) rfl _ rfl ?_)|(with_reducible refine aJ _ rfl 26 (.tmp 1) rfl _ rfl ?_))
     rw[HW.o]
     go_wp2_with fail
     go_ret
     exact⟨by rw[HS.o];rfl,HKK.o⟩
   ·have HS:=aa (show RQ.same ⟨a0,a1,a2,a3,nr,er⟩ ⟨a0,a1,b2,b3,ns,es⟩=false by unfold RQ.same;simp[h2])
    have t2:(a2==b2)=false:=by simpa using h2
    clear h2
    go_enter func73,ntmps73
    go_upto_region 1 with (first|(with_reducible refine aJ _ rfl 26 (.tmp 0) rfl _ rfl ?_)|(with_reducible refine aJ _ rfl 26 (.tmp 1) rfl _ rfl ?_))
    rw[HW.o]
    go_wp2_with fail
    go_ret
    exact⟨by rw[HS.o];rfl,HKK.o⟩
  ·have HS:=aa (show RQ.same ⟨a0,a1,a2,a3,nr,er⟩ ⟨a0,b1,b2,b3,ns,es⟩=false by unfold RQ.same;simp[h1])
   have t1:(a1==b1)=false:=by simpa using h1
   clear h1
   go_enter func73,ntmps73
   go_upto_region 1 with (first|(with_reducible refine aJ _ rfl 26 (.tmp 0) rfl _ rfl ?_)|(with_reducible refine aJ _ rfl 26 (.tmp 1) rfl _ rfl ?_))
   rw[HW.o]
   go_wp2_with fail
   go_ret
   exact⟨by rw[HS.o];rfl,HKK.o⟩
 ·have HS:=aa (show RQ.same ⟨a0,a1,a2,a3,nr,er⟩ ⟨b0,b1,b2,b3,ns,es⟩=false by unfold RQ.same;simp[h0])
  have t0:(a0==b0)=false:=by simpa using h0
  clear h0
  go_enter func73,ntmps73
  go_upto_region 1 with (first|(with_reducible refine aJ _ rfl 26 (.tmp 0) rfl _ rfl ?_)|(with_reducible refine aJ _ rfl 26 (.tmp 1) rfl _ rfl ?_))
  rw[HW.o]
  go_wp2_with fail
  go_ret
  exact⟨by rw[HS.o];rfl,HKK.o⟩
theorem vX (F G:List Nat) (r s:AN) (ev ew:Value) (w:World) (hr:mM w F r ev) (hs:mM w G s ew):
 Calls prog 74 #[.agg (bK r ev).toArray,.agg (bK s ew).toArray] w fun e w'=>e= .returned (.bool (r.same s))∧ag [] w w':=by
 obtain⟨r1,r2,kk⟩:=aC.two w 28 (bK r ev).toArray (bK s ew).toArray
 obtain⟨hn,A,c,g,rfl,_,_,sA,_⟩:=hr
 obtain⟨hm,B,d,h,rfl,_,_,sB,_⟩:=hs
 have H12:=aa kk
 have sA2:=sA.keep kk (by simp)
 have sB2:=sB.keep kk (by simp)
 have xe:=(r1.cell 37).trans (gp hn)
 have ye:=(r2.cell 37).trans (gp hm)
 have xr:=r1.range (kg r (.slice A r.env.length c))
 have yr:=r2.range (kg s (.slice B s.env.length d))
 have x0:=r1.cell 0
 have y0:=r2.cell 0
 have x1:=r1.cell 1
 have y1:=r2.cell 1
 have x2:=r1.cell 2
 have y2:=r2.cell 2
 have x3:=r1.cell 3
 have y3:=r2.cell 3
 have x4:=r1.cell 4
 have y4:=r2.cell 4
 rw[show (bK r (.slice A r.env.length c)).toArray[0]? =some (.int .i64 r.client) from rfl] at x0
 rw[show (bK s (.slice B s.env.length d)).toArray[0]? =some (.int .i64 s.client) from rfl] at y0
 rw[show (bK r (.slice A r.env.length c)).toArray[1]? =some (.int .i64 r.num) from rfl] at x1
 rw[show (bK s (.slice B s.env.length d)).toArray[1]? =some (.int .i64 s.num) from rfl] at y1
 rw[show (bK r (.slice A r.env.length c)).toArray[2]? =some (.int .i64 r.code) from rfl] at x2
 rw[show (bK s (.slice B s.env.length d)).toArray[2]? =some (.int .i64 s.code) from rfl] at y2
 rw[show (bK r (.slice A r.env.length c)).toArray[3]? =some (.int .i64 r.version) from rfl] at x3
 rw[show (bK s (.slice B s.env.length d)).toArray[3]? =some (.int .i64 s.version) from rfl] at y3
 rw[show (bK r (.slice A r.env.length c)).toArray[4]? =some (.int .i64 r.epoch) from rfl] at x4
 rw[show (bK s (.slice B s.env.length d)).toArray[4]? =some (.int .i64 s.epoch) from rfl] at y4
 obtain⟨a0,a1,a2,a3,a4,nr,er⟩:=r
 obtain⟨b0,b1,b2,b3,b4,ns,es⟩:=s
 dsimp only at hn hm xr yr sA2 sB2 x0 y0 x1 y1 x2 y2 x3 y3 x4 y4 xe ye
 obtain⟨w2,hw2⟩:∃ w2,(w.alloc (.cells (bK ⟨a0,a1,a2,a3,a4,nr,er⟩ (.slice A er.length c)).toArray 28)).alloc (.cells (bK ⟨b0,b1,b2,b3,b4,ns,es⟩ (.slice B es.length d)).toArray 28)=w2:=⟨_,rfl⟩
 have HW:=aa hw2
 have HN:=aa (ah hn hm)
 have HK:=H12.o
 dsimp only at HK
 rw[hw2] at HK sA2 sB2 xe ye xr yr x0 y0 x1 y1 x2 y2 x3 y3 x4 y4
 have HKK:=aa HK
 have HX:=aa (ah xr yr)
 have HE:=aa (lq A B g h c d er es w2 sA2 sB2)
 have HQ:=aa (ky nr ns hn hm w2)
 have HI:=aa (show (prog.info? 23).map (·.size)=some (aT nr).length by rw[bi,hn];exact dY)
 have HJ:=aa (show (prog.info? 23).map (·.size)=some (aT ns).length by rw[bi,hm];exact dY)
 clear H12 HK sA2 sB2 sA sB hn hm xr yr hw2 kk r1 r2
 by_cases h0:a0=b0
 ·subst h0
  by_cases h1:a1=b1
  ·subst h1
   by_cases h2:a2=b2
   ·subst h2
    by_cases h3:a3=b3
    ·subst h3
     by_cases h4:a4=b4
     ·subst h4
      by_cases hnm:nr=ns
      ·subst hnm
       have HS:=aa (show AN.same ⟨a0,a1,a2,a3,a4,nr,er⟩ ⟨a0,a1,a2,a3,a4,nr,es⟩=(er==es) by unfold AN.same;simp)
       have hdn:decide (nr=nr)=true:=by simp
       rw[hdn] at HQ
       go_enter func74,ntmps74
       go_upto_region 1 with (first|(with_reducible refine aJ _ rfl 28 (.tmp 0) rfl _ rfl ?_)|(with_reducible refine aJ _ rfl 28 (.tmp 1) rfl _ rfl ?_))
       rw[HW.o]
       go_wp2_with (first|(refine aB 23 (.tmp 39) rfl w.heap.size 5 rfl (aT nr) _ HX.o.1 underlying23 rfl HI.o ?_ ?_;·rfl)|(refine aB 23 (.tmp 41) rfl (w.heap.size+1) 5 rfl (aT nr) _ HX.o.2 underlying23 rfl HJ.o ?_ ?_;·rfl)|(refine cK _ .eql 23 23 (.tmp 40) (.tmp 42) rfl eT (aT nr).toArray (aT nr).toArray rfl rfl _ HQ.o ?_ ?_;·rfl)|(go_at_call 78;refine HE.o.mono ?_;rintro e w' ⟨rfl,rfl⟩))
       go_ret
       exact⟨by rw[HS.o];rfl,HKK.o⟩
      ·have HS:=aa (show AN.same ⟨a0,a1,a2,a3,a4,nr,er⟩ ⟨a0,a1,a2,a3,a4,ns,es⟩=false by unfold AN.same;simp[hnm])
       have hdn:decide (nr=ns)=false:=by simp[hnm]
       rw[hdn] at HQ
       clear hnm
       go_enter func74,ntmps74
       go_upto_region 1 with (first|(with_reducible refine aJ _ rfl 28 (.tmp 0) rfl _ rfl ?_)|(with_reducible refine aJ _ rfl 28 (.tmp 1) rfl _ rfl ?_))
       rw[HW.o]
       go_wp2_with (first|(refine aB 23 (.tmp 39) rfl w.heap.size 5 rfl (aT nr) _ HX.o.1 underlying23 rfl HI.o ?_ ?_;·rfl)|(refine aB 23 (.tmp 41) rfl (w.heap.size+1) 5 rfl (aT ns) _ HX.o.2 underlying23 rfl HJ.o ?_ ?_;·rfl)|(refine cK _ .eql 23 23 (.tmp 40) (.tmp 42) rfl eT (aT nr).toArray (aT ns).toArray rfl rfl _ HQ.o ?_ ?_;·rfl))
       go_ret
       exact⟨by rw[HS.o];rfl,HKK.o⟩
     ·have HS:=aa (show AN.same ⟨a0,a1,a2,a3,a4,nr,er⟩ ⟨a0,a1,a2,a3,b4,ns,es⟩=false by unfold AN.same;simp[h4])
      have t4:(a4==b4)=false:=by simpa using h4
      clear h4
      go_enter func74,ntmps74
      go_upto_region 1 with (first|(with_reducible refine aJ _ rfl 28 (.tmp 0) rfl _ rfl ?_)|(with_reducible refine aJ _ rfl 28 (.tmp 1) rfl _ rfl ?_))
      rw[HW.o]
      go_wp2_with fail
      go_ret
      exact⟨by rw[HS.o];rfl,HKK.o⟩
    ·have HS:=aa (show AN.same ⟨a0,a1,a2,a3,a4,nr,er⟩ ⟨a0,a1,a2,b3,b4,ns,es⟩=false by unfold AN.same;simp[h3])
     have t3:(a3==b3)=false:=by simpa using h3
     clear h3
     go_enter func74,ntmps74
     go_upto_region 1 with (first|(with_reducible refine aJ _ rfl 28 (.tmp 0) rfl _ rfl ?_)|(with_reducible refine aJ _ rfl 28 (.tmp 1) rfl _ rfl ?_))
     rw[HW.o]
     go_wp2_with fail
     go_ret
     exact⟨by rw[HS.o];rfl,HKK.o⟩
   ·have HS:=aa (show AN.same ⟨a0,a1,a2,a3,a4,nr,er⟩ ⟨a0,a1,b2,b3,b4,ns,es⟩=false by unfold AN.same;simp[h2])
    have t2:(a2==b2)=false:=by simpa using h2
    clear h2
    go_enter func74,ntmps74
    go_upto_region 1 with (first|(with_reducible refine aJ _ rfl 28 (.tmp 0) rfl _ rfl ?_)|(with_reducible refine aJ _ rfl 28 (.tmp 1) rfl _ rfl ?_))
    rw[HW.o]
    go_wp2_with fail
    go_ret
    exact⟨by rw[HS.o];rfl,HKK.o⟩
  ·have HS:=aa (show AN.same ⟨a0,a1,a2,a3,a4,nr,er⟩ ⟨a0,b1,b2,b3,b4,ns,es⟩=false by unfold AN.same;simp[h1])
   have t1:(a1==b1)=false:=by simpa using h1
   clear h1
   go_enter func74,ntmps74
   go_upto_region 1 with (first|(with_reducible refine aJ _ rfl 28 (.tmp 0) rfl _ rfl ?_)|(with_reducible refine aJ _ rfl 28 (.tmp 1) rfl _ rfl ?_))
   rw[HW.o]
   go_wp2_with fail
   go_ret
   exact⟨by rw[HS.o];rfl,HKK.o⟩
 ·have HS:=aa (show AN.same ⟨a0,a1,a2,a3,a4,nr,er⟩ ⟨b0,b1,b2,b3,b4,ns,es⟩=false by unfold AN.same;simp[h0])
  have t0:(a0==b0)=false:=by simpa using h0
  clear h0
  go_enter func74,ntmps74
  go_upto_region 1 with (first|(with_reducible refine aJ _ rfl 28 (.tmp 0) rfl _ rfl ?_)|(with_reducible refine aJ _ rfl 28 (.tmp 1) rfl _ rfl ?_))
  rw[HW.o]
  go_wp2_with fail
  go_ret
  exact⟨by rw[HS.o];rfl,HKK.o⟩
end Go.Proofs.YthfdkonhjpdflaaGreatDoor
