import Derived.Test.YthfdkonhjpdflaaGreatDoorNK
import Derived.Test.YthfdkonhjpdflaaGreatDoorLow3
namespace Go.Proofs.YthfdkonhjpdflaaGreatDoor
open Go.RowKit Go.Proofs.Tryz
set_option linter.unusedVariables false
set_option maxRecDepth 100000
set_option linter.unusedSimpArgs false
set_option maxHeartbeats 4000000
theorem bY (n lo hi:Int) (w:World):Calls prog 67 #[.int .i64 n,.int .i64 lo,.int .i64 hi] w fun e w'=>e= .returned (.bool (dV n lo hi))∧w=w':=by
 go_enter func67,ntmps67
 by_cases a:lo≤n
 ·by_cases b:n≤hi
  ·go_wp2
   go_ret
   exact⟨by rw[eO ⟨a,b⟩];rfl,rfl⟩
  ·go_wp2
   go_ret
   exact⟨by rw[dQ (fun h=>by omega)];rfl,rfl⟩
 ·go_wp2
  go_ret
  exact⟨by rw[dQ (fun h=>by omega)];rfl,rfl⟩
theorem gW (n:Int) (w:World):Calls prog 69 #[.int .i64 n] w fun e w'=>e= .returned (.bool (dV n 0 9007199254740991))∧w=w':=by
 have HC:=aa (bY n 0 9007199254740991 w)
 go_enter func69,ntmps69
 go_wp2_with (go_at_call 67;refine HC.o.mono ?_;rintro e w' ⟨rfl,rfl⟩)
 go_ret
 exact⟨rfl,rfl⟩
theorem vU (n:Int) (w:World):Calls prog 134 #[.int .i64 n] w fun e w'=>e= .returned (.bool (dV n 10 13))∧w=w':=by
 have HC:=aa (bY n 10 13 w)
 go_enter func134,ntmps134
 go_wp2_with (go_at_call 67;refine HC.o.mono ?_;rintro e w' ⟨rfl,rfl⟩)
 go_ret
 exact⟨rfl,rfl⟩
theorem gG (b:Bool) (w:World):Calls prog 71 #[.bool b] w fun e w'=>e= .returned (.int .i64 (bQ b))∧w=w':=by
 cases b with
 |true=>
  go_enter func71,ntmps71
  go_wp2
  go_ret
  exact⟨rfl,rfl⟩
 |false=>
  go_enter func71,ntmps71
  go_wp2
  go_ret
  exact⟨rfl,rfl⟩
def kQ (k:Int):Int:=if k=5 then -1 else 0
theorem Bc (k:Int) (w:World):Calls prog 70 #[.int .i64 k] w fun e w'=>e= .returned (.int .i64 (kQ k))∧w=w':=by
 by_cases h:k=5
 ·subst h
  go_enter func70,ntmps70
  go_wp2
  go_ret
  exact⟨rfl,rfl⟩
 ·have hb:(k==5)=false:=by simp[h]
  have HS:=aa (show kQ k=0 by unfold kQ;rw[if_neg h])
  go_enter func70,ntmps70
  go_wp2
  go_ret
  exact⟨by rw[HS.o];rfl,rfl⟩
theorem DV (n:Int) (w:World):Calls prog 68 #[.int .i64 n] w fun e w'=>e= .returned (.bool (eP n))∧w=w':=by
 have H1:=aa (bY n 0 2 w)
 have H2:=aa (vU n w)
 have H3:=aa (bY n 20 22 w)
 have HS:=aa (show eP n=(dV n 0 2||(dV n 10 13||dV n 20 22)) from rfl)
 generalize eP n=N at*
 generalize dV n 0 2=a at*
 generalize dV n 10 13=b at*
 generalize dV n 20 22=c at*
 cases a<;>cases b
 all_goals
  go_enter func68,ntmps68
  go_wp2_with (first
   |(go_at_call 67;with_reducible refine H1.o.mono ?_;rintro e w' ⟨rfl,rfl⟩)
   |(go_at_call 134;refine H2.o.mono ?_;rintro e w' ⟨rfl,rfl⟩)
   |(go_at_call 67;with_reducible refine H3.o.mono ?_;rintro e w' ⟨rfl,rfl⟩))
  go_ret
  exact⟨by rw[HS.o];rfl,rfl⟩
theorem inR (F:List Nat) (k:Int) (v:Value) (l:List Int) (w:World) (hl:qg w F v l):
 Calls prog 124 #[.int .i64 k,v] w fun e w'=>e= .returned (.bool (l.contains k))∧ag [] w w':=by
 obtain⟨A,c,g,rfl,h2,h3,h4,h5,h6⟩:=id hl
 clear h5 h6
 have HL:=aa hl
 clear hl
 unfold maxLen at h3
 go_enter func124,ntmps124
 go_upto_region 3 with fail
 go_loopw [5] (fun v5 wx=>∃ i:Nat,i≤l.length∧v5= .int .i64 (i:Int)∧(l.take i).contains k=false∧ag [] w wx) (fun v5 _=>l.length-(intOf v5).toNat)
 case atStart=>exact⟨0,by omega,rfl,by simp,ag.refl _ _⟩
 case round=>
  obtain⟨i,hi,rfl,ht,kk⟩:=hrel
  by_cases hlt:i<l.length
  ·obtain⟨-, -,ga,oa,x,rfl,hx,cx⟩:=(HL.o.keep kk (by simp)).cell i hlt
   have h1:(i:Int)<(l.length:Int):=by omega
   have HT:=aa (ah ht (ah kk hx))
   clear ht kk hx
   by_cases hxy:x=k
   ·have t3:(x==k)=true:=by simpa using hxy
    have HXY:=aa (show l.contains k=true by
     rw[List.contains_iff_mem]
     have e:=HT.o.2.2
     rw[hxy] at e
     exact List.mem_of_getElem? e)
    clear hxy
    go_wp2
    go_ret
    rw[HXY.o]
    exact⟨rfl,HT.o.2.1⟩
   ·have t3:(x==k)=false:=by simpa using hxy
    have HXY:=aa (show (l.take (i+1)).contains k=false by
     rw[List.take_add_one,HT.o.2.2]
     have:=HT.o.1
     simp at this ⊢
     exact⟨this,fun e=>hxy e.symm⟩)
    clear hxy
    go_wp2
    go_roundw
    case rel=>exact⟨i+1,by omega,by go_num,HXY.o,HT.o.2.1⟩
    case measure=>simp[intOf];omega
  ·obtain rfl:i=l.length:=by omega
   rw[List.take_length] at ht
   have HE:=aa (ah ht kk)
   clear ht kk
   go_wp2
   go_ret
   rw[HE.o.1]
   exact⟨rfl,HE.o.2⟩
def l8:List Int:=[3,4,5,6,8]
def l9:List Int:=[3,4,5,6,10,11,12,13]
def fH:List Int:=[10,11,12,13,14]
def kG:List Int:=[1,3]
def gm:List Int:=[7,12]
theorem ni (k:Int) (w:World):Calls prog 53 #[.int .i64 k] w fun e w'=>e= .returned (.bool (l8.contains k))∧ag [] w w':=by
 have HK:=aa ((ag.refl [] w).alloc (.cells #[.int .i64 3,.int .i64 4,.int .i64 5,.int .i64 6,.int .i64 8] 3))
 have HC:aH (Calls prog 124 #[.int .i64 k,.slice (some ⟨w.heap.size,0,none⟩) 5 5] (w.alloc (.cells #[.int .i64 3,.int .i64 4,.int .i64 5,.int .i64 6,.int .i64 8] 3)) fun e w'=>e= .returned (.bool (l8.contains k))∧ag [] (w.alloc (.cells #[.int .i64 3,.int .i64 4,.int .i64 5,.int .i64 6,.int .i64 8] 3)) w'):=aa (inR [w.heap.size] k (.slice (some ⟨w.heap.size,0,none⟩) 5 5) l8 _ (lI w l8 (by simp[l8])))
 go_enter func53,ntmps53
 go_wp2_with (go_at_call 124;refine HC.o.mono ?_;rintro e w' ⟨rfl,k2⟩;replace k2:=HK.o.then k2 (by simp);have HJ:=aa k2;clear k2)
 go_ret
 rw[show l8.contains k=decide (k∈l8) from by simp]
 exact⟨rfl,HJ.o⟩
theorem nk (k:Int) (w:World):Calls prog 55 #[.int .i64 k] w fun e w'=>e= .returned (.bool (l9.contains k))∧ag [] w w':=by
 have HK:=aa ((ag.refl [] w).alloc (.cells #[.int .i64 3,.int .i64 4,.int .i64 5,.int .i64 6,.int .i64 10,.int .i64 11,.int .i64 12,.int .i64 13] 3))
 have HC:aH (Calls prog 124 #[.int .i64 k,.slice (some ⟨w.heap.size,0,none⟩) 8 8] (w.alloc (.cells #[.int .i64 3,.int .i64 4,.int .i64 5,.int .i64 6,.int .i64 10,.int .i64 11,.int .i64 12,.int .i64 13] 3)) fun e w'=>e= .returned (.bool (l9.contains k))∧ag [] (w.alloc (.cells #[.int .i64 3,.int .i64 4,.int .i64 5,.int .i64 6,.int .i64 10,.int .i64 11,.int .i64 12,.int .i64 13] 3)) w'):=aa (inR [w.heap.size] k (.slice (some ⟨w.heap.size,0,none⟩) 8 8) l9 _ (lI w l9 (by simp[l9])))
 go_enter func55,ntmps55
 go_wp2_with (go_at_call 124;refine HC.o.mono ?_;rintro e w' ⟨rfl,k2⟩;replace k2:=HK.o.then k2 (by simp);have HJ:=aa k2;clear k2)
 go_ret
 rw[show l9.contains k=decide (k∈l9) from by simp]
 exact⟨rfl,HJ.o⟩
theorem jF (k:Int) (w:World):Calls prog 56 #[.int .i64 k] w fun e w'=>e= .returned (.bool (fH.contains k))∧ag [] w w':=by
 have HK:=aa ((ag.refl [] w).alloc (.cells #[.int .i64 10,.int .i64 11,.int .i64 12,.int .i64 13,.int .i64 14] 3))
 have HC:aH (Calls prog 124 #[.int .i64 k,.slice (some ⟨w.heap.size,0,none⟩) 5 5] (w.alloc (.cells #[.int .i64 10,.int .i64 11,.int .i64 12,.int .i64 13,.int .i64 14] 3)) fun e w'=>e= .returned (.bool (fH.contains k))∧ag [] (w.alloc (.cells #[.int .i64 10,.int .i64 11,.int .i64 12,.int .i64 13,.int .i64 14] 3)) w'):=aa (inR [w.heap.size] k (.slice (some ⟨w.heap.size,0,none⟩) 5 5) fH _ (lI w fH (by simp[fH])))
 go_enter func56,ntmps56
 go_wp2_with (go_at_call 124;refine HC.o.mono ?_;rintro e w' ⟨rfl,k2⟩;replace k2:=HK.o.then k2 (by simp);have HJ:=aa k2;clear k2)
 go_ret
 rw[show fH.contains k=decide (k∈fH) from by simp]
 exact⟨rfl,HJ.o⟩
theorem iD (k:Int) (w:World):Calls prog 57 #[.int .i64 k] w fun e w'=>e= .returned (.bool (kG.contains k))∧ag [] w w':=by
 have HK:=aa ((ag.refl [] w).alloc (.cells #[.int .i64 1,.int .i64 3] 3))
 have HC:aH (Calls prog 124 #[.int .i64 k,.slice (some ⟨w.heap.size,0,none⟩) 2 2] (w.alloc (.cells #[.int .i64 1,.int .i64 3] 3)) fun e w'=>e= .returned (.bool (kG.contains k))∧ag [] (w.alloc (.cells #[.int .i64 1,.int .i64 3] 3)) w'):=aa (inR [w.heap.size] k (.slice (some ⟨w.heap.size,0,none⟩) 2 2) kG _ (lI w kG (by simp[kG])))
 go_enter func57,ntmps57
 go_wp2_with (go_at_call 124;refine HC.o.mono ?_;rintro e w' ⟨rfl,k2⟩;replace k2:=HK.o.then k2 (by simp);have HJ:=aa k2;clear k2)
 go_ret
 rw[show kG.contains k=decide (k∈kG) from by simp]
 exact⟨rfl,HJ.o⟩
theorem kr (k:Int) (w:World):Calls prog 59 #[.int .i64 k] w fun e w'=>e= .returned (.bool (gm.contains k))∧ag [] w w':=by
 have HK:=aa ((ag.refl [] w).alloc (.cells #[.int .i64 7,.int .i64 12] 3))
 have HC:aH (Calls prog 124 #[.int .i64 k,.slice (some ⟨w.heap.size,0,none⟩) 2 2] (w.alloc (.cells #[.int .i64 7,.int .i64 12] 3)) fun e w'=>e= .returned (.bool (gm.contains k))∧ag [] (w.alloc (.cells #[.int .i64 7,.int .i64 12] 3)) w'):=aa (inR [w.heap.size] k (.slice (some ⟨w.heap.size,0,none⟩) 2 2) gm _ (lI w gm (by simp[gm])))
 go_enter func59,ntmps59
 go_wp2_with (go_at_call 124;refine HC.o.mono ?_;rintro e w' ⟨rfl,k2⟩;replace k2:=HK.o.then k2 (by simp);have HJ:=aa k2;clear k2)
 go_ret
 rw[show gm.contains k=decide (k∈gm) from by simp]
 exact⟨rfl,HJ.o⟩
theorem qH (F G:List Nat) (r s:RQ) (ev ew:Value) (w:World) (hr:l5 w F r ev) (hs:l5 w G s ew):
 Calls prog 36 #[.agg (bE r ev).toArray,.agg (bE s ew).toArray] w fun e w'=>e= .returned (.bool (r.same s))∧ag [] w w':=by
 obtain⟨r1,r2,kk⟩:=aC.two w 26 (bE r ev).toArray (bE s ew).toArray
 obtain⟨hn,A,c,g,rfl,_,_,sA,_⟩:=hr
 obtain⟨hm,B,d,h,rfl,_,_,sB,_⟩:=hs
 have H12:=aa kk
 have sA2:=sA.keep kk (by simp)
 have sB2:=sB.keep kk (by simp)
 have xe:=(r1.cell 36).trans (gq hn)
 have ye:=(r2.cell 36).trans (gq hm)
 have xr:=r1.range (je r (.slice A r.env.length c))
 have yr:=r2.range (je s (.slice B s.env.length d))
 have x0:=r1.cell 0
 have y0:=r2.cell 0
 have x1:=r1.cell 1
 have y1:=r2.cell 1
 have x2:=r1.cell 2
 have y2:=r2.cell 2
 have x3:=r1.cell 3
 have y3:=r2.cell 3
 rw[show (bE r (.slice A r.env.length c)).toArray[0]? =some (.int .i64 r.client) from rfl] at x0
 rw[show (bE s (.slice B s.env.length d)).toArray[0]? =some (.int .i64 s.client) from rfl] at y0
 rw[show (bE r (.slice A r.env.length c)).toArray[1]? =some (.int .i64 r.num) from rfl] at x1
 rw[show (bE s (.slice B s.env.length d)).toArray[1]? =some (.int .i64 s.num) from rfl] at y1
 rw[show (bE r (.slice A r.env.length c)).toArray[2]? =some (.int .i64 r.kind) from rfl] at x2
 rw[show (bE s (.slice B s.env.length d)).toArray[2]? =some (.int .i64 s.kind) from rfl] at y2
 rw[show (bE r (.slice A r.env.length c)).toArray[3]? =some (.int .i64 r.version) from rfl] at x3
 rw[show (bE s (.slice B s.env.length d)).toArray[3]? =some (.int .i64 s.version) from rfl] at y3
 obtain⟨a0,a1,a2,a3,nr,er⟩:=r
 obtain⟨b0,b1,b2,b3,ns,es⟩:=s
 dsimp only at hn hm xr yr sA2 sB2 x0 y0 x1 y1 x2 y2 x3 y3 xe ye
 obtain⟨w2,hw2⟩:∃ w2,(w.alloc (.cells (bE ⟨a0,a1,a2,a3,nr,er⟩ (.slice A er.length c)).toArray 26)).alloc (.cells (bE ⟨b0,b1,b2,b3,ns,es⟩ (.slice B es.length d)).toArray 26)=w2:=⟨_,rfl⟩
 have HW:=aa hw2
 have HN:=aa (ah hn hm)
 have HK:=H12.o
 dsimp only at HK
 rw[hw2] at HK sA2 sB2 xe ye xr yr x0 y0 x1 y1 x2 y2 x3 y3
 have HKK:=aa HK
 have HX:=aa (ah xr yr)
 have HE:=aa (gy A B g h c d er es w2 sA2 sB2)
 have HQ:=aa (ky nr ns hn hm w2)
 have HI:=aa (show (prog.info? 23).map (·.size)=some (aT nr).length by rw[bi,hn];exact dY)
 have HJ:=aa (show (prog.info? 23).map (·.size)=some (aT ns).length by rw[bi,hm];exact dY)
 clear H12 HK sA2 sB2 sA sB hn hm xr yr hw2 kk r1 r2
 by_cases h0:a0=b0
 ·subst h0
  by_cases h1:a1=b1
  ·subst h1
   by_cases h2:a2=b2
   ·subst h2
    by_cases h3:a3=b3
    ·subst h3
     by_cases hnm:nr=ns
     ·subst hnm
      have HS:=aa (show RQ.same ⟨a0,a1,a2,a3,nr,er⟩ ⟨a0,a1,a2,a3,nr,es⟩=(er==es) by unfold RQ.same;simp)
      have hdn:decide (nr=nr)=true:=by simp
      rw[hdn] at HQ
      go_enter func36,ntmps36
      go_upto_region 1 with (first|(with_reducible refine aJ _ rfl 26 (.tmp 0) rfl _ rfl ?_)|(with_reducible refine aJ _ rfl 26 (.tmp 1) rfl _ rfl ?_))
      rw[HW.o]
      go_wp2_with (first|(refine aB 23 (.tmp 32) rfl w.heap.size 4 rfl (aT nr) _ HX.o.1 underlying23 rfl HI.o ?_ ?_;·rfl)|(refine aB 23 (.tmp 34) rfl (w.heap.size+1) 4 rfl (aT nr) _ HX.o.2 underlying23 rfl HJ.o ?_ ?_;·rfl)|(refine cK _ .eql 23 23 (.tmp 33) (.tmp 35) rfl eT (aT nr).toArray (aT nr).toArray rfl rfl _ HQ.o ?_ ?_;·rfl)|(go_at_call 11;refine HE.o.mono ?_;rintro e w' ⟨rfl,rfl⟩))
      go_ret
      exact⟨by rw[HS.o];rfl,HKK.o⟩
     ·have HS:=aa (show RQ.same ⟨a0,a1,a2,a3,nr,er⟩ ⟨a0,a1,a2,a3,ns,es⟩=false by unfold RQ.same;simp[hnm])
      have hdn:decide (nr=ns)=false:=by simp[hnm]
      rw[hdn] at HQ
      clear hnm
      go_enter func36,ntmps36
      go_upto_region 1 with (first|(with_reducible refine aJ _ rfl 26 (.tmp 0) rfl _ rfl ?_)|(with_reducible refine aJ _ rfl 26 (.tmp 1) rfl _ rfl ?_))
      rw[HW.o]
      go_wp2_with (first|(refine aB 23 (.tmp 32) rfl w.heap.size 4 rfl (aT nr) _ HX.o.1 underlying23 rfl HI.o ?_ ?_;·rfl)|(refine aB 23 (.tmp 34) rfl (w.heap.size+1) 4 rfl (aT ns) _ HX.o.2 underlying23 rfl HJ.o ?_ ?_;·rfl)|(refine cK _ .eql 23 23 (.tmp 33) (.tmp 35) rfl eT (aT nr).toArray (aT ns).toArray rfl rfl _ HQ.o ?_ ?_;·rfl))
      go_ret
      exact⟨by rw[HS.o];rfl,HKK.o⟩
    ·have HS:=aa (show RQ.same ⟨a0,a1,a2,a3,nr,er⟩ ⟨a0,a1,a2,b3,ns,es⟩=false by unfold RQ.same;simp[h3])
     have t3:(a3==b3)=false:=by simpa using h3
     clear h3
     go_enter func36,ntmps36
     go_upto_region 1 with (first|(with_reducible refine aJ _ rfl 26 (.tmp 0) rfl _ rfl ?_)|(with_reducible refine aJ _ rfl 26 (.tmp 1) rfl _ rfl ?_))
     rw[HW.o]
     go_wp2_with fail
     go_ret
     exact⟨by rw[HS.o];rfl,HKK.o⟩
   ·have HS:=aa (show RQ.same ⟨a0,a1,a2,a3,nr,er⟩ ⟨a0,a1,b2,b3,ns,es⟩=false by unfold RQ.same;simp[h2])
    have t2:(a2==b2)=false:=by simpa using h2
    clear h2
    go_enter func36,ntmps36
    go_upto_region 1 with (first|(with_reducible refine aJ _ rfl 26 (.tmp 0) rfl _ rfl ?_)|(with_reducible refine aJ _ rfl 26 (.tmp 1) rfl _ rfl ?_))
    rw[HW.o]
    go_wp2_with fail
    go_ret
    exact⟨by rw[HS.o];rfl,HKK.o⟩
  ·have HS:=aa (show RQ.same ⟨a0,a1,a2,a3,nr,er⟩ ⟨a0,b1,b2,b3,ns,es⟩=false by unfold RQ.same;simp[h1])
   have t1:(a1==b1)=false:=by simpa using h1
   clear h1
   go_enter func36,ntmps36
   go_upto_region 1 with (first|(with_reducible refine aJ _ rfl 26 (.tmp 0) rfl _ rfl ?_)|(with_reducible refine aJ _ rfl 26 (.tmp 1) rfl _ rfl ?_))
   rw[HW.o]
   go_wp2_with fail
   go_ret
   exact⟨by rw[HS.o];rfl,HKK.o⟩
 ·have HS:=aa (show RQ.same ⟨a0,a1,a2,a3,nr,er⟩ ⟨b0,b1,b2,b3,ns,es⟩=false by unfold RQ.same;simp[h0])
  have t0:(a0==b0)=false:=by simpa using h0
  clear h0
  go_enter func36,ntmps36
  go_upto_region 1 with (first|(with_reducible refine aJ _ rfl 26 (.tmp 0) rfl _ rfl ?_)|(with_reducible refine aJ _ rfl 26 (.tmp 1) rfl _ rfl ?_))
  rw[HW.o]
  go_wp2_with fail
  go_ret
  exact⟨by rw[HS.o];rfl,HKK.o⟩
theorem qG (F G:List Nat) (r s:AN) (ev ew:Value) (w:World) (hr:mM w F r ev) (hs:mM w G s ew):
 Calls prog 37 #[.agg (bK r ev).toArray,.agg (bK s ew).toArray] w fun e w'=>e= .returned (.bool (r.same s))∧ag [] w w':=by
 obtain⟨r1,r2,kk⟩:=aC.two w 28 (bK r ev).toArray (bK s ew).toArray
 obtain⟨hn,A,c,g,rfl,_,_,sA,_⟩:=hr
 obtain⟨hm,B,d,h,rfl,_,_,sB,_⟩:=hs
 have H12:=aa kk
 have sA2:=sA.keep kk (by simp)
 have sB2:=sB.keep kk (by simp)
 have xe:=(r1.cell 37).trans (gp hn)
 have ye:=(r2.cell 37).trans (gp hm)
 have xr:=r1.range (kg r (.slice A r.env.length c))
 have yr:=r2.range (kg s (.slice B s.env.length d))
 have x0:=r1.cell 0
 have y0:=r2.cell 0
 have x1:=r1.cell 1
 have y1:=r2.cell 1
 have x2:=r1.cell 2
 have y2:=r2.cell 2
 have x3:=r1.cell 3
 have y3:=r2.cell 3
 have x4:=r1.cell 4
 have y4:=r2.cell 4
 rw[show (bK r (.slice A r.env.length c)).toArray[0]? =some (.int .i64 r.client) from rfl] at x0
 rw[show (bK s (.slice B s.env.length d)).toArray[0]? =some (.int .i64 s.client) from rfl] at y0
 rw[show (bK r (.slice A r.env.length c)).toArray[1]? =some (.int .i64 r.num) from rfl] at x1
 rw[show (bK s (.slice B s.env.length d)).toArray[1]? =some (.int .i64 s.num) from rfl] at y1
 rw[show (bK r (.slice A r.env.length c)).toArray[2]? =some (.int .i64 r.code) from rfl] at x2
 rw[show (bK s (.slice B s.env.length d)).toArray[2]? =some (.int .i64 s.code) from rfl] at y2
 rw[show (bK r (.slice A r.env.length c)).toArray[3]? =some (.int .i64 r.version) from rfl] at x3
 rw[show (bK s (.slice B s.env.length d)).toArray[3]? =some (.int .i64 s.version) from rfl] at y3
 rw[show (bK r (.slice A r.env.length c)).toArray[4]? =some (.int .i64 r.epoch) from rfl] at x4
 rw[show (bK s (.slice B s.env.length d)).toArray[4]? =some (.int .i64 s.epoch) from rfl] at y4
 obtain⟨a0,a1,a2,a3,a4,nr,er⟩:=r
 obtain⟨b0,b1,b2,b3,b4,ns,es⟩:=s
 dsimp only at hn hm xr yr sA2 sB2 x0 y0 x1 y1 x2 y2 x3 y3 x4 y4 xe ye
 obtain⟨w2,hw2⟩:∃ w2,(w.alloc (.cells (bK ⟨a0,a1,a2,a3,a4,nr,er⟩ (.slice A er.length c)).toArray 28)).alloc (.cells (bK ⟨b0,b1,b2,b3,b4,ns,es⟩ (.slice B es.length d)).toArray 28)=w2:=⟨_,rfl⟩
 have HW:=aa hw2
 have HN:=aa (ah hn hm)
 have HK:=H12.o
 dsimp only at HK
 rw[hw2] at HK sA2 sB2 xe ye xr yr x0 y0 x1 y1 x2 y2 x3 y3 x4 y4
 have HKK:=aa HK
 have HX:=aa (ah xr yr)
 have HE:=aa (gy A B g h c d er es w2 sA2 sB2)
 have HQ:=aa (ky nr ns hn hm w2)
 have HI:=aa (show (prog.info? 23).map (·.size)=some (aT nr).length by rw[bi,hn];exact dY)
 have HJ:=aa (show (prog.info? 23).map (·.size)=some (aT ns).length by rw[bi,hm];exact dY)
 clear H12 HK sA2 sB2 sA sB hn hm xr yr hw2 kk r1 r2
 by_cases h0:a0=b0
 ·subst h0
  by_cases h1:a1=b1
  ·subst h1
   by_cases h2:a2=b2
   ·subst h2
    by_cases h3:a3=b3
    ·subst h3
     by_cases h4:a4=b4
     ·subst h4
      by_cases hnm:nr=ns
      ·subst hnm
       have HS:=aa (show AN.same ⟨a0,a1,a2,a3,a4,nr,er⟩ ⟨a0,a1,a2,a3,a4,nr,es⟩=(er==es) by unfold AN.same;simp)
       have hdn:decide (nr=nr)=true:=by simp
       rw[hdn] at HQ
       go_enter func37,ntmps37
       go_upto_region 1 with (first|(with_reducible refine aJ _ rfl 28 (.tmp 0) rfl _ rfl ?_)|(with_reducible refine aJ _ rfl 28 (.tmp 1) rfl _ rfl ?_))
       rw[HW.o]
       go_wp2_with (first|(refine aB 23 (.tmp 39) rfl w.heap.size 5 rfl (aT nr) _ HX.o.1 underlying23 rfl HI.o ?_ ?_;·rfl)|(refine aB 23 (.tmp 41) rfl (w.heap.size+1) 5 rfl (aT nr) _ HX.o.2 underlying23 rfl HJ.o ?_ ?_;·rfl)|(refine cK _ .eql 23 23 (.tmp 40) (.tmp 42) rfl eT (aT nr).toArray (aT nr).toArray rfl rfl _ HQ.o ?_ ?_;·rfl)|(go_at_call 11;refine HE.o.mono ?_;rintro e w' ⟨rfl,rfl⟩))
       go_ret
       exact⟨by rw[HS.o];rfl,HKK.o⟩
      ·have HS:=aa (show AN.same ⟨a0,a1,a2,a3,a4,nr,er⟩ ⟨a0,a1,a2,a3,a4,ns,es⟩=false by unfold AN.same;simp[hnm])
       have hdn:decide (nr=ns)=false:=by simp[hnm]
       rw[hdn] at HQ
       clear hnm
       go_enter func37,ntmps37
       go_upto_region 1 with (first|(with_reducible refine aJ _ rfl 28 (.tmp 0) rfl _ rfl ?_)|(with_reducible refine aJ _ rfl 28 (.tmp 1) rfl _ rfl ?_))
       rw[HW.o]
       go_wp2_with (first|(refine aB 23 (.tmp 39) rfl w.heap.size 5 rfl (aT nr) _ HX.o.1 underlying23 rfl HI.o ?_ ?_;·rfl)|(refine aB 23 (.tmp 41) rfl (w.heap.size+1) 5 rfl (aT ns) _ HX.o.2 underlying23 rfl HJ.o ?_ ?_;·rfl)|(refine cK _ .eql 23 23 (.tmp 40) (.tmp 42) rfl eT (aT nr).toArray (aT ns).toArray rfl rfl _ HQ.o ?_ ?_;·rfl))
       go_ret
       exact⟨by rw[HS.o];rfl,HKK.o⟩
     ·have HS:=aa (show AN.same ⟨a0,a1,a2,a3,a4,nr,er⟩ ⟨a0,a1,a2,a3,b4,ns,es⟩=false by unfold AN.same;simp[h4])
      have t4:(a4==b4)=false:=by simpa using h4
      clear h4
      go_enter func37,ntmps37
      go_upto_region 1 with (first|(with_reducible refine aJ _ rfl 28 (.tmp 0) rfl _ rfl ?_)|(with_reducible refine aJ _ rfl 28 (.tmp 1) rfl _ rfl ?_))
      rw[HW.o]
      go_wp2_with fail
      go_ret
      exact⟨by rw[HS.o];rfl,HKK.o⟩
    ·have HS:=aa (show AN.same ⟨a0,a1,a2,a3,a4,nr,er⟩ ⟨a0,a1,a2,b3,b4,ns,es⟩=false by unfold AN.same;simp[h3])
     have t3:(a3==b3)=false:=by simpa using h3
     clear h3
     go_enter func37,ntmps37
     go_upto_region 1 with (first|(with_reducible refine aJ _ rfl 28 (.tmp 0) rfl _ rfl ?_)|(with_reducible refine aJ _ rfl 28 (.tmp 1) rfl _ rfl ?_))
     rw[HW.o]
     go_wp2_with fail
     go_ret
     exact⟨by rw[HS.o];rfl,HKK.o⟩
   ·have HS:=aa (show AN.same ⟨a0,a1,a2,a3,a4,nr,er⟩ ⟨a0,a1,b2,b3,b4,ns,es⟩=false by unfold AN.same;simp[h2])
    have t2:(a2==b2)=false:=by simpa using h2
    clear h2
    go_enter func37,ntmps37
    go_upto_region 1 with (first|(with_reducible refine aJ _ rfl 28 (.tmp 0) rfl _ rfl ?_)|(with_reducible refine aJ _ rfl 28 (.tmp 1) rfl _ rfl ?_))
    rw[HW.o]
    go_wp2_with fail
    go_ret
    exact⟨by rw[HS.o];rfl,HKK.o⟩
  ·have HS:=aa (show AN.same ⟨a0,a1,a2,a3,a4,nr,er⟩ ⟨a0,b1,b2,b3,b4,ns,es⟩=false by unfold AN.same;simp[h1])
   have t1:(a1==b1)=false:=by simpa using h1
   clear h1
   go_enter func37,ntmps37
   go_upto_region 1 with (first|(with_reducible refine aJ _ rfl 28 (.tmp 0) rfl _ rfl ?_)|(with_reducible refine aJ _ rfl 28 (.tmp 1) rfl _ rfl ?_))
   rw[HW.o]
   go_wp2_with fail
   go_ret
   exact⟨by rw[HS.o];rfl,HKK.o⟩
 ·have HS:=aa (show AN.same ⟨a0,a1,a2,a3,a4,nr,er⟩ ⟨b0,b1,b2,b3,b4,ns,es⟩=false by unfold AN.same;simp[h0])
  have t0:(a0==b0)=false:=by simpa using h0
  clear h0
  go_enter func37,ntmps37
  go_upto_region 1 with (first|(with_reducible refine aJ _ rfl 28 (.tmp 0) rfl _ rfl ?_)|(with_reducible refine aJ _ rfl 28 (.tmp 1) rfl _ rfl ?_))
  rw[HW.o]
  go_wp2_with fail
  go_ret
  exact⟨by rw[HS.o];rfl,HKK.o⟩
theorem bq.held {w:World} {F:List Nat} {v:Value} {l:List Int} (h:bq w F v l) (hl:l.length≤17592186044416):qg w F v l:=by
 obtain⟨A,c,g,h1,h2,h3,h5,h6⟩:=h
 exact⟨A,c,g,h1,h2,h3,hl,h5,h6⟩
theorem l6 (F G:List Nat) (c d:CF) (cv dv:Value) (w:World) (hc:bq w F cv c.chain) (hd:bq w G dv d.chain) (hbc:c.chain.length≤17592186044416) (hbd:d.chain.length≤17592186044416):
 Calls prog 38 #[.agg (bZ c cv).toArray,.agg (bZ d dv).toArray] w fun e w'=>e= .returned (.bool (c.same d))∧ag [] w w':=by
 obtain⟨r1,r2,kk⟩:=aC.two w 31 (bZ c cv).toArray (bZ d dv).toArray
 obtain⟨cn,cf,cl⟩:=c
 obtain⟨dn,df,dl⟩:=d
 unfold bZ at r1 r2 kk ⊢
 dsimp only at r1 r2 kk hc hd hbc hbd ⊢
 have hc2:=hc.keep kk (by simp)
 have hd2:=hd.keep kk (by simp)
 obtain⟨A,cc,g,rfl,_⟩:=id hc
 obtain⟨B,dc,h,rfl,_⟩:=id hd
 have HE:=aa (wX F G _ _ cl dl _ (hc2.held hbc) (hd2.held hbd))
 have HK:=aa kk
 clear hbc hbd r1 r2 kk hc2 hd2 hc hd
 by_cases h1:cn=dn
 ·subst h1
  by_cases h2:cf=df
  ·subst h2
   have HS:=aa (show CF.same ⟨cn,cf,cl⟩ ⟨cn,cf,dl⟩=decide (cl=dl) by simp[CF.same])
   go_enter func38,ntmps38
   go_wp2_with fail
   refine HE.o.mono ?_
   rintro e w' ⟨rfl,k⟩
   have HK2:=aa (HK.o.then k (by simp))
   clear k
   go_wp2_with fail
   go_ret
   exact⟨by rw[HS.o];rfl,HK2.o⟩
  ·have HS:=aa (show CF.same ⟨cn,cf,cl⟩ ⟨cn,df,dl⟩=false by simp[CF.same,h2])
   have t2:(cf==df)=false:=by simpa using h2
   clear h2
   go_enter func38,ntmps38
   go_wp2_with fail
   go_ret
   exact⟨by rw[HS.o];rfl,HK.o⟩
 ·have HS:=aa (show CF.same ⟨cn,cf,cl⟩ ⟨dn,df,dl⟩=false by simp[CF.same,h1])
  have t1:(cn==dn)=false:=by simpa using h1
  clear h1
  go_enter func38,ntmps38
  go_wp2_with fail
  go_ret
  exact⟨by rw[HS.o];rfl,HK.o⟩
end Go.Proofs.YthfdkonhjpdflaaGreatDoor
