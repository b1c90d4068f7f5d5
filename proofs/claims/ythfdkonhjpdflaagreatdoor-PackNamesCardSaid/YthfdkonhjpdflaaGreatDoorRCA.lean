import Derived.Test.YthfdkonhjpdflaaGreatDoorNK
import Derived.Test.YthfdkonhjpdflaaGreatDoorLow3
namespace Go.Proofs.YthfdkonhjpdflaaGreatDoor
open Go.RowKit Go.Proofs.Tryz
set_option linter.unusedVariables false
set_option maxRecDepth 100000
set_option linter.unusedSimpArgs false
set_option maxHeartbeats 4000000
theorem aA (n lo hi:Int) (w:World):Calls prog 67 #[.int .i64 n,.int .i64 lo,.int .i64 hi] w fun e w'=>e= .returned (.bool (qB n lo hi))∧w=w':=by
 go_enter func67,ntmps67
 by_cases a:lo≤n
 ·by_cases b:n≤hi
  ·go_wp2
   go_ret
   exact⟨by rw[OB ⟨a,b⟩];rfl,rfl⟩
  ·go_wp2
   go_ret
   exact⟨by rw[eB (fun h=>by omega)];rfl,rfl⟩
 ·go_wp2
  go_ret
  exact⟨by rw[eB (fun h=>by omega)];rfl,rfl⟩
theorem vD (n:Int) (w:World):Calls prog 69 #[.int .i64 n] w fun e w'=>e= .returned (.bool (qB n 0 9007199254740991))∧w=w':=by
 have HC:=U0 (aA n 0 9007199254740991 w)
 go_enter func69,ntmps69
 go_wp2_with (go_at_call 67;refine HC.o.mono ?_;rintro e w' ⟨rfl,rfl⟩)
 go_ret
 exact⟨rfl,rfl⟩
theorem bO (n:Int) (w:World):Calls prog 134 #[.int .i64 n] w fun e w'=>e= .returned (.bool (qB n 10 13))∧w=w':=by
 have HC:=U0 (aA n 10 13 w)
 go_enter func134,ntmps134
 go_wp2_with (go_at_call 67;refine HC.o.mono ?_;rintro e w' ⟨rfl,rfl⟩)
 go_ret
 exact⟨rfl,rfl⟩
theorem eD (b:Bool) (w:World):Calls prog 71 #[.bool b] w fun e w'=>e= .returned (.int .i64 (O9 b))∧w=w':=by
 cases b with
 |true=>
  go_enter func71,ntmps71
  go_wp2
  go_ret
  exact⟨rfl,rfl⟩
 |false=>
  go_enter func71,ntmps71
  go_wp2
  go_ret
  exact⟨rfl,rfl⟩
def lG (k:Int):Int:=if k=5 then -1 else 0
theorem bU (k:Int) (w:World):Calls prog 70 #[.int .i64 k] w fun e w'=>e= .returned (.int .i64 (lG k))∧w=w':=by
 by_cases h:k=5
 ·subst h
  go_enter func70,ntmps70
  go_wp2
  go_ret
  exact⟨rfl,rfl⟩
 ·have hb:(k==5)=false:=by simp[h]
  have HS:=U0 (show lG k=0 by unfold lG;rw[if_neg h])
  go_enter func70,ntmps70
  go_wp2
  go_ret
  exact⟨by rw[HS.o];rfl,rfl⟩
theorem ZW (n:Int) (w:World):Calls prog 68 #[.int .i64 n] w fun e w'=>e= .returned (.bool (WB n))∧w=w':=by
 have H1:=U0 (aA n 0 2 w)
 have H2:=U0 (bO n w)
 have H3:=U0 (aA n 20 22 w)
 have HS:=U0 (show WB n=(qB n 0 2||(qB n 10 13||qB n 20 22)) from rfl)
 generalize WB n=N at*
 generalize qB n 0 2=a at*
 generalize qB n 10 13=b at*
 generalize qB n 20 22=c at*
 cases a<;>cases b
 all_goals
  go_enter func68,ntmps68
  go_wp2_with (first
   |(go_at_call 67;with_reducible refine H1.o.mono ?_;rintro e w' ⟨rfl,rfl⟩)
   |(go_at_call 134;refine H2.o.mono ?_;rintro e w' ⟨rfl,rfl⟩)
   |(go_at_call 67;with_reducible refine H3.o.mono ?_;rintro e w' ⟨rfl,rfl⟩))
  go_ret
  exact⟨by rw[HS.o];rfl,rfl⟩
theorem inR (F:List Nat) (k:Int) (v:Value) (l:List Int) (w:World) (hl:NJ w F v l):
 Calls prog 124 #[.int .i64 k,v] w fun e w'=>e= .returned (.bool (l.contains k))∧U1 [] w w':=by
 obtain⟨A,c,g,rfl,h2,h3,h4,h5,h6⟩:=id hl
 clear h5 h6
 have HL:=U0 hl
 clear hl
 unfold maxLen at h3
 go_enter func124,ntmps124
 go_upto_region 3 with fail
 go_loopw [5] (fun v5 wx=>∃ i:Nat,i≤l.length∧v5= .int .i64 (i:Int)∧(l.take i).contains k=false∧U1 [] w wx) (fun v5 _=>l.length-(intOf v5).toNat)
 case atStart=>exact⟨0,by omega,rfl,by simp,U1.refl _ _⟩
 case round=>
  obtain⟨i,hi,rfl,ht,kk⟩:=hrel
  by_cases hlt:i<l.length
  ·obtain⟨-, -,ga,oa,x,rfl,hx,cx⟩:=(HL.o.keep kk (by simp)).cell i hlt
   have h1:(i:Int)<(l.length:Int):=by omega
   have HT:=U0 (U2 ht (U2 kk hx))
   clear ht kk hx
   by_cases hxy:x=k
   ·have t3:(x==k)=true:=by simpa using hxy
    have HXY:=U0 (show l.contains k=true by
     rw[List.contains_iff_mem]
     have e:=HT.o.2.2
     rw[hxy] at e
     exact List.mem_of_getElem? e)
    clear hxy
    go_wp2
    go_ret
    rw[HXY.o]
    exact⟨rfl,HT.o.2.1⟩
   ·have t3:(x==k)=false:=by simpa using hxy
    have HXY:=U0 (show (l.take (i+1)).contains k=false by
     rw[List.take_add_one,HT.o.2.2]
     have:=HT.o.1
     simp at this ⊢
     exact⟨this,fun e=>hxy e.symm⟩)
    clear hxy
    go_wp2
    go_roundw
    case rel=>exact⟨i+1,by omega,by go_num,HXY.o,HT.o.2.1⟩
    case measure=>simp[intOf];omega
  ·obtain rfl:i=l.length:=by omega
   rw[List.take_length] at ht
   have HE:=U0 (U2 ht kk)
   clear ht kk
   go_wp2
   go_ret
   rw[HE.o.1]
   exact⟨rfl,HE.o.2⟩
def gH:List Int:=[3,4,5,6,8]
def iH:List Int:=[3,4,5,6,10,11,12,13]
def DC:List Int:=[10,11,12,13,14]
def bG:List Int:=[1,3]
def UC:List Int:=[7,12]
theorem RH (k:Int) (w:World):Calls prog 53 #[.int .i64 k] w fun e w'=>e= .returned (.bool (gH.contains k))∧U1 [] w w':=by
 have HK:=U0 ((U1.refl [] w).alloc (.cells #[.int .i64 3,.int .i64 4,.int .i64 5,.int .i64 6,.int .i64 8] 3))
 have HC:V5 (Calls prog 124 #[.int .i64 k,.slice (some ⟨w.heap.size,0,none⟩) 5 5] (w.alloc (.cells #[.int .i64 3,.int .i64 4,.int .i64 5,.int .i64 6,.int .i64 8] 3)) fun e w'=>e= .returned (.bool (gH.contains k))∧U1 [] (w.alloc (.cells #[.int .i64 3,.int .i64 4,.int .i64 5,.int .i64 6,.int .i64 8] 3)) w'):=U0 (inR [w.heap.size] k (.slice (some ⟨w.heap.size,0,none⟩) 5 5) gH _ (NG w gH (by simp[gH])))
 go_enter func53,ntmps53
 go_wp2_with (go_at_call 124;refine HC.o.mono ?_;rintro e w' ⟨rfl,k2⟩;replace k2:=HK.o.then k2 (by simp);have HJ:=U0 k2;clear k2)
 go_ret
 rw[show gH.contains k=decide (k∈gH) from by simp]
 exact⟨rfl,HJ.o⟩
theorem SH (k:Int) (w:World):Calls prog 55 #[.int .i64 k] w fun e w'=>e= .returned (.bool (iH.contains k))∧U1 [] w w':=by
 have HK:=U0 ((U1.refl [] w).alloc (.cells #[.int .i64 3,.int .i64 4,.int .i64 5,.int .i64 6,.int .i64 10,.int .i64 11,.int .i64 12,.int .i64 13] 3))
 have HC:V5 (Calls prog 124 #[.int .i64 k,.slice (some ⟨w.heap.size,0,none⟩) 8 8] (w.alloc (.cells #[.int .i64 3,.int .i64 4,.int .i64 5,.int .i64 6,.int .i64 10,.int .i64 11,.int .i64 12,.int .i64 13] 3)) fun e w'=>e= .returned (.bool (iH.contains k))∧U1 [] (w.alloc (.cells #[.int .i64 3,.int .i64 4,.int .i64 5,.int .i64 6,.int .i64 10,.int .i64 11,.int .i64 12,.int .i64 13] 3)) w'):=U0 (inR [w.heap.size] k (.slice (some ⟨w.heap.size,0,none⟩) 8 8) iH _ (NG w iH (by simp[iH])))
 go_enter func55,ntmps55
 go_wp2_with (go_at_call 124;refine HC.o.mono ?_;rintro e w' ⟨rfl,k2⟩;replace k2:=HK.o.then k2 (by simp);have HJ:=U0 k2;clear k2)
 go_ret
 rw[show iH.contains k=decide (k∈iH) from by simp]
 exact⟨rfl,HJ.o⟩
theorem gF (k:Int) (w:World):Calls prog 56 #[.int .i64 k] w fun e w'=>e= .returned (.bool (DC.contains k))∧U1 [] w w':=by
 have HK:=U0 ((U1.refl [] w).alloc (.cells #[.int .i64 10,.int .i64 11,.int .i64 12,.int .i64 13,.int .i64 14] 3))
 have HC:V5 (Calls prog 124 #[.int .i64 k,.slice (some ⟨w.heap.size,0,none⟩) 5 5] (w.alloc (.cells #[.int .i64 10,.int .i64 11,.int .i64 12,.int .i64 13,.int .i64 14] 3)) fun e w'=>e= .returned (.bool (DC.contains k))∧U1 [] (w.alloc (.cells #[.int .i64 10,.int .i64 11,.int .i64 12,.int .i64 13,.int .i64 14] 3)) w'):=U0 (inR [w.heap.size] k (.slice (some ⟨w.heap.size,0,none⟩) 5 5) DC _ (NG w DC (by simp[DC])))
 go_enter func56,ntmps56
 go_wp2_with (go_at_call 124;refine HC.o.mono ?_;rintro e w' ⟨rfl,k2⟩;replace k2:=HK.o.then k2 (by simp);have HJ:=U0 k2;clear k2)
 go_ret
 rw[show DC.contains k=decide (k∈DC) from by simp]
 exact⟨rfl,HJ.o⟩
theorem OD (k:Int) (w:World):Calls prog 57 #[.int .i64 k] w fun e w'=>e= .returned (.bool (bG.contains k))∧U1 [] w w':=by
 have HK:=U0 ((U1.refl [] w).alloc (.cells #[.int .i64 1,.int .i64 3] 3))
 have HC:V5 (Calls prog 124 #[.int .i64 k,.slice (some ⟨w.heap.size,0,none⟩) 2 2] (w.alloc (.cells #[.int .i64 1,.int .i64 3] 3)) fun e w'=>e= .returned (.bool (bG.contains k))∧U1 [] (w.alloc (.cells #[.int .i64 1,.int .i64 3] 3)) w'):=U0 (inR [w.heap.size] k (.slice (some ⟨w.heap.size,0,none⟩) 2 2) bG _ (NG w bG (by simp[bG])))
 go_enter func57,ntmps57
 go_wp2_with (go_at_call 124;refine HC.o.mono ?_;rintro e w' ⟨rfl,k2⟩;replace k2:=HK.o.then k2 (by simp);have HJ:=U0 k2;clear k2)
 go_ret
 rw[show bG.contains k=decide (k∈bG) from by simp]
 exact⟨rfl,HJ.o⟩
theorem XF (k:Int) (w:World):Calls prog 59 #[.int .i64 k] w fun e w'=>e= .returned (.bool (UC.contains k))∧U1 [] w w':=by
 have HK:=U0 ((U1.refl [] w).alloc (.cells #[.int .i64 7,.int .i64 12] 3))
 have HC:V5 (Calls prog 124 #[.int .i64 k,.slice (some ⟨w.heap.size,0,none⟩) 2 2] (w.alloc (.cells #[.int .i64 7,.int .i64 12] 3)) fun e w'=>e= .returned (.bool (UC.contains k))∧U1 [] (w.alloc (.cells #[.int .i64 7,.int .i64 12] 3)) w'):=U0 (inR [w.heap.size] k (.slice (some ⟨w.heap.size,0,none⟩) 2 2) UC _ (NG w UC (by simp[UC])))
 go_enter func59,ntmps59
 go_wp2_with (go_at_call 124;refine HC.o.mono ?_;rintro e w' ⟨rfl,k2⟩;replace k2:=HK.o.then k2 (by simp);have HJ:=U0 k2;clear k2)
 go_ret
 rw[show UC.contains k=decide (k∈UC) from by simp]
 exact⟨rfl,HJ.o⟩
theorem iK (F G:List Nat) (r s:RQ) (ev ew:Value) (w:World) (hr:dH w F r ev) (hs:dH w G s ew):
 Calls prog 36 #[.agg (U8 r ev).toArray,.agg (U8 s ew).toArray] w fun e w'=>e= .returned (.bool (r.same s))∧U1 [] w w':=by
 obtain⟨r1,r2,kk⟩:=l5.two w 26 (U8 r ev).toArray (U8 s ew).toArray
 obtain⟨hn,A,c,g,rfl,_,_,sA,_⟩:=hr
 obtain⟨hm,B,d,h,rfl,_,_,sB,_⟩:=hs
 have H12:=U0 kk
 have sA2:=sA.keep kk (by simp)
 have sB2:=sB.keep kk (by simp)
 have xe:=(r1.cell 36).trans (WC hn)
 have ye:=(r2.cell 36).trans (WC hm)
 have xr:=r1.range (IE r (.slice A r.env.length c))
 have yr:=r2.range (IE s (.slice B s.env.length d))
 have x0:=r1.cell 0
 have y0:=r2.cell 0
 have x1:=r1.cell 1
 have y1:=r2.cell 1
 have x2:=r1.cell 2
 have y2:=r2.cell 2
 have x3:=r1.cell 3
 have y3:=r2.cell 3
 rw[show (U8 r (.slice A r.env.length c)).toArray[0]? =some (.int .i64 r.client) from rfl] at x0
 rw[show (U8 s (.slice B s.env.length d)).toArray[0]? =some (.int .i64 s.client) from rfl] at y0
 rw[show (U8 r (.slice A r.env.length c)).toArray[1]? =some (.int .i64 r.num) from rfl] at x1
 rw[show (U8 s (.slice B s.env.length d)).toArray[1]? =some (.int .i64 s.num) from rfl] at y1
 rw[show (U8 r (.slice A r.env.length c)).toArray[2]? =some (.int .i64 r.kind) from rfl] at x2
 rw[show (U8 s (.slice B s.env.length d)).toArray[2]? =some (.int .i64 s.kind) from rfl] at y2
 rw[show (U8 r (.slice A r.env.length c)).toArray[3]? =some (.int .i64 r.version) from rfl] at x3
 rw[show (U8 s (.slice B s.env.length d)).toArray[3]? =some (.int .i64 s.version) from rfl] at y3
 obtain⟨a0,a1,a2,a3,nr,er⟩:=r
 obtain⟨b0,b1,b2,b3,ns,es⟩:=s
 dsimp only at hn hm xr yr sA2 sB2 x0 y0 x1 y1 x2 y2 x3 y3 xe ye
 obtain⟨w2,hw2⟩:∃ w2,(w.alloc (.cells (U8 ⟨a0,a1,a2,a3,nr,er⟩ (.slice A er.length c)).toArray 26)).alloc (.cells (U8 ⟨b0,b1,b2,b3,ns,es⟩ (.slice B es.length d)).toArray 26)=w2:=⟨_,rfl⟩
 have HW:=U0 hw2
 have HN:=U0 (U2 hn hm)
 have HK:=H12.o
 dsimp only at HK
 rw[hw2] at HK sA2 sB2 xe ye xr yr x0 y0 x1 y1 x2 y2 x3 y3
 have HKK:=U0 HK
 have HX:=U0 (U2 xr yr)
 have HE:=U0 (YC A B g h c d er es w2 sA2 sB2)
 have HQ:=U0 (ZF nr ns hn hm w2)
 have HI:=U0 (show (prog.info? 23).map (·.size)=some (U7 nr).length by rw[A8,hn];exact xB)
 have HJ:=U0 (show (prog.info? 23).map (·.size)=some (U7 ns).length by rw[A8,hm];exact xB)
 clear H12 HK sA2 sB2 sA sB hn hm xr yr hw2 kk r1 r2
 by_cases h0:a0=b0
 ·subst h0
  by_cases h1:a1=b1
  ·subst h1
   by_cases h2:a2=b2
   ·subst h2
    by_cases h3:a3=b3
    ·subst h3
     by_cases hnm:nr=ns
     ·subst hnm
      have HS:=U0 (show RQ.same ⟨a0,a1,a2,a3,nr,er⟩ ⟨a0,a1,a2,a3,nr,es⟩=(er==es) by unfold RQ.same;simp)
      have hdn:decide (nr=nr)=true:=by simp
      rw[hdn] at HQ
      go_enter func36,ntmps36
      go_upto_region 1 with (first|(with_reducible refine Z5 _ rfl 26 (.tmp 0) rfl _ rfl ?_)|(with_reducible refine Z5 _ rfl 26 (.tmp 1) rfl _ rfl ?_))
      rw[HW.o]
      go_wp2_with (first|(refine j5 23 (.tmp 32) rfl w.heap.size 4 rfl (U7 nr) _ HX.o.1 underlying23 rfl HI.o ?_ ?_;·rfl)|(refine j5 23 (.tmp 34) rfl (w.heap.size+1) 4 rfl (U7 nr) _ HX.o.2 underlying23 rfl HJ.o ?_ ?_;·rfl)|(refine jA _ .eql 23 23 (.tmp 33) (.tmp 35) rfl YB (U7 nr).toArray (U7 nr).toArray rfl rfl _ HQ.o ?_ ?_;·rfl)|(go_at_call 11;refine HE.o.mono ?_;rintro e w' ⟨rfl,rfl⟩))
      go_ret
      exact⟨by rw[HS.o];rfl,HKK.o⟩
     ·have HS:=U0 (show RQ.same ⟨a0,a1,a2,a3,nr,er⟩ ⟨a0,a1,a2,a3,ns,es⟩=false by unfold RQ.same;simp[hnm])
      have hdn:decide (nr=ns)=false:=by simp[hnm]
      rw[hdn] at HQ
      clear hnm
      go_enter func36,ntmps36
      go_upto_region 1 with (first|(with_reducible refine Z5 _ rfl 26 (.tmp 0) rfl _ rfl ?_)|(with_reducible refine Z5 _ rfl 26 (.tmp 1) rfl _ rfl ?_))
      rw[HW.o]
      go_wp2_with (first|(refine j5 23 (.tmp 32) rfl w.heap.size 4 rfl (U7 nr) _ HX.o.1 underlying23 rfl HI.o ?_ ?_;·rfl)|(refine j5 23 (.tmp 34) rfl (w.heap.size+1) 4 rfl (U7 ns) _ HX.o.2 underlying23 rfl HJ.o ?_ ?_;·rfl)|(refine jA _ .eql 23 23 (.tmp 33) (.tmp 35) rfl YB (U7 nr).toArray (U7 ns).toArray rfl rfl _ HQ.o ?_ ?_;·rfl))
      go_ret
      exact⟨by rw[HS.o];rfl,HKK.o⟩
    ·have HS:=U0 (show RQ.same ⟨a0,a1,a2,a3,nr,er⟩ ⟨a0,a1,a2,b3,ns,es⟩=false by unfold RQ.same;simp[h3])
     have t3:(a3==b3)=false:=by simpa using h3
     clear h3
     go_enter func36,ntmps36
     go_upto_region 1 with (first|(with_reducible refine Z5 _ rfl 26 (.tmp 0) rfl _ rfl ?_)|(with_reducible refine Z5 _ rfl 26 (.tmp 1) rfl _ rfl ?_))
     rw[HW.o]
     go_wp2_with fail
     go_ret
     exact⟨by rw[HS.o];rfl,HKK.o⟩
   ·have HS:=U0 (show RQ.same ⟨a0,a1,a2,a3,nr,er⟩ ⟨a0,a1,b2,b3,ns,es⟩=false by unfold RQ.same;simp[h2])
    have t2:(a2==b2)=false:=by simpa using h2
    clear h2
    go_enter func36,ntmps36
    go_upto_region 1 with (first|(with_reducible refine Z5 _ rfl 26 (.tmp 0) rfl _ rfl ?_)|(with_reducible refine Z5 _ rfl 26 (.tmp 1) rfl _ rfl ?_))
    rw[HW.o]
    go_wp2_with fail
    go_ret
    exact⟨by rw[HS.o];rfl,HKK.o⟩
  ·have HS:=U0 (show RQ.same ⟨a0,a1,a2,a3,nr,er⟩ ⟨a0,b1,b2,b3,ns,es⟩=false by unfold RQ.same;simp[h1])
   have t1:(a1==b1)=false:=by simpa using h1
   clear h1
   go_enter func36,ntmps36
   go_upto_region 1 with (first|(with_reducible refine Z5 _ rfl 26 (.tmp 0) rfl _ rfl ?_)|(with_reducible refine Z5 _ rfl 26 (.tmp 1) rfl _ rfl ?_))
   rw[HW.o]
   go_wp2_with fail
   go_ret
   exact⟨by rw[HS.o];rfl,HKK.o⟩
 ·have HS:=U0 (show RQ.same ⟨a0,a1,a2,a3,nr,er⟩ ⟨b0,b1,b2,b3,ns,es⟩=false by unfold RQ.same;simp[h0])
  have t0:(a0==b0)=false:=by simpa using h0
  clear h0
  go_enter func36,ntmps36
  go_upto_region 1 with (first|(with_reducible refine Z5 _ rfl 26 (.tmp 0) rfl _ rfl ?_)|(with_reducible refine Z5 _ rfl 26 (.tmp 1) rfl _ rfl ?_))
  rw[HW.o]
  go_wp2_with fail
  go_ret
  exact⟨by rw[HS.o];rfl,HKK.o⟩
theorem gK (F G:List Nat) (r s:AN) (ev ew:Value) (w:World) (hr:BH w F r ev) (hs:BH w G s ew):
 Calls prog 37 #[.agg (x9 r ev).toArray,.agg (x9 s ew).toArray] w fun e w'=>e= .returned (.bool (r.same s))∧U1 [] w w':=by
 obtain⟨r1,r2,kk⟩:=l5.two w 28 (x9 r ev).toArray (x9 s ew).toArray
 obtain⟨hn,A,c,g,rfl,_,_,sA,_⟩:=hr
 obtain⟨hm,B,d,h,rfl,_,_,sB,_⟩:=hs
 have H12:=U0 kk
 have sA2:=sA.keep kk (by simp)
 have sB2:=sB.keep kk (by simp)
 have xe:=(r1.cell 37).trans (VC hn)
 have ye:=(r2.cell 37).trans (VC hm)
 have xr:=r1.range (UF r (.slice A r.env.length c))
 have yr:=r2.range (UF s (.slice B s.env.length d))
 have x0:=r1.cell 0
 have y0:=r2.cell 0
 have x1:=r1.cell 1
 have y1:=r2.cell 1
 have x2:=r1.cell 2
 have y2:=r2.cell 2
 have x3:=r1.cell 3
 have y3:=r2.cell 3
 have x4:=r1.cell 4
 have y4:=r2.cell 4
 rw[show (x9 r (.slice A r.env.length c)).toArray[0]? =some (.int .i64 r.client) from rfl] at x0
 rw[show (x9 s (.slice B s.env.length d)).toArray[0]? =some (.int .i64 s.client) from rfl] at y0
 rw[show (x9 r (.slice A r.env.length c)).toArray[1]? =some (.int .i64 r.num) from rfl] at x1
 rw[show (x9 s (.slice B s.env.length d)).toArray[1]? =some (.int .i64 s.num) from rfl] at y1
 rw[show (x9 r (.slice A r.env.length c)).toArray[2]? =some (.int .i64 r.code) from rfl] at x2
 rw[show (x9 s (.slice B s.env.length d)).toArray[2]? =some (.int .i64 s.code) from rfl] at y2
 rw[show (x9 r (.slice A r.env.length c)).toArray[3]? =some (.int .i64 r.version) from rfl] at x3
 rw[show (x9 s (.slice B s.env.length d)).toArray[3]? =some (.int .i64 s.version) from rfl] at y3
 rw[show (x9 r (.slice A r.env.length c)).toArray[4]? =some (.int .i64 r.epoch) from rfl] at x4
 rw[show (x9 s (.slice B s.env.length d)).toArray[4]? =some (.int .i64 s.epoch) from rfl] at y4
 obtain⟨a0,a1,a2,a3,a4,nr,er⟩:=r
 obtain⟨b0,b1,b2,b3,b4,ns,es⟩:=s
 dsimp only at hn hm xr yr sA2 sB2 x0 y0 x1 y1 x2 y2 x3 y3 x4 y4 xe ye
 obtain⟨w2,hw2⟩:∃ w2,(w.alloc (.cells (x9 ⟨a0,a1,a2,a3,a4,nr,er⟩ (.slice A er.length c)).toArray 28)).alloc (.cells (x9 ⟨b0,b1,b2,b3,b4,ns,es⟩ (.slice B es.length d)).toArray 28)=w2:=⟨_,rfl⟩
 have HW:=U0 hw2
 have HN:=U0 (U2 hn hm)
 have HK:=H12.o
 dsimp only at HK
 rw[hw2] at HK sA2 sB2 xe ye xr yr x0 y0 x1 y1 x2 y2 x3 y3 x4 y4
 have HKK:=U0 HK
 have HX:=U0 (U2 xr yr)
 have HE:=U0 (YC A B g h c d er es w2 sA2 sB2)
 have HQ:=U0 (ZF nr ns hn hm w2)
 have HI:=U0 (show (prog.info? 23).map (·.size)=some (U7 nr).length by rw[A8,hn];exact xB)
 have HJ:=U0 (show (prog.info? 23).map (·.size)=some (U7 ns).length by rw[A8,hm];exact xB)
 clear H12 HK sA2 sB2 sA sB hn hm xr yr hw2 kk r1 r2
 by_cases h0:a0=b0
 ·subst h0
  by_cases h1:a1=b1
  ·subst h1
   by_cases h2:a2=b2
   ·subst h2
    by_cases h3:a3=b3
    ·subst h3
     by_cases h4:a4=b4
     ·subst h4
      by_cases hnm:nr=ns
      ·subst hnm
       have HS:=U0 (show AN.same ⟨a0,a1,a2,a3,a4,nr,er⟩ ⟨a0,a1,a2,a3,a4,nr,es⟩=(er==es) by unfold AN.same;simp)
       have hdn:decide (nr=nr)=true:=by simp
       rw[hdn] at HQ
       go_enter func37,ntmps37
       go_upto_region 1 with (first|(with_reducible refine Z5 _ rfl 28 (.tmp 0) rfl _ rfl ?_)|(with_reducible refine Z5 _ rfl 28 (.tmp 1) rfl _ rfl ?_))
       rw[HW.o]
       go_wp2_with (first|(refine j5 23 (.tmp 39) rfl w.heap.size 5 rfl (U7 nr) _ HX.o.1 underlying23 rfl HI.o ?_ ?_;·rfl)|(refine j5 23 (.tmp 41) rfl (w.heap.size+1) 5 rfl (U7 nr) _ HX.o.2 underlying23 rfl HJ.o ?_ ?_;·rfl)|(refine jA _ .eql 23 23 (.tmp 40) (.tmp 42) rfl YB (U7 nr).toArray (U7 nr).toArray rfl rfl _ HQ.o ?_ ?_;·rfl)|(go_at_call 11;refine HE.o.mono ?_;rintro e w' ⟨rfl,rfl⟩))
       go_ret
       exact⟨by rw[HS.o];rfl,HKK.o⟩
      ·have HS:=U0 (show AN.same ⟨a0,a1,a2,a3,a4,nr,er⟩ ⟨a0,a1,a2,a3,a4,ns,es⟩=false by unfold AN.same;simp[hnm])
       have hdn:decide (nr=ns)=false:=by simp[hnm]
       rw[hdn] at HQ
       clear hnm
       go_enter func37,ntmps37
       go_upto_region 1 with (first|(with_reducible refine Z5 _ rfl 28 (.tmp 0) rfl _ rfl ?_)|(with_reducible refine Z5 _ rfl 28 (.tmp 1) rfl _ rfl ?_))
       rw[HW.o]
       go_wp2_with (first|(refine j5 23 (.tmp 39) rfl w.heap.size 5 rfl (U7 nr) _ HX.o.1 underlying23 rfl HI.o ?_ ?_;·rfl)|(refine j5 23 (.tmp 41) rfl (w.heap.size+1) 5 rfl (U7 ns) _ HX.o.2 underlying23 rfl HJ.o ?_ ?_;·rfl)|(refine jA _ .eql 23 23 (.tmp 40) (.tmp 42) rfl YB (U7 nr).toArray (U7 ns).toArray rfl rfl _ HQ.o ?_ ?_;·rfl))
       go_ret
       exact⟨by rw[HS.o];rfl,HKK.o⟩
     ·have HS:=U0 (show AN.same ⟨a0,a1,a2,a3,a4,nr,er⟩ ⟨a0,a1,a2,a3,b4,ns,es⟩=false by unfold AN.same;simp[h4])
      have t4:(a4==b4)=false:=by simpa using h4
      clear h4
      go_enter func37,ntmps37
      go_upto_region 1 with (first|(with_reducible refine Z5 _ rfl 28 (.tmp 0) rfl _ rfl ?_)|(with_reducible refine Z5 _ rfl 28 (.tmp 1) rfl _ rfl ?_))
      rw[HW.o]
      go_wp2_with fail
      go_ret
      exact⟨by rw[HS.o];rfl,HKK.o⟩
    ·have HS:=U0 (show AN.same ⟨a0,a1,a2,a3,a4,nr,er⟩ ⟨a0,a1,a2,b3,b4,ns,es⟩=false by unfold AN.same;simp[h3])
     have t3:(a3==b3)=false:=by simpa using h3
     clear h3
     go_enter func37,ntmps37
     go_upto_region 1 with (first|(with_reducible refine Z5 _ rfl 28 (.tmp 0) rfl _ rfl ?_)|(with_reducible refine Z5 _ rfl 28 (.tmp 1) rfl _ rfl ?_))
     rw[HW.o]
     go_wp2_with fail
     go_ret
     exact⟨by rw[HS.o];rfl,HKK.o⟩
   ·have HS:=U0 (show AN.same ⟨a0,a1,a2,a3,a4,nr,er⟩ ⟨a0,a1,b2,b3,b4,ns,es⟩=false by unfold AN.same;simp[h2])
    have t2:(a2==b2)=false:=by simpa using h2
    clear h2
    go_enter func37,ntmps37
    go_upto_region 1 with (first|(with_reducible refine Z5 _ rfl 28 (.tmp 0) rfl _ rfl ?_)|(with_reducible refine Z5 _ rfl 28 (.tmp 1) rfl _ rfl ?_))
    rw[HW.o]
    go_wp2_with fail
    go_ret
    exact⟨by rw[HS.o];rfl,HKK.o⟩
  ·have HS:=U0 (show AN.same ⟨a0,a1,a2,a3,a4,nr,er⟩ ⟨a0,b1,b2,b3,b4,ns,es⟩=false by unfold AN.same;simp[h1])
   have t1:(a1==b1)=false:=by simpa using h1
   clear h1
   go_enter func37,ntmps37
   go_upto_region 1 with (first|(with_reducible refine Z5 _ rfl 28 (.tmp 0) rfl _ rfl ?_)|(with_reducible refine Z5 _ rfl 28 (.tmp 1) rfl _ rfl ?_))
   rw[HW.o]
   go_wp2_with fail
   go_ret
   exact⟨by rw[HS.o];rfl,HKK.o⟩
 ·have HS:=U0 (show AN.same ⟨a0,a1,a2,a3,a4,nr,er⟩ ⟨b0,b1,b2,b3,b4,ns,es⟩=false by unfold AN.same;simp[h0])
  have t0:(a0==b0)=false:=by simpa using h0
  clear h0
  go_enter func37,ntmps37
  go_upto_region 1 with (first|(with_reducible refine Z5 _ rfl 28 (.tmp 0) rfl _ rfl ?_)|(with_reducible refine Z5 _ rfl 28 (.tmp 1) rfl _ rfl ?_))
  rw[HW.o]
  go_wp2_with fail
  go_ret
  exact⟨by rw[HS.o];rfl,HKK.o⟩
theorem F8.held {w:World} {F:List Nat} {v:Value} {l:List Int} (h:F8 w F v l) (hl:l.length≤17592186044416):NJ w F v l:=by
 obtain⟨A,c,g,h1,h2,h3,h5,h6⟩:=h
 exact⟨A,c,g,h1,h2,h3,hl,h5,h6⟩
theorem eH (F G:List Nat) (c d:CF) (cv dv:Value) (w:World) (hc:F8 w F cv c.chain) (hd:F8 w G dv d.chain) (hbc:c.chain.length≤17592186044416) (hbd:d.chain.length≤17592186044416):
 Calls prog 38 #[.agg (bA c cv).toArray,.agg (bA d dv).toArray] w fun e w'=>e= .returned (.bool (c.same d))∧U1 [] w w':=by
 obtain⟨r1,r2,kk⟩:=l5.two w 31 (bA c cv).toArray (bA d dv).toArray
 obtain⟨cn,cf,cl⟩:=c
 obtain⟨dn,df,dl⟩:=d
 unfold bA at r1 r2 kk ⊢
 dsimp only at r1 r2 kk hc hd hbc hbd ⊢
 have hc2:=hc.keep kk (by simp)
 have hd2:=hd.keep kk (by simp)
 obtain⟨A,cc,g,rfl,_⟩:=id hc
 obtain⟨B,dc,h,rfl,_⟩:=id hd
 have HE:=U0 (YO F G _ _ cl dl _ (hc2.held hbc) (hd2.held hbd))
 have HK:=U0 kk
 clear hbc hbd r1 r2 kk hc2 hd2 hc hd
 by_cases h1:cn=dn
 ·subst h1
  by_cases h2:cf=df
  ·subst h2
   have HS:=U0 (show CF.same ⟨cn,cf,cl⟩ ⟨cn,cf,dl⟩=decide (cl=dl) by simp[CF.same])
   go_enter func38,ntmps38
   go_wp2_with fail
   refine HE.o.mono ?_
   rintro e w' ⟨rfl,k⟩
   have HK2:=U0 (HK.o.then k (by simp))
   clear k
   go_wp2_with fail
   go_ret
   exact⟨by rw[HS.o];rfl,HK2.o⟩
  ·have HS:=U0 (show CF.same ⟨cn,cf,cl⟩ ⟨cn,df,dl⟩=false by simp[CF.same,h2])
   have t2:(cf==df)=false:=by simpa using h2
   clear h2
   go_enter func38,ntmps38
   go_wp2_with fail
   go_ret
   exact⟨by rw[HS.o];rfl,HK.o⟩
 ·have HS:=U0 (show CF.same ⟨cn,cf,cl⟩ ⟨dn,df,dl⟩=false by simp[CF.same,h1])
  have t1:(cn==dn)=false:=by simpa using h1
  clear h1
  go_enter func38,ntmps38
  go_wp2_with fail
  go_ret
  exact⟨by rw[HS.o];rfl,HK.o⟩
end Go.Proofs.YthfdkonhjpdflaaGreatDoor
