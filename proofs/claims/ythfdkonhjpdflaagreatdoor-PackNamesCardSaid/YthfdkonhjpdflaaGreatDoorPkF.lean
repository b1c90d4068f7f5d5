import Derived.Test.YthfdkonhjpdflaaGreatDoorPkB
import Derived.Test.YthfdkonhjpdflaaGreatDoorLow3
namespace Go.Proofs.YthfdkonhjpdflaaGreatDoor
open Go.RowKit Go.Proofs.Tryz
set_option linter.unusedVariables false
set_option maxRecDepth 100000
set_option maxHeartbeats 4000000
theorem KN (bit:Int) (x:Int) (w:World):
 Calls prog 127 #[.int .i64 bit,.int .i64 x] w fun e w'=>e= .returned (if bit=0 then .int .i64 0 else .int .i64 x)∧w=w':=by
 by_cases hb:bit=0
 ·subst hb
  go_enter func127,ntmps127
  go_wp2
  go_ret
  exact⟨rfl,rfl⟩
 ·have hb1:(bit==0)=false:=by simpa using hb
  rw[if_neg hb]
  clear hb
  go_enter func127,ntmps127
  go_wp2
  go_ret
  exact⟨rfl,rfl⟩
theorem fM (bit:Int) (x:Bool) (w:World):
 Calls prog 128 #[.int .i64 bit,.bool x] w fun e w'=>e= .returned (if bit=0 then .bool false else .bool x)∧w=w':=by
 by_cases hb:bit=0
 ·subst hb
  go_enter func128,ntmps128
  go_wp2
  go_ret
  exact⟨rfl,rfl⟩
 ·have hb1:(bit==0)=false:=by simpa using hb
  rw[if_neg hb]
  clear hb
  go_enter func128,ntmps128
  go_wp2
  go_ret
  exact⟨rfl,rfl⟩
theorem BK (bit:Int) (A:Option Addr) (n c:Nat) (w:World):
 Calls prog 132 #[.int .i64 bit,.slice A n c] w fun e w'=>e= .returned (if bit=0 then .slice none 0 0 else .slice A n c)∧w=w':=by
 by_cases hb:bit=0
 ·subst hb
  go_enter func132,ntmps132
  go_wp2
  go_ret
  exact⟨rfl,rfl⟩
 ·have hb1:(bit==0)=false:=by simpa using hb
  rw[if_neg hb]
  clear hb
  go_enter func132,ntmps132
  go_wp2
  go_ret
  exact⟨rfl,rfl⟩
theorem zK (bit:Int) (A:Option Addr) (n c:Nat) (w:World):
 Calls prog 133 #[.int .i64 bit,.slice A n c] w fun e w'=>e= .returned (if bit=0 then .slice none 0 0 else .slice A n c)∧w=w':=by
 by_cases hb:bit=0
 ·subst hb
  go_enter func133,ntmps133
  go_wp2
  go_ret
  exact⟨rfl,rfl⟩
 ·have hb1:(bit==0)=false:=by simpa using hb
  rw[if_neg hb]
  clear hb
  go_enter func133,ntmps133
  go_wp2
  go_ret
  exact⟨rfl,rfl⟩
theorem fB (r:RQ) {ev:Value} (he:ev.oneCell'=true):∀ v∈U8 r ev,v.oneCell'=true:=by
 intro v hv
 simp only[U8,U7,List.mem_cons,List.mem_append,List.mem_map,List.not_mem_nil,or_false] at hv
 rcases hv with rfl|rfl|rfl|rfl|⟨b,_,rfl⟩|rfl
 all_goals first|rfl|exact he
def I7:RQ:=⟨0,0,0,0,List.replicate 32 0,[]⟩
theorem dI:(U8 I7 (.slice none 0 0)).toArray= #[.int .i64 0,.int .i64 0,.int .i64 0,.int .i64 0,.int .u8 0,.int .u8 0,.int .u8 0,.int .u8 0,.int .u8 0,.int .u8 0,.int .u8 0,.int .u8 0,.int .u8 0,.int .u8 0,.int .u8 0,.int .u8 0,.int .u8 0,.int .u8 0,.int .u8 0,.int .u8 0,.int .u8 0,.int .u8 0,.int .u8 0,.int .u8 0,.int .u8 0,.int .u8 0,.int .u8 0,.int .u8 0,.int .u8 0,.int .u8 0,.int .u8 0,.int .u8 0,.int .u8 0,.int .u8 0,.int .u8 0,.int .u8 0,.slice none 0 0]:=rfl
theorem D9:(prog.info? 26).map (·.size)=some 37:=by kernel_rfl
theorem MN (bit:Int) (r:RQ) (ev:Value) (w:World) (hn:r.name.length=32) (he:ev.oneCell'=true):
 Calls prog 129 #[.int .i64 bit,.agg (U8 r ev).toArray] w fun e w'=>e= .returned (.agg (if bit=0 then U8 I7 (.slice none 0 0) else U8 r ev).toArray)∧U1 [] w w':=by
 have hsz:(U8 r ev).length=37:=O8 hn
 have ho:=fB r he
 have k1:=(U1.refl [] w).alloc (.cells (U8 r ev).toArray 26)
 have k2:=(U1.refl [] (w.alloc (.cells (U8 r ev).toArray 26))).alloc (.cells #[.int .i64 0,.int .i64 0,.int .i64 0,.int .i64 0,.int .u8 0,.int .u8 0,.int .u8 0,.int .u8 0,.int .u8 0,.int .u8 0,.int .u8 0,.int .u8 0,.int .u8 0,.int .u8 0,.int .u8 0,.int .u8 0,.int .u8 0,.int .u8 0,.int .u8 0,.int .u8 0,.int .u8 0,.int .u8 0,.int .u8 0,.int .u8 0,.int .u8 0,.int .u8 0,.int .u8 0,.int .u8 0,.int .u8 0,.int .u8 0,.int .u8 0,.int .u8 0,.int .u8 0,.int .u8 0,.int .u8 0,.int .u8 0,.slice none 0 0] 26)
 have k3:=(U1.refl [] ((w.alloc (.cells (U8 r ev).toArray 26)).alloc (.cells #[.int .i64 0,.int .i64 0,.int .i64 0,.int .i64 0,.int .u8 0,.int .u8 0,.int .u8 0,.int .u8 0,.int .u8 0,.int .u8 0,.int .u8 0,.int .u8 0,.int .u8 0,.int .u8 0,.int .u8 0,.int .u8 0,.int .u8 0,.int .u8 0,.int .u8 0,.int .u8 0,.int .u8 0,.int .u8 0,.int .u8 0,.int .u8 0,.int .u8 0,.int .u8 0,.int .u8 0,.int .u8 0,.int .u8 0,.int .u8 0,.int .u8 0,.int .u8 0,.int .u8 0,.int .u8 0,.int .u8 0,.int .u8 0,.slice none 0 0] 26))).alloc (.cells #[.int .i64 0,.int .i64 0,.int .i64 0,.int .i64 0,.int .u8 0,.int .u8 0,.int .u8 0,.int .u8 0,.int .u8 0,.int .u8 0,.int .u8 0,.int .u8 0,.int .u8 0,.int .u8 0,.int .u8 0,.int .u8 0,.int .u8 0,.int .u8 0,.int .u8 0,.int .u8 0,.int .u8 0,.int .u8 0,.int .u8 0,.int .u8 0,.int .u8 0,.int .u8 0,.int .u8 0,.int .u8 0,.int .u8 0,.int .u8 0,.int .u8 0,.int .u8 0,.int .u8 0,.int .u8 0,.int .u8 0,.int .u8 0,.slice none 0 0] 26)
 have r1:=k3.row (k2.row (l5.new w 26 (U8 r ev).toArray) (by simp)) (by simp)
 have r2:=k3.row (l5.new (w.alloc (.cells (U8 r ev).toArray 26)) 26 #[.int .i64 0,.int .i64 0,.int .i64 0,.int .i64 0,.int .u8 0,.int .u8 0,.int .u8 0,.int .u8 0,.int .u8 0,.int .u8 0,.int .u8 0,.int .u8 0,.int .u8 0,.int .u8 0,.int .u8 0,.int .u8 0,.int .u8 0,.int .u8 0,.int .u8 0,.int .u8 0,.int .u8 0,.int .u8 0,.int .u8 0,.int .u8 0,.int .u8 0,.int .u8 0,.int .u8 0,.int .u8 0,.int .u8 0,.int .u8 0,.int .u8 0,.int .u8 0,.int .u8 0,.int .u8 0,.int .u8 0,.int .u8 0,.slice none 0 0]) (by simp)
 have r3:=l5.new ((w.alloc (.cells (U8 r ev).toArray 26)).alloc (.cells #[.int .i64 0,.int .i64 0,.int .i64 0,.int .i64 0,.int .u8 0,.int .u8 0,.int .u8 0,.int .u8 0,.int .u8 0,.int .u8 0,.int .u8 0,.int .u8 0,.int .u8 0,.int .u8 0,.int .u8 0,.int .u8 0,.int .u8 0,.int .u8 0,.int .u8 0,.int .u8 0,.int .u8 0,.int .u8 0,.int .u8 0,.int .u8 0,.int .u8 0,.int .u8 0,.int .u8 0,.int .u8 0,.int .u8 0,.int .u8 0,.int .u8 0,.int .u8 0,.int .u8 0,.int .u8 0,.int .u8 0,.int .u8 0,.slice none 0 0] 26)) 26 #[.int .i64 0,.int .i64 0,.int .i64 0,.int .i64 0,.int .u8 0,.int .u8 0,.int .u8 0,.int .u8 0,.int .u8 0,.int .u8 0,.int .u8 0,.int .u8 0,.int .u8 0,.int .u8 0,.int .u8 0,.int .u8 0,.int .u8 0,.int .u8 0,.int .u8 0,.int .u8 0,.int .u8 0,.int .u8 0,.int .u8 0,.int .u8 0,.int .u8 0,.int .u8 0,.int .u8 0,.int .u8 0,.int .u8 0,.int .u8 0,.int .u8 0,.int .u8 0,.int .u8 0,.int .u8 0,.int .u8 0,.int .u8 0,.slice none 0 0]
 have kk:=(k1.then k2 (by simp)).then k3 (by simp)
 rw[World.size_alloc] at r2
 rw[World.size_alloc,World.size_alloc] at r3
 obtain⟨w3,hw3⟩:∃ w3,((w.alloc (.cells (U8 r ev).toArray 26)).alloc (.cells #[.int .i64 0,.int .i64 0,.int .i64 0,.int .i64 0,.int .u8 0,.int .u8 0,.int .u8 0,.int .u8 0,.int .u8 0,.int .u8 0,.int .u8 0,.int .u8 0,.int .u8 0,.int .u8 0,.int .u8 0,.int .u8 0,.int .u8 0,.int .u8 0,.int .u8 0,.int .u8 0,.int .u8 0,.int .u8 0,.int .u8 0,.int .u8 0,.int .u8 0,.int .u8 0,.int .u8 0,.int .u8 0,.int .u8 0,.int .u8 0,.int .u8 0,.int .u8 0,.int .u8 0,.int .u8 0,.int .u8 0,.int .u8 0,.slice none 0 0] 26)).alloc (.cells #[.int .i64 0,.int .i64 0,.int .i64 0,.int .i64 0,.int .u8 0,.int .u8 0,.int .u8 0,.int .u8 0,.int .u8 0,.int .u8 0,.int .u8 0,.int .u8 0,.int .u8 0,.int .u8 0,.int .u8 0,.int .u8 0,.int .u8 0,.int .u8 0,.int .u8 0,.int .u8 0,.int .u8 0,.int .u8 0,.int .u8 0,.int .u8 0,.int .u8 0,.int .u8 0,.int .u8 0,.int .u8 0,.int .u8 0,.int .u8 0,.int .u8 0,.int .u8 0,.int .u8 0,.int .u8 0,.int .u8 0,.int .u8 0,.slice none 0 0] 26)=w3:=⟨_,rfl⟩
 rw[hw3] at r1 r2 r3 kk
 have HW:=U0 hw3
 have HR:=U0 (U2 r1 (U2 r2 (U2 r3 kk)))
 have HZ:=U0 (U2 hsz ho)
 clear k1 k2 k3 r1 r2 r3 kk hw3 hsz ho
 by_cases hb:bit=0
 ·subst hb
  have rz:w3.rangeAt (w.heap.size+1+1) 0 (U8 I7 (.slice none 0 0)):=l5.rangeAll (t:=26) (by rw[dI];exact HR.o.2.2.1)
  have hzl:(U8 I7 (.slice none 0 0)).length=37:=O8 (by rw[show I7.name=List.replicate 32 0 from rfl,List.length_replicate])
  have rs:=HR.o.2.1.setL (vs:=U8 I7 (.slice none 0 0)) (o:=0)
  rw[F7 (by rw[hzl];rfl)] at rs
  have ks:=HR.o.2.2.2.setL (vs:=U8 I7 (.slice none 0 0)) (g:=w.heap.size+1) (o:=0) (by simp)
  have ht:=HR.o.2.1.there (o:=0) (n:=(U8 I7 (.slice none 0 0)).toArray.size) (by rw[U4,hzl];exact Nat.le_refl _)
  have hI0:(prog.info? 26).map (·.size)=some (U8 I7 (.slice none 0 0)).length:=by rw[hzl];exact D9
  have hJ0:(prog.info? 26).map (·.size)=some (U8 I7 (.slice none 0 0)).toArray.size:=by rw[U4];exact hI0
  have HS:=U0 (U2 rz (U2 rs (U2 ks (U2 ht (U2 hI0 hJ0)))))
  have HC:=U0 (all_oneCell_toArray (fB I7 (ev:= .slice none 0 0) rfl))
  obtain⟨zl,hzle⟩:∃ zl,U8 I7 (.slice none 0 0)=zl:=⟨_,rfl⟩
  rw[hzle] at HS HC rz rs ks ht hI0 hJ0
  have HE:=U0 hzle
  clear hzl hI0 hJ0 hzle
  clear rz rs ks ht
  go_enter func129,ntmps129
  go_upto_region 2 with (with_reducible refine Z5 _ rfl 26 (.tmp 1) rfl _ rfl ?_)
  rw[HW.o]
  go_wp2_with (first
   |(refine wpList_load_mid rfl 26 (.tmp 5) rfl (w.heap.size+1+1) 0 rfl zl _ HS.o.1 underlying26 rfl HS.o.2.2.2.2.1 ?_)
   |(refine wpList_store_mid rfl 26 (.tmp 4) (.tmp 8) rfl (w.heap.size+1) 0 zl.toArray rfl rfl HS.o.2.2.2.1 HS.o.2.2.2.2.2 HC.o ?_))
  refine bodyPost_ret (results_cell_row rfl _ _ (w.heap.size+1) 26 _ (0,0) _ rfl HS.o.2.1 underlying26 rfl HS.o.2.2.2.2.2) rfl ?_
  exact⟨by rw[←HE.o],HS.o.2.2.1⟩
 ·have rz:=HR.o.1.rangeAll
  have rs:=HR.o.2.1.setL (vs:=U8 r ev) (o:=0)
  rw[F7 (by rw[HZ.o.1];rfl)] at rs
  have ks:=HR.o.2.2.2.setL (vs:=U8 r ev) (g:=w.heap.size+1) (o:=0) (by simp)
  have ht:=HR.o.2.1.there (o:=0) (n:=(U8 r ev).toArray.size) (by rw[U4,HZ.o.1];exact Nat.le_refl _)
  have hI:(prog.info? 26).map (·.size)=some (U8 r ev).length:=by rw[HZ.o.1];exact D9
  have hJ:(prog.info? 26).map (·.size)=some (U8 r ev).toArray.size:=by rw[U4];exact hI
  have HS:=U0 (U2 rz (U2 rs (U2 ks (U2 ht (U2 hI hJ)))))
  have hb1:(bit==0)=false:=by simpa using hb
  have HC:=U0 (all_oneCell_toArray HZ.o.2)
  clear rz rs ks ht hI hJ
  rw[if_neg hb]
  clear hb
  go_enter func129,ntmps129
  go_upto_region 2 with (with_reducible refine Z5 _ rfl 26 (.tmp 1) rfl _ rfl ?_)
  rw[HW.o]
  go_wp2_with (first
   |(refine wpList_load_mid rfl 26 (.tmp 3) rfl w.heap.size 0 rfl (U8 r ev) _ HS.o.1 underlying26 rfl HS.o.2.2.2.2.1 ?_)
   |(refine wpList_store_mid rfl 26 (.tmp 4) (.tmp 9) rfl (w.heap.size+1) 0 (U8 r ev).toArray rfl rfl HS.o.2.2.2.1 HS.o.2.2.2.2.2 HC.o ?_))
  refine bodyPost_ret (results_cell_row rfl _ _ (w.heap.size+1) 26 _ (0,0) _ rfl HS.o.2.1 underlying26 rfl HS.o.2.2.2.2.2) rfl ?_
  exact⟨rfl,HS.o.2.2.1⟩
theorem IB (r:AN) {ev:Value} (he:ev.oneCell'=true):∀ v∈x9 r ev,v.oneCell'=true:=by
 intro v hv
 simp only[x9,U7,List.mem_cons,List.mem_append,List.mem_map,List.not_mem_nil,or_false] at hv
 rcases hv with rfl|rfl|rfl|rfl|rfl|⟨b,_,rfl⟩|rfl
 all_goals first|rfl|exact he
def l8:AN:=⟨0,0,0,0,0,List.replicate 32 0,[]⟩
theorem JL:(x9 l8 (.slice none 0 0)).toArray= #[.int .i64 0,.int .i64 0,.int .i64 0,.int .i64 0,.int .i64 0,.int .u8 0,.int .u8 0,.int .u8 0,.int .u8 0,.int .u8 0,.int .u8 0,.int .u8 0,.int .u8 0,.int .u8 0,.int .u8 0,.int .u8 0,.int .u8 0,.int .u8 0,.int .u8 0,.int .u8 0,.int .u8 0,.int .u8 0,.int .u8 0,.int .u8 0,.int .u8 0,.int .u8 0,.int .u8 0,.int .u8 0,.int .u8 0,.int .u8 0,.int .u8 0,.int .u8 0,.int .u8 0,.int .u8 0,.int .u8 0,.int .u8 0,.int .u8 0,.slice none 0 0]:=rfl
theorem Q9:(prog.info? 28).map (·.size)=some 38:=by kernel_rfl
theorem JN (bit:Int) (r:AN) (ev:Value) (w:World) (hn:r.name.length=32) (he:ev.oneCell'=true):
 Calls prog 130 #[.int .i64 bit,.agg (x9 r ev).toArray] w fun e w'=>e= .returned (.agg (if bit=0 then x9 l8 (.slice none 0 0) else x9 r ev).toArray)∧U1 [] w w':=by
 have hsz:(x9 r ev).length=38:=y9 hn
 have ho:=IB r he
 have k1:=(U1.refl [] w).alloc (.cells (x9 r ev).toArray 28)
 have k2:=(U1.refl [] (w.alloc (.cells (x9 r ev).toArray 28))).alloc (.cells #[.int .i64 0,.int .i64 0,.int .i64 0,.int .i64 0,.int .i64 0,.int .u8 0,.int .u8 0,.int .u8 0,.int .u8 0,.int .u8 0,.int .u8 0,.int .u8 0,.int .u8 0,.int .u8 0,.int .u8 0,.int .u8 0,.int .u8 0,.int .u8 0,.int .u8 0,.int .u8 0,.int .u8 0,.int .u8 0,.int .u8 0,.int .u8 0,.int .u8 0,.int .u8 0,.int .u8 0,.int .u8 0,.int .u8 0,.int .u8 0,.int .u8 0,.int .u8 0,.int .u8 0,.int .u8 0,.int .u8 0,.int .u8 0,.int .u8 0,.slice none 0 0] 28)
 have k3:=(U1.refl [] ((w.alloc (.cells (x9 r ev).toArray 28)).alloc (.cells #[.int .i64 0,.int .i64 0,.int .i64 0,.int .i64 0,.int .i64 0,.int .u8 0,.int .u8 0,.int .u8 0,.int .u8 0,.int .u8 0,.int .u8 0,.int .u8 0,.int .u8 0,.int .u8 0,.int .u8 0,.int .u8 0,.int .u8 0,.int .u8 0,.int .u8 0,.int .u8 0,.int .u8 0,.int .u8 0,.int .u8 0,.int .u8 0,.int .u8 0,.int .u8 0,.int .u8 0,.int .u8 0,.int .u8 0,.int .u8 0,.int .u8 0,.int .u8 0,.int .u8 0,.int .u8 0,.int .u8 0,.int .u8 0,.int .u8 0,.slice none 0 0] 28))).alloc (.cells #[.int .i64 0,.int .i64 0,.int .i64 0,.int .i64 0,.int .i64 0,.int .u8 0,.int .u8 0,.int .u8 0,.int .u8 0,.int .u8 0,.int .u8 0,.int .u8 0,.int .u8 0,.int .u8 0,.int .u8 0,.int .u8 0,.int .u8 0,.int .u8 0,.int .u8 0,.int .u8 0,.int .u8 0,.int .u8 0,.int .u8 0,.int .u8 0,.int .u8 0,.int .u8 0,.int .u8 0,.int .u8 0,.int .u8 0,.int .u8 0,.int .u8 0,.int .u8 0,.int .u8 0,.int .u8 0,.int .u8 0,.int .u8 0,.int .u8 0,.slice none 0 0] 28)
 have r1:=k3.row (k2.row (l5.new w 28 (x9 r ev).toArray) (by simp)) (by simp)
 have r2:=k3.row (l5.new (w.alloc (.cells (x9 r ev).toArray 28)) 28 #[.int .i64 0,.int .i64 0,.int .i64 0,.int .i64 0,.int .i64 0,.int .u8 0,.int .u8 0,.int .u8 0,.int .u8 0,.int .u8 0,.int .u8 0,.int .u8 0,.int .u8 0,.int .u8 0,.int .u8 0,.int .u8 0,.int .u8 0,.int .u8 0,.int .u8 0,.int .u8 0,.int .u8 0,.int .u8 0,.int .u8 0,.int .u8 0,.int .u8 0,.int .u8 0,.int .u8 0,.int .u8 0,.int .u8 0,.int .u8 0,.int .u8 0,.int .u8 0,.int .u8 0,.int .u8 0,.int .u8 0,.int .u8 0,.int .u8 0,.slice none 0 0]) (by simp)
 have r3:=l5.new ((w.alloc (.cells (x9 r ev).toArray 28)).alloc (.cells #[.int .i64 0,.int .i64 0,.int .i64 0,.int .i64 0,.int .i64 0,.int .u8 0,.int .u8 0,.int .u8 0,.int .u8 0,.int .u8 0,.int .u8 0,.int .u8 0,.int .u8 0,.int .u8 0,.int .u8 0,.int .u8 0,.int .u8 0,.int .u8 0,.int .u8 0,.int .u8 0,.int .u8 0,.int .u8 0,.int .u8 0,.int .u8 0,.int .u8 0,.int .u8 0,.int .u8 0,.int .u8 0,.int .u8 0,.int .u8 0,.int .u8 0,.int .u8 0,.int .u8 0,.int .u8 0,.int .u8 0,.int .u8 0,.int .u8 0,.slice none 0 0] 28)) 28 #[.int .i64 0,.int .i64 0,.int .i64 0,.int .i64 0,.int .i64 0,.int .u8 0,.int .u8 0,.int .u8 0,.int .u8 0,.int .u8 0,.int .u8 0,.int .u8 0,.int .u8 0,.int .u8 0,.int .u8 0,.int .u8 0,.int .u8 0,.int .u8 0,.int .u8 0,.int .u8 0,.int .u8 0,.int .u8 0,.int .u8 0,.int .u8 0,.int .u8 0,.int .u8 0,.int .u8 0,.int .u8 0,.int .u8 0,.int .u8 0,.int .u8 0,.int .u8 0,.int .u8 0,.int .u8 0,.int .u8 0,.int .u8 0,.int .u8 0,.slice none 0 0]
 have kk:=(k1.then k2 (by simp)).then k3 (by simp)
 rw[World.size_alloc] at r2
 rw[World.size_alloc,World.size_alloc] at r3
 obtain⟨w3,hw3⟩:∃ w3,((w.alloc (.cells (x9 r ev).toArray 28)).alloc (.cells #[.int .i64 0,.int .i64 0,.int .i64 0,.int .i64 0,.int .i64 0,.int .u8 0,.int .u8 0,.int .u8 0,.int .u8 0,.int .u8 0,.int .u8 0,.int .u8 0,.int .u8 0,.int .u8 0,.int .u8 0,.int .u8 0,.int .u8 0,.int .u8 0,.int .u8 0,.int .u8 0,.int .u8 0,.int .u8 0,.int .u8 0,.int .u8 0,.int .u8 0,.int .u8 0,.int .u8 0,.int .u8 0,.int .u8 0,.int .u8 0,.int .u8 0,.int .u8 0,.int .u8 0,.int .u8 0,.int .u8 0,.int .u8 0,.int .u8 0,.slice none 0 0] 28)).alloc (.cells #[.int .i64 0,.int .i64 0,.int .i64 0,.int .i64 0,.int .i64 0,.int .u8 0,.int .u8 0,.int .u8 0,.int .u8 0,.int .u8 0,.int .u8 0,.int .u8 0,.int .u8 0,.int .u8 0,.int .u8 0,.int .u8 0,.int .u8 0,.int .u8 0,.int .u8 0,.int .u8 0,.int .u8 0,.int .u8 0,.int .u8 0,.int .u8 0,.int .u8 0,.int .u8 0,.int .u8 0,.int .u8 0,.int .u8 0,.int .u8 0,.int .u8 0,.int .u8 0,.int .u8 0,.int .u8 0,.int .u8 0,.int .u8 0,.int .u8 0,.slice none 0 0] 28)=w3:=⟨_,rfl⟩
 rw[hw3] at r1 r2 r3 kk
 have HW:=U0 hw3
 have HR:=U0 (U2 r1 (U2 r2 (U2 r3 kk)))
 have HZ:=U0 (U2 hsz ho)
 clear k1 k2 k3 r1 r2 r3 kk hw3 hsz ho
 by_cases hb:bit=0
 ·subst hb
  have rz:w3.rangeAt (w.heap.size+1+1) 0 (x9 l8 (.slice none 0 0)):=l5.rangeAll (t:=28) (by rw[JL];exact HR.o.2.2.1)
  have hzl:(x9 l8 (.slice none 0 0)).length=38:=y9 (by rw[show l8.name=List.replicate 32 0 from rfl,List.length_replicate])
  have rs:=HR.o.2.1.setL (vs:=x9 l8 (.slice none 0 0)) (o:=0)
  rw[F7 (by rw[hzl];rfl)] at rs
  have ks:=HR.o.2.2.2.setL (vs:=x9 l8 (.slice none 0 0)) (g:=w.heap.size+1) (o:=0) (by simp)
  have ht:=HR.o.2.1.there (o:=0) (n:=(x9 l8 (.slice none 0 0)).toArray.size) (by rw[U4,hzl];exact Nat.le_refl _)
  have hI0:(prog.info? 28).map (·.size)=some (x9 l8 (.slice none 0 0)).length:=by rw[hzl];exact Q9
  have hJ0:(prog.info? 28).map (·.size)=some (x9 l8 (.slice none 0 0)).toArray.size:=by rw[U4];exact hI0
  have HS:=U0 (U2 rz (U2 rs (U2 ks (U2 ht (U2 hI0 hJ0)))))
  have HC:=U0 (all_oneCell_toArray (IB l8 (ev:= .slice none 0 0) rfl))
  obtain⟨zl,hzle⟩:∃ zl,x9 l8 (.slice none 0 0)=zl:=⟨_,rfl⟩
  rw[hzle] at HS HC rz rs ks ht hI0 hJ0
  have HE:=U0 hzle
  clear hzl hI0 hJ0 hzle
  clear rz rs ks ht
  go_enter func130,ntmps130
  go_upto_region 2 with (with_reducible refine Z5 _ rfl 28 (.tmp 1) rfl _ rfl ?_)
  rw[HW.o]
  go_wp2_with (first
   |(refine wpList_load_mid rfl 28 (.tmp 5) rfl (w.heap.size+1+1) 0 rfl zl _ HS.o.1 underlying28 rfl HS.o.2.2.2.2.1 ?_)
   |(refine wpList_store_mid rfl 28 (.tmp 4) (.tmp 8) rfl (w.heap.size+1) 0 zl.toArray rfl rfl HS.o.2.2.2.1 HS.o.2.2.2.2.2 HC.o ?_))
  refine bodyPost_ret (results_cell_row rfl _ _ (w.heap.size+1) 28 _ (0,0) _ rfl HS.o.2.1 underlying28 rfl HS.o.2.2.2.2.2) rfl ?_
  exact⟨by rw[←HE.o],HS.o.2.2.1⟩
 ·have rz:=HR.o.1.rangeAll
  have rs:=HR.o.2.1.setL (vs:=x9 r ev) (o:=0)
  rw[F7 (by rw[HZ.o.1];rfl)] at rs
  have ks:=HR.o.2.2.2.setL (vs:=x9 r ev) (g:=w.heap.size+1) (o:=0) (by simp)
  have ht:=HR.o.2.1.there (o:=0) (n:=(x9 r ev).toArray.size) (by rw[U4,HZ.o.1];exact Nat.le_refl _)
  have hI:(prog.info? 28).map (·.size)=some (x9 r ev).length:=by rw[HZ.o.1];exact Q9
  have hJ:(prog.info? 28).map (·.size)=some (x9 r ev).toArray.size:=by rw[U4];exact hI
  have HS:=U0 (U2 rz (U2 rs (U2 ks (U2 ht (U2 hI hJ)))))
  have hb1:(bit==0)=false:=by simpa using hb
  have HC:=U0 (all_oneCell_toArray HZ.o.2)
  clear rz rs ks ht hI hJ
  rw[if_neg hb]
  clear hb
  go_enter func130,ntmps130
  go_upto_region 2 with (with_reducible refine Z5 _ rfl 28 (.tmp 1) rfl _ rfl ?_)
  rw[HW.o]
  go_wp2_with (first
   |(refine wpList_load_mid rfl 28 (.tmp 3) rfl w.heap.size 0 rfl (x9 r ev) _ HS.o.1 underlying28 rfl HS.o.2.2.2.2.1 ?_)
   |(refine wpList_store_mid rfl 28 (.tmp 4) (.tmp 9) rfl (w.heap.size+1) 0 (x9 r ev).toArray rfl rfl HS.o.2.2.2.1 HS.o.2.2.2.2.2 HC.o ?_))
  refine bodyPost_ret (results_cell_row rfl _ _ (w.heap.size+1) 28 _ (0,0) _ rfl HS.o.2.1 underlying28 rfl HS.o.2.2.2.2.2) rfl ?_
  exact⟨rfl,HS.o.2.2.1⟩
def V7:CF:=⟨0,0,[]⟩
theorem gM (bit:Int) (c:CF) (A:Option Addr) (n k:Nat) (w:World):
 Calls prog 131 #[.int .i64 bit,.agg (bA c (.slice A n k)).toArray] w fun e w'=>e= .returned (.agg (if bit=0 then bA V7 (.slice none 0 0) else bA c (.slice A n k)).toArray)∧U1 [] w w':=by
 obtain⟨cn,cf,cl⟩:=c
 unfold bA
 dsimp only[V7]
 have k1:=(U1.refl [] w).alloc (.cells #[.int .i64 cn,.int .i64 cf,.slice A n k] 31)
 have k2:=k1.alloc (.cells #[.int .i64 0,.int .i64 0,.slice none 0 0] 31)
 have k3:=k2.alloc (.cells #[.int .i64 0,.int .i64 0,.slice none 0 0] 31)
 have q2:=(U1.refl [] (w.alloc (.cells #[.int .i64 cn,.int .i64 cf,.slice A n k] 31))).alloc (.cells #[.int .i64 0,.int .i64 0,.slice none 0 0] 31)
 have q3:=(U1.refl [] ((w.alloc (.cells #[.int .i64 cn,.int .i64 cf,.slice A n k] 31)).alloc (.cells #[.int .i64 0,.int .i64 0,.slice none 0 0] 31))).alloc (.cells #[.int .i64 0,.int .i64 0,.slice none 0 0] 31)
 have r1:=q3.row (q2.row (l5.new w 31 #[.int .i64 cn,.int .i64 cf,.slice A n k]) (by simp)) (by simp)
 have r2:=q3.row (l5.new (w.alloc (.cells #[.int .i64 cn,.int .i64 cf,.slice A n k] 31)) 31 #[.int .i64 0,.int .i64 0,.slice none 0 0]) (by simp)
 rw[World.size_alloc] at r2
 have r3:=l5.new ((w.alloc (.cells #[.int .i64 cn,.int .i64 cf,.slice A n k] 31)).alloc (.cells #[.int .i64 0,.int .i64 0,.slice none 0 0] 31)) 31 #[.int .i64 0,.int .i64 0,.slice none 0 0]
 rw[World.size_alloc,World.size_alloc] at r3
 obtain⟨w3,hw3⟩:∃ w3,((w.alloc (.cells #[.int .i64 cn,.int .i64 cf,.slice A n k] 31)).alloc (.cells #[.int .i64 0,.int .i64 0,.slice none 0 0] 31)).alloc (.cells #[.int .i64 0,.int .i64 0,.slice none 0 0] 31)=w3:=⟨_,rfl⟩
 rw[hw3] at r1 r2 r3 k3
 have HW:=U0 hw3
 have f0:=r2.free 0
 have f1:=r2.free 1
 have f2:=r2.free 2
 have x0:w3.cell? ⟨w.heap.size,0,none⟩=some (.int .i64 cn):=r1.cell 0
 have x1:w3.cell? ⟨w.heap.size,1,none⟩=some (.int .i64 cf):=r1.cell 1
 have x2:w3.cell? ⟨w.heap.size,2,none⟩=some (.slice A n k):=r1.cell 2
 have y0:w3.cell? ⟨w.heap.size+1,0,none⟩=some (.int .i64 0):=r2.cell 0
 have y1:w3.cell? ⟨w.heap.size+1,1,none⟩=some (.int .i64 0):=r2.cell 1
 have y2:w3.cell? ⟨w.heap.size+1,2,none⟩=some (.slice none 0 0):=r2.cell 2
 have z0:w3.cell? ⟨w.heap.size+1+1,0,none⟩=some (.int .i64 0):=r3.cell 0
 have z1:w3.cell? ⟨w.heap.size+1+1,1,none⟩=some (.int .i64 0):=r3.cell 1
 have z2:w3.cell? ⟨w.heap.size+1+1,2,none⟩=some (.slice none 0 0):=r3.cell 2
 have HR:=U0 (U2 r2 k3)
 clear k1 k2 k3 q2 q3 r1 r2 r3 hw3
 by_cases hb:bit=0
 ·subst hb
  have rs:=((HR.o.1.set 0 (.int .i64 0)).set 1 (.int .i64 0)).set 2 (.slice none 0 0)
  have ks:=((HR.o.2.setCell ⟨w.heap.size+1,0,none⟩ (.int .i64 0) (.inr (by simp))).setCell ⟨w.heap.size+1,1,none⟩ (.int .i64 0) (.inr (by simp))).setCell ⟨w.heap.size+1,2,none⟩ (.slice none 0 0) (.inr (by simp))
  have HS:=U0 (U2 rs ks)
  clear rs ks
  go_enter func131,ntmps131
  go_upto_region 2 with fail
  rw[HW.o]
  go_wp2_with fail
  refine bodyPost_ret (results_cell_row rfl _ _ (w.heap.size+1) 31 _ (0,0) _ rfl HS.o.1 underlying31 rfl (by kernel_rfl)) rfl ?_
  exact⟨rfl,HS.o.2⟩
 ·have rs:=((HR.o.1.set 0 (.int .i64 cn)).set 1 (.int .i64 cf)).set 2 (.slice A n k)
  have ks:=((HR.o.2.setCell ⟨w.heap.size+1,0,none⟩ (.int .i64 cn) (.inr (by simp))).setCell ⟨w.heap.size+1,1,none⟩ (.int .i64 cf) (.inr (by simp))).setCell ⟨w.heap.size+1,2,none⟩ (.slice A n k) (.inr (by simp))
  have HS:=U0 (U2 rs ks)
  have hb1:(bit==0)=false:=by simpa using hb
  rw[if_neg hb]
  clear rs ks hb
  go_enter func131,ntmps131
  go_upto_region 2 with fail
  rw[HW.o]
  go_wp2_with fail
  refine bodyPost_ret (results_cell_row rfl _ _ (w.heap.size+1) 31 _ (0,0) _ rfl HS.o.1 underlying31 rfl (by kernel_rfl)) rfl ?_
  exact⟨rfl,HS.o.2⟩
end Go.Proofs.YthfdkonhjpdflaaGreatDoor
