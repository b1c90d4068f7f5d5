import Derived.Test.YthfdkonhjpdflaaGreatDoorLow3
import Derived.Laws.CopyOwn
import Derived.Deep.OwnRows
import Derived.Test.YthfdkonhjpdflaaGreatDoorPkD
import Derived.Lib.SlBytesConst
import Derived.Laws.BytesArg
import Derived.Deep.RegionHeld3
import Derived.Deep.DeepCutAuto
import Derived.Deep.CutBlock
namespace Go.Proofs.YthfdkonhjpdflaaGreatDoor
open Go.RowKit Go.Proofs.Tryz
set_option linter.unusedVariables false
set_option maxHeartbeats 400000
theorem EU {P:Program} (w:World) (dT sT ty e:TypeId) (hu:P.underlying dT=some (.slice e)) (hsz:(P.info? e).map (·.size)=some 1)
 (g off dLen dCap:Nat) (A:Option Addr) (gs c:Nat) (l:List UInt8) (cur:Array Value) (t:TypeId) (hg:l5 w g t cur) (hsrc:QA w A gs l)
 (hn:l.length≤dLen) (hfit:off+l.length≤cur.size):
 ∃ w',(Builtin.copy_ #[dT,sT] ty #[.slice (some ⟨g,off,none⟩) dLen dCap,.slice A l.length c]).run P w= .ok (.int .i64 (l.length:Int)) w'∧
  l5 w' g t (splice cur.toList off (l.map bv)).toArray∧U1 [g] w w':=by
 by_cases h0:l.length=0
 ·obtain rfl:l=[]:=List.eq_nil_of_length_eq_zero h0
  have hr:=run_copy_none (P:=P) w dT sT ty e (some ⟨g,off,none⟩) A dLen dCap 0 c hu hsz (by simp)
  exact⟨w,hr,by simpa[splice] using hg,U1.refl _ _⟩
 ·obtain⟨o,rfl,hlt,hc⟩:=hsrc (by rintro rfl;simp at h0)
  have hr:=run_copy_row (P:=P) w dT sT ty e g off dLen dCap ⟨gs,o,none⟩ l.length c cur t (l.map bv) hu hsz hg (by rw[List.length_map];exact (Nat.min_eq_left hn).symm)
   (fun j v hj=>by
     obtain⟨b,hb,rfl⟩:∃ b,l[j]? =some b∧bv b=v:=by simpa using hj
     rw[TE];exact hc j b hb)
   (by simpa using hfit) (by intro u hu;simp at hu;obtain⟨b,_,rfl⟩:=hu;rfl)
  rw[goInt,List.length_map] at hr
  refine⟨_,hr,?_,⟨rfl,rfl,rfl,by simp[World.setRow],fun k hk hS=>setRow_other w g k _ (fun e=>hS (by simp[e])),fun k hs=> ?_⟩⟩
  rotate_left
  ·by_cases e:k=g
   ·subst e
    intro i
    unfold World.frozen?
    dsimp only
    rw[setRow_heap w k cur _ t _ hg]
    simp
   ·exact hs.of (setRow_other w g k _ e)
  have:=setRow_heap w g cur (cur.toList.take off++l.map bv++cur.toList.drop (off+l.length)).toArray t _ hg
  unfold l5
  rw[this]
  simp[splice]
theorem dS {P:Program} {ops:Array Oper} {o:Oper} {a:Act} {w:World} {K:Act→World→Prop} {Q:Exit→Act→World→Prop} {E:Prop} (hgd:o.guard=none) (d s:Operand) (dT sT:TypeId)
 (ho:o.op= .call {callee:= .builtin .copy,args:= #[d,s],argTypes:= #[dT,sT]}) (e:TypeId) (hu:P.underlying dT=some (.slice e)) (hsz:(P.info? e).map (·.size)=some 1)
 (g off dLen dCap:Nat) (A:Option Addr) (gs c:Nat) (l:List UInt8) (hd:a.eval d= .slice (some ⟨g,off,none⟩) dLen dCap) (hs:a.eval s= .slice A l.length c)
 (cur:Array Value) (t:TypeId) (hg:l5 w g t cur) (hsrc:QA w A gs l) (hn:l.length≤dLen) (hfit:off+l.length≤cur.size)
 (h:∀ w',l5 w' g t (splice cur.toList off (l.map bv)).toArray→U1 [g] w w'→K (a.put o.dst (.int .i64 (l.length:Int))) w'):
 if Region.wanted o (yielded ops a.tmps)=true then Oper.wp P o a w K Q else E:=by
 have hw:Region.wanted o (yielded ops a.tmps)=true:=by simp[Region.wanted,hgd]
 rw[if_pos hw]
 obtain⟨w',hrun,h1,h2⟩:=EU (P:=P) w dT sT o.type e hu hsz g off dLen dCap A gs c l cur t hg hsrc hn hfit
 unfold Oper.wp
 simp[execOp,ho,resolve,invoke,builtin,hd,hs,hrun,Result.andThen]
 exact h w' h1 h2
def TK (l:List UInt8) (w:World) (e:Ending) (w':World):Prop:=
 ∃ v,e= .returned v∧qA w' 5 1 v l.length (l.map bv)∧(∀ x∈Z6 v,w.heap.size≤x)∧U1 [] w w'
theorem yG (A:Option Addr) (g c:Nat) (l:List UInt8) (w:World) (h:QA w A g l) (hb:l.length≤140737488355328):
 Calls prog 27 #[.slice A l.length c] w (TK l w):=by
 obtain⟨i0,hi0,hz0,hz1,hz2⟩:=info_parts gP
 have HS:=U0 h.reads
 go_enter func27,ntmps27
 go_wp2_with (at_builtin;refine NA _ rfl _ _ 24 rfl 5 i0 (.int .u8 0) 1 1 underlying24 hi0 hz0 hz1 hz2 rfl (by decide) (.slice none 0 0) 0 [] rfl (qA.nil _ _ _) A g l.length c _ (by simp[Act.eval]) HS.o (by intro u hu;simp at hu;obtain⟨b,_,rfl⟩:=hu;rfl) (by omega) (by unfold maxLen;omega) ?_;intro A2 c2 w2 hown2 hkb2 hloc2)
 go_ret
 refine⟨_,rfl,by simpa using hown2,fun x hx=> ?_,hkb2⟩
 rcases hloc2 x (by simpa using hx) with h1|h1
 ·simp[d9] at h1
 ·exact h1
theorem LH (A:Option Addr) (g c n:Nat) (l:List UInt8) (w:World) (hn:l.length=n) (h:QA w A g l) (hb:n≤140737488355328):
 Calls prog 27 #[.slice A n c] w (TK l w):=by
 subst hn;exact yG A g c l w h hb
theorem QG (n:Int) (w:World):Calls prog 122 #[.int .i64 n] w fun e w'=>e= .returned (.bool (FI n))∧w=w':=by
 by_cases h1:n=1
 ·subst h1
  go_enter func122,ntmps122
  go_wp2
  go_ret
  exact⟨rfl,rfl⟩
 by_cases h2:n=2
 ·subst h2
  go_enter func122,ntmps122
  go_wp2
  go_ret
  exact⟨rfl,rfl⟩
 by_cases h4:n=4
 ·subst h4
  go_enter func122,ntmps122
  go_wp2
  go_ret
  exact⟨rfl,rfl⟩
 ·have e1:(n==1)=false:=by simp[h1]
  have e2:(n==2)=false:=by simp[h2]
  have e4:(n==4)=false:=by simp[h4]
  have HW:=U0 (show FI n=(n==8) from by simp[FI,h1,h2,h4])
  go_enter func122,ntmps122
  go_wp2
  go_ret
  exact⟨by rw[HW.o];rfl,rfl⟩
end Go.Proofs.YthfdkonhjpdflaaGreatDoor
