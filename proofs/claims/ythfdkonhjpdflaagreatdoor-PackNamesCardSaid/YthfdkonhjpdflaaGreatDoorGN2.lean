import Derived.Test.YthfdkonhjpdflaaGreatDoorGNA
import Derived.Test.YthfdkonhjpdflaaGreatDoorMadeB
namespace Go.Proofs.YthfdkonhjpdflaaGreatDoor
open Go.RowKit Go.Proofs.Tryz
set_option linter.unusedVariables false
set_option maxRecDepth 100000
theorem qR:EN:=by
 intro k F v w h1 h2 hv
 have hz:OA 0∧OA 1∧OA 2∧OA 3∧OA 4∧OA k:=by unfold OA;omega
 obtain⟨a0,a1,a2,a3,a4,ak⟩:=hz
 refine (eU F ⟨k,0,0,1,2,1,3,4,[1,2,3]⟩ v w ⟨ak,a0,a0,a1,a2,a1,a3,a4⟩ rfl hv).mono ?_
 rintro e w' ⟨ev,av,cv,vv,bw,G,rfl,q1,q2,q3⟩
 have hb:=iP ⟨k,0,0,1,2,1,3,4,[1,2,3]⟩
 exact⟨_,_,G,rfl,⟨ev,av,cv,vv,bw,rfl,q1⟩,q2,hb.1,hb.2,q3⟩
theorem VJ (w:World) (hfl:zB w):
 Calls prog 5 #[] w fun e w'=>e= .returned (.bool true)∧U1 [] w w':=CK w hfl qR
end Go.Proofs.YthfdkonhjpdflaaGreatDoor
