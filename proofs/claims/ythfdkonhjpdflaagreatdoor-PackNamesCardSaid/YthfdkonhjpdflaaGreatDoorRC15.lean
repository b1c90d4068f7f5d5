import Derived.Test.YthfdkonhjpdflaaGreatDoorRC8
import Derived.Test.YthfdkonhjpdflaaGreatDoorRC11
import Derived.Test.YthfdkonhjpdflaaGreatDoorRCE
import Derived.Test.YthfdkonhjpdflaaGreatDoorNK
namespace Go.Proofs.YthfdkonhjpdflaaGreatDoor
open Go.RowKit Go.Proofs.Tryz
set_option linter.unusedVariables false
set_option maxRecDepth 100000
set_option linter.unusedSimpArgs false
theorem aQ (F:List Nat) (p:PK) (X:List Value) (w:World) (h:iB w F (p,X)) (hf:p.fits):
 Calls prog 10 #[.agg X.toArray] w fun e w'=>e= .returned (.int .i64 (O9 p.ok))∧U1 [] w w':=by
 obtain⟨ev,av,cv,vv,bw,h1,h2⟩:=h
 dsimp only at h1 h2
 subst h1
 rw[←vH]
 exact PO F p ev av cv vv bw w h2 hf
theorem oM (F G:List Nat) (p q:PK) (X Y:List Value) (w:World) (h:iB w F (p,X)) (h':iB w G (q,Y)) (hf:p.fits) (hg:q.fits):
 Calls prog 13 #[.agg X.toArray,.agg Y.toArray] w fun e w'=>e= .returned (.bool (p.same q))∧U1 [] w w':=by
 obtain⟨ev,av,cv,vv,bw,h1,h2⟩:=h
 obtain⟨ev',av',cv',vv',bw',h1',h2'⟩:=h'
 dsimp only at h1 h2 h1' h2'
 subst h1
 subst h1'
 exact oW F G p q ev av cv vv bw ev' av' cv' vv' bw' w h2 h2' hf hg
theorem copyDX (F:List Nat) (p:PK) (X:List Value) (w:World) (h:iB w F (p,X)) (hf:p.fits):
 Calls prog 23 #[.agg X.toArray] w (UK p w):=by
 obtain⟨ev,av,cv,vv,bw,h1,h2⟩:=h
 dsimp only at h1 h2
 subst h1
 refine (copyD F p ev av cv vv bw w h2 hf).mono ?_
 rintro e w' ⟨G,ev',av',cv',vv',bw',rfl,h3,h4,h5⟩
 exact⟨_,G,rfl,⟨_,_,_,_,_,rfl,h3⟩,h4,h5⟩
theorem RQ.ok_env {r:RQ} (h:r.ok=true):r.env.length≤1024:=by
 simp only[RQ.ok,Bool.and_eq_true] at h
 obtain⟨_,_,h⟩:=h
 split at h
 ·simp at h
  simp[h.2]
 ·split at h
  ·simp only[Bool.and_eq_true,EC] at h
   omega
  ·split at h
   ·simp at h
    simp[h.2.2]
   ·cases h
theorem AN.ok_env {r:AN} (h:r.ok=true):r.env.length≤1024:=by
 simp only[AN.ok,Bool.and_eq_true,decide_eq_true_eq] at h
 exact h.2.2.2.2.2
theorem CF.ok_chain {c:CF} (h:c.ok=true):c.chain.length≤4:=by
 simp only[CF.ok,Bool.and_eq_true,decide_eq_true_eq] at h
 exact h.2.2.1
theorem lK:∀{l:List VT},fE l=true→∀ v∈l,v.conf.chain.length≤4
 |[],_,v,hv=>by simp at hv
 |a::r,h,v,hv=>by
  simp only[fE,VT.ok,Bool.and_eq_true] at h
  rcases List.mem_cons.1 hv with rfl|hv
  ·exact CF.ok_chain h.1.2
  ·exact lK h.2 v hv
theorem PK.ok_fits {p:PK} (h:p.ok=true):p.fits:=by
 rw[←vH] at h
 simp only[PK.okD,Bool.and_eq_true] at h
 have hp:=h.2
 simp only[PK.partsD,Bool.and_eq_true] at hp
 obtain⟨hv,hb,hr,ha,hc⟩:=hp
 have hr2:p.req.env.length≤1024:=by
  split at hr
  ·exact RQ.ok_env hr
  ·simp[RQ.same,I7] at hr
   rw[hr.2.2.2.2.2];simp
 have ha2:p.ans.env.length≤1024:=by
  split at ha
  ·exact AN.ok_env ha
  ·simp[AN.same,l8] at ha
   rw[ha.2.2.2.2.2.2];simp
 have hc2:p.conf.chain.length≤4:=by
  split at hc
  ·exact CF.ok_chain hc
  ·simp[CF.same,V7] at hc
   rw[of_decide_eq_true hc.2.2];simp
 have hv2:p.votes.length≤8∧∀ v∈p.votes,v.conf.chain.length≤4:=by
  simp only[Bool.or_eq_true,Bool.and_eq_true,decide_eq_true_eq] at hv
  rcases hv with⟨_,h1⟩|h1
  ·simp only[JB,Bool.and_eq_true,decide_eq_true_eq] at h1
   exact⟨h1.1,lK h1.2⟩
  ·have:=List.length_eq_zero_iff.1 h1
   rw[this];simp
 have hb2:p.bytes.length≤32768:=by
  simp only[Bool.or_eq_true,Bool.and_eq_true,decide_eq_true_eq] at hb
  omega
 exact⟨by omega,by omega,by omega,by omega,fun v hv=>by have:=hv2.2 v hv;omega,by omega⟩
theorem jL {n:Int} (h:WB n=true):OA n:=by
 simp only[WB,Bool.or_eq_true,EC] at h
 unfold OA
 omega
theorem PK.ok_ends {p:PK} (h:p.ok=true):OA p.frm∧OA p.dst:=by
 rw[←vH] at h
 simp only[PK.okD,PK.headD,Bool.and_eq_true] at h
 exact⟨jL h.1.1.1.2.1,jL h.1.1.1.2.2⟩
theorem PK.same_self (p:PK):p.same p=true:=by simp[PK.same,RQ.same_self,AN.same_self,CF.same_self,kK]
end Go.Proofs.YthfdkonhjpdflaaGreatDoor
