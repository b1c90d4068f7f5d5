/-
  the closed statement PackNames: each kind of packet with each field at both ends, packets and configurations just at and beyond the bounds: the call returns true (the table of fields that the program reads is as it was laid).
  CONDITIONS: none.
-/
import Derived.Test.YthfdkonhjpdflaaGreatDoorGN2
import Derived.Test.YthfdkonhjpdflaaGreatDoorGOp
import Derived.Test.YthfdkonhjpdflaaGreatDoorCards
import Derived.Test.YthfdkonhjpdflaaGreatDoorTie
import Derived.SevenTiedAt
namespace Go.Proofs.YthfdkonhjpdflaaGreatDoor.packNamesDone
open Go.Proofs.Tryz Go.ChangeShapes Go.WideShapes Go.ChangeAt Go.RowKit
open Go.ChangeMaps (open_string shut_string)
set_option linter.unusedVariables false
theorem own:ownKnob prog.godebug=none:=by kernel_rfl
theorem laidOut:laidOutB prog=true:=by kernel_rfl
set_option maxRecDepth 100000 in
theorem lifted (os:Os) (started:os.Started) (H:Type) (enc:TypeId × Value→H):
 ReturnsInHanded {} Tryz.checked os 5 .any (fun w args=>(Rows.packNamesSpec.pre enc prog Tryz.f5 [] false w args∧laidMetH prog BN w)∧sizedMet enc prog Tryz.f5 (OpenSpec.ofChange Rows.packNamesSpec) false w args)
  (Rows.packNamesSpec.post enc prog Tryz.f5 false true false false):=by
 refine returnsInHanded_of_change_and (C:=Tryz.checked) (X:=fun w _=>laidMetH prog BN w) (fun _ _ _ hh h=>h.of_heap hh) own started (by kernel_rfl) func5
  (ChangeSpec.witness_shaped (enc:=enc) (C:=Tryz.checked) (os:=os) (X:=fun w _=>laidMetH prog BN w) false (World.doorLaid prog 400 os) #[] 8 rfl (World.shaped_of_RefB (by kernel_rfl) (by kernel_rfl)) (by kernel_rfl) (by kernel_rfl) (by kernel_rfl) (TT os _)) ?_
 intro W base args ds gs before hval0 hW _ _ hL _
 have hval:∀ (j:Nat) t v,Tryz.f5.params[j]? =some t→args[j]? =some v→Value.okWide prog W .any base t v:=hval0
 have hW':=hW
 obtain⟨p,q,hA0,hV,rfl,hfz,hnd⟩:=hW
 have hA:DataW.TrodAll enc prog W 0 (fun _=>true) true Tryz.f5.params.toList args.toList ds p:=hA0
 rw[Tryz.params5] at hA hval
 obtain⟨hargs,rfl,rfl⟩:=trodAll_nil hA
 obtain rfl:args= #[]:=by cases args;simp_all
 obtain⟨rfl,rfl⟩:=trodVars_none hV
 clear hA0 hval0
 refine (VJ W (FJ hL)).mono fun e W' ⟨he,hkb⟩=> ?_
 subst he
 have bel:Below W.heap.size W W':=hkb.below _ (Nat.le_refl _) (by simp)
 exact⟨_,rfl,_,_,_,[],_,[],hW',trodAll_mk1 (shut_bool underlying4 _),trodAll_mk0,rfl,bel.frame _,fun h=>by cases h⟩
theorem over:Rows.packNamesRow.holds Tryz.pinned (OpenSpec.ofChange Rows.packNamesSpec):=
 OpenClaim.holds_of_wide 5 Tryz.f5 rfl rfl rfl rfl rfl rfl rfl ⟨rfl,rfl,rfl,rfl,rfl⟩ rfl rfl rfl rfl rfl (by kernel_rfl) func5 (by kernel_rfl)
  (of_decide_eq_true (by kernel_rfl)) (by unfold Func.isWrapper;first|(rw[if_pos (by decide+kernel)];kernel_rfl)|(rw[if_neg (by decide+kernel)];exact⟨rfl,rfl⟩))
  (fun os started H enc _=>lifted os started H enc)
theorem proved:Rows.PackNamesCardSaid:=
 Claim7.holds_tied_plain_at .later [] [.data] true (true, "9c08fbbea02eb21f01c707a864f65b46ef1361a4e3172999a9ddf720bb5ad5be") false
  over (fun _ h=>by cases h) (by kernel_rfl) (fun _ h=>by cases h) packNames_row_tie rfl ⟨rfl,rfl⟩ (by kernel_rfl) rfl
  (fun f fn hf hfn=>by
    obtain rfl:f=5:=Option.some.inj ((show prog.funcNamed "sealchain/sealchainlaw11.PackNames" =some 5 by kernel_rfl).symm.trans hf)|>.symm
    obtain rfl:fn=Tryz.f5:=(Option.some.inj (func5.symm.trans hfn)).symm
    exact⟨by kernel_rfl,fun j t ht=>by
     rw[Tryz.params5] at ht
     have hm:t∈([]:List TypeId):=by simpa using Array.mem_of_getElem? ht
     have hall:(([]:List TypeId).all fun u=> !prog.wantsStandIn u)=true:=by kernel_rfl
     exact (show prog.wantsStandIn t=false by simpa using List.all_eq_true.1 hall t hm)⟩)
  (by kernel_rfl)
end Go.Proofs.YthfdkonhjpdflaaGreatDoor.packNamesDone
