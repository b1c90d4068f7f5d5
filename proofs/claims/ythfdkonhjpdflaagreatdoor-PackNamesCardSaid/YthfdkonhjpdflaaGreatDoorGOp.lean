import Derived.Test.YthfdkonhjpdflaaGreatDoorLow1
import Derived.ProofKit
import Derived.OpenShut
import Derived.ShutString
import Derived.ChangeOld
import Derived.Below
import Derived.Test.YthfdkonhjpdflaaGreatDoorPkA
import Derived.LaidMore
import Derived.Stop.Joined
namespace Go.Proofs.YthfdkonhjpdflaaGreatDoor
open Go.ChangeShapes Go.WideShapes Go.ChangeAt Go.RowKit Go.WideMaps Go.WideElems Go.Proofs.Tryz
set_option linter.unusedVariables false
def AJ (k:IntKind) (xs:List Int):List Value:=xs.map (Value.int k)
theorem VU {w:World} {k:IntKind} {x:Addr} {n c:Nat} {zs:List Int} (hl:n≤c) (hz:zs.length=c) (hcell:∀ i,i<zs.length→w.cell? (x.add i)=some (.int k (zs.getD i 0))):
 ∃ g,(0<n→g<w.heap.size)∧MB w (some x) g n 1 (AJ k (zs.take n)):=by
 refine⟨x.block,fun hn=> ?_,by simp[AJ];omega,fun hn=> ?_⟩
 ·have:=hcell 0 (by omega)
  have hb:=World.block_lt_of_cell? w _ this
  simpa[Addr.add] using hb
 ·have h0:=hcell 0 (by omega)
  have hsp:x.spot=none:=by simpa[Addr.add] using World.cell?_spot h0
  obtain⟨b,o,s⟩:=x
  simp only at hsp
  subst hsp
  refine⟨o,rfl,?_,fun j u hu=> ?_⟩
  ·have hb:=World.block_lt_of_cell? w _ h0
   simpa[Addr.add] using hb
  ·simp only[AJ,List.getElem?_map] at hu
   rw[List.getElem?_take] at hu
   split at hu
   ·rename_i hj
    have:=hcell j (by omega)
    rw[TE] at this
    rw[this]
    rw[List.getElem?_eq_getElem (by omega)] at hu
    simp only[Option.map_some,Option.some.injEq] at hu
    rw[←hu,List.getD_eq_getElem?_getD,List.getElem?_eq_getElem (by omega)]
    rfl
   ·cases hu
def lJ (xs:List Int):List UInt8:=xs.map fun n=>UInt8.ofNat n.toNat
theorem yT (xs:List Int):(lJ xs).length=xs.length:=by simp[lJ]
theorem bv_bytesOf (xs:List Int) (h:∀ n∈xs,0≤n∧n≤255):(lJ xs).map bv=AJ .u8 xs:=by
 unfold lJ AJ
 rw[List.map_map]
 apply List.map_congr_left
 intro n hn
 have:=h n hn
 simp only[Function.comp,bv,UInt8.toNat_ofNat']
 congr 1
 omega
theorem WU {w:World} {A:Option Addr} {g n:Nat} {l:List UInt8} (hl:l.length=n) (h:MB w A g n 1 (l.map bv)):QA w A g l:=by
 intro hne
 obtain⟨o,hA,hlt,hc⟩:=h.2 (by have:=List.length_pos_iff.2 hne;omega)
 exact⟨o,hA,hlt,fun j b hb=>hc j _ (by rw[List.getElem?_map,hb];rfl)⟩
abbrev BN:List (String × DataW Unit):=[("sealchain/pack.fields",Rows.laid_sealchain_pack_fields)]
theorem NV:prog.globalNamed "sealchain/pack.fields" =some 0:=by kernel_rfl
theorem MW:(prog.globals[0]?).map (·.type)=some 125:=by kernel_rfl
theorem cIntL:prog.cellsOf 3=1:=by kernel_rfl
theorem TT (os:Os) (args:Array Value):laidMetH prog BN ((World.doorLaid prog 400 os).forCall (fun _ _=>0) ⟨#[],args,[]⟩).memory:=
 laidMetH_of_parts3 (fuel:=8) (laidMet_of_run' 8 (by kernel_rfl) (by kernel_rfl)) (by kernel_rfl) (by kernel_rfl)
theorem QV {H:Type}:∀ k:Nat,k<15→([.lit (.int .i64 0),.lit (.int .i64 16),.lit (.int .i64 32),.lit (.int .i64 19),.lit (.int .i64 3),.lit (.int .i64 3),.lit (.int .i64 259),.lit (.int .i64 64),.lit (.int .i64 9),.lit (.int .i64 1024),.lit (.int .i64 6),.lit (.int .i64 134),.lit (.int .i64 70),.lit (.int .i64 6),.lit (.int .i64 4)]:List (DataW H))[k]? =some (.lit (.int .i64 (pJ k)))
 |0,_=>rfl
 |1,_=>rfl
 |2,_=>rfl
 |3,_=>rfl
 |4,_=>rfl
 |5,_=>rfl
 |6,_=>rfl
 |7,_=>rfl
 |8,_=>rfl
 |9,_=>rfl
 |10,_=>rfl
 |11,_=>rfl
 |12,_=>rfl
 |13,_=>rfl
 |14,_=>rfl
 |k+15,h=>by omega
theorem FJ {W:World} (h:laidMetH prog BN W):zB W:=by
 rw[MakeChecks.laidMetH_plain _ _ _ (by kernel_rfl)] at h
 obtain⟨ps,⟨g0,t0,cs0,f0,p0,q0,hg0,ht0,hv0,hd0,_⟩,_⟩:=h
 obtain rfl:=Option.some.inj (NV.symm.trans hg0)
 obtain rfl:=Option.some.inj (MW.symm.trans ht0)
 obtain⟨xs,m1,rfl,hx1,hlen,hn3,hel⟩:=DataW.trod_array underlying125 hd0
 simp only[Prod.mk.injEq,Rows.laid_sealchain_pack_fields,DataW.agg.injEq] at hx1
 intro k hk
 have hc:=World.var?_cell hg0 hv0 k
 obtain⟨x,hx⟩:∃ x,xs[k]? =some x:=⟨_,List.getElem?_eq_getElem (by omega)⟩
 have h0:=hel k hk
 rw[cIntL,hx,Nat.mul_one] at h0
 obtain⟨n,hn,hxn,_⟩:=DataW.trod_int underlying3 h0
 have hm:(xs.map (·.1))[k]? =some (.lit (.int .i64 n)):=by rw[List.getElem?_map,hx,hxn];rfl
 rw[←hx1.1,QV k hk] at hm
 simp only[Option.some.injEq,DataW.lit.injEq,Lit.int.injEq,true_and] at hm
 have hv:cs0.toList[k]? =some (.int .i64 n):=by
  have:=congrArg (fun l=>l[0]?) hn
  simpa[List.getElem?_take,List.getElem?_drop] using this
 rw[hc,hm,←hv]
 simp
end Go.Proofs.YthfdkonhjpdflaaGreatDoor
