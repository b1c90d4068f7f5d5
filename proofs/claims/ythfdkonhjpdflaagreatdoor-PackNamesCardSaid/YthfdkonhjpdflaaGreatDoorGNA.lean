import Derived.Test.YthfdkonhjpdflaaGreatDoorGRC
import Derived.Test.YthfdkonhjpdflaaGreatDoorPkE
import Derived.Test.YthfdkonhjpdflaaGreatDoorRC15
import Derived.Test.YthfdkonhjpdflaaGreatDoorGR10
import Derived.Test.YthfdkonhjpdflaaGreatDoorGLA
import Derived.Great.BuildSlice
import Derived.Laws.CopyOwn
import Derived.Deep.OwnRows
namespace Go.Proofs.YthfdkonhjpdflaaGreatDoor
open Go.RowKit Go.Proofs.Tryz
set_option linter.unusedVariables false
set_option maxRecDepth 100000
set_option linter.unusedSimpArgs false
set_option maxHeartbeats 16000000
def BR (l:List UInt8):PK:={G9 with kind:=6,bytes:=l}
theorem wU (l:List UInt8) (h:l.length≤32768):(BR l).ok=true:=by
 rw[←vH]
 simp[PK.okD,PK.headD,PK.partsD,PK.numD,PK.seqD,PK.balD,BR,G9,h,qB,WB,lG,gH,iH,DC,bG,UC,RQ.same_self,AN.same_self,CF.same_self]
theorem bX (l:List UInt8) (h:l.length=32768):wH (BR l)=6::0::0::0::1::130::128::0::l:=by
 show xO (BR l) (l6 6)=_
 unfold xO wO EK CP BP yP xP vP rP aI
 rw[if_neg (show ¬U6 (l6 6) 256=0 by rw[show U6 (l6 6) 256=256 by kernel_rfl];decide),if_pos (show U6 (l6 6) 128=0 by kernel_rfl),if_pos (show U6 (l6 6) 64=0 by kernel_rfl),if_pos (show U6 (l6 6) 32=0 by kernel_rfl),if_pos (show U6 (l6 6) 16=0 by kernel_rfl),if_pos (show U6 (l6 6) 8=0 by kernel_rfl),if_pos (show U6 (l6 6) 4=0 by kernel_rfl),if_neg (show ¬U6 (l6 6) 2=0 by rw[show U6 (l6 6) 2=2 by kernel_rfl];decide),if_neg (show ¬U6 (l6 6) 1=0 by rw[show U6 (l6 6) 1=1 by kernel_rfl];decide)]
 show (xR (BR l)++cb 0)++cb 1++(cb l.length++l)=_
 rw[h,show cb 32768=[130,128,0] by kernel_rfl,show cb 0=[0] by kernel_rfl,show cb 1=[1] by kernel_rfl,show xR (BR l)=[6,0,0] by kernel_rfl]
 rfl
theorem vU (l:List UInt8) (h:l.length=32768):AA (6::0::0::0::1::130::128::0::l)=(BR l,0):=by
 obtain⟨b,hb⟩:∃ b,6::0::0::0::1::130::128::0::l=b:=⟨_,rfl⟩
 have e1:TD b={G9 with kind:=6}:=by rw[←hb];kernel_rfl
 have e2:fP b=⟨0::1::130::128::0::l,0⟩:=by rw[←hb];kernel_rfl
 have e3:XC b=({G9 with kind:=6},⟨130::128::0::l,0⟩,0):=by unfold XC;rw[e1,e2];kernel_rfl
 have hE:vF b=0:=by
  unfold vF
  rw[e3,e2,e1,if_neg (fun hh=>absurd hh.2 (show ¬l6 6=0 by rw[show l6 6=259 by kernel_rfl];decide))]
  rfl
 have e5:(RS.mk (130::128::0::l) 0).text 32768=(l,⟨[],0⟩):=by
  have hc:(RS.mk (130::128::0::l) 0).count 32768=(32768,⟨l,0⟩):=by kernel_rfl
  unfold RS.text
  rw[hc]
  show RS.raw ⟨l,0⟩ 32768=_
  unfold RS.raw
  rw[if_neg (by decide)]
  have ht:(32768:Int).toNat=l.length:=by rw[h];rfl
  unfold RS.take RS.past
  rw[ht]
  show (if (0:Int)=0∧l.length≤l.length then l.take l.length else[],if (0:Int)=0 then (if l.length≤l.length then RS.mk (l.drop l.length) 0 else RS.mk [] 3) else RS.mk l 0)=_
  rw[if_pos ⟨rfl,Nat.le_refl _⟩,if_pos rfl,if_pos (Nat.le_refl _),List.take_length,List.drop_length]
 have e4:OE (l6 (TD b).kind) (XC b)=(BR l,⟨[],0⟩,0):=by
  rw[e1,e3]
  show OE (l6 6) _=_
  rw[PS]
  show (({G9 with kind:=6,bytes:=((RS.mk (130::128::0::l) 0).text 32768).1}:PK),((RS.mk (130::128::0::l) 0).text 32768).2,(0:Int))=_
  rw[e5]
  rfl
 rw[hb,mG hE (by rw[e4];rfl),e4]
 show (eL (zA 0 (BR l).ok) (BR l) G9,zA 0 (BR l).ok)=_
 rw[wU l (by omega)]
 rfl
theorem ND:∀ (L:List (List Value)) (j off:Nat) (v:Value) (X X':List Value),(∀ l∈L,l.length=87)→L[j]? =some X→off<87→X.toArray.setIfInBounds off v=X'.toArray→L.flatten.toArray.setIfInBounds (j*87+off) v=(L.set j X').flatten.toArray
 |[],j,off,v,X,X',_,h,_,_=>by simp at h
 |a::L,0,off,v,X,X',hl,h,ho,he=>by
  simp only[List.getElem?_cons_zero,Option.some.injEq] at h
  subst h
  have ha:=hl a (by simp)
  have he':a.set off v=X':=by simpa using he
  rw[Nat.zero_mul,Nat.zero_add,List.flatten_cons,U3,List.flatten_cons,F3,List.set_append_left _ _ (by omega),he']
 |a::L,j+1,off,v,X,X',hl,h,ho,he=>by
  have ha:=hl a (by simp)
  have ih:=ND L j off v X X' (fun l h=>hl l (by simp[h])) (by simpa using h) ho he
  rw[F3] at ih
  have ih':L.flatten.set (j*87+off) v=(L.set j X').flatten:=by simpa using ih
  rw[List.flatten_cons,V3,List.flatten_cons,F3,List.set_append_right _ _ (by omega),←ih',ha,show (j+1)*87+off-87=j*87+off by omega]
theorem EG:∀ (us:List Value) (L:List (List Value)) (j off:Nat) (X X':List Value),(∀ l∈L,l.length=87)→L[j]? =some X→off+us.length≤87→KA X.toArray off us=X'.toArray→KA L.flatten.toArray (j*87+off) us=(L.set j X').flatten.toArray
 |[],L,j,off,X,X',hl,h,ho,he=>by
  have e:X=X':=by simpa[KA] using he
  subst e
  obtain⟨hj,hx⟩:=List.getElem?_eq_some_iff.1 h
  rw[KA,←hx,List.set_getElem_self]
 |v::r,L,j,off,X,X',hl,h,ho,he=>by
  rw[List.length_cons] at ho
  have hX:X.length=87:=hl X (List.mem_of_getElem? h)
  have h1:=ND L j off v X (X.set off v) hl h (by omega) (by simp)
  rw[KA,h1]
  obtain⟨hj,hx⟩:=List.getElem?_eq_some_iff.1 h
  have h2:=EG r (L.set j (X.set off v)) j (off+1) (X.set off v) X' (fun l hm=>by
   rcases List.mem_or_eq_of_mem_set hm with h|h
   ·exact hl l h
   ·rw[h];simpa using hX) (by rw[List.getElem?_set_self (by exact hj)]) (by omega) (by rw[KA] at he;simpa using he)
  rw[List.set_set] at h2
  exact h2
theorem xN:∀ (L:List (List Value)) (k j:Nat) (X:List Value),(∀ l∈L,l.length=87)→L[k]? =some X→j<87→L.flatten[k*87+j]? =X[j]?
 |[],k,j,X,_,h,_=>by simp at h
 |a::L,0,j,X,hl,h,hj=>by
  simp only[List.getElem?_cons_zero,Option.some.injEq] at h
  subst h
  have ha:=hl a (by simp)
  rw[Nat.zero_mul,Nat.zero_add,List.flatten_cons,List.getElem?_append_left (by omega)]
 |a::L,k+1,j,X,hl,h,hj=>by
  have ha:=hl a (by simp)
  have ih:=xN L k j X (fun l h=>hl l (by simp[h])) (by simpa using h) hj
  rw[List.flatten_cons,List.getElem?_append_right (by omega),ha,show (k+1)*87+j-87=k*87+j by omega,ih]
theorem bP {w:World} {lb k:Nat} {t:TypeId} {L:List (List Value)} {X:List Value} (h:l5 w lb t L.flatten.toArray) (hl:∀ l∈L,l.length=87) (hk:L[k]? =some X):w.rangeAt lb (k*87) X:=
 h.range (fun j v hv=>by
  have hj:j<87:=by
   have:=hl X (List.mem_of_getElem? hk)
   obtain⟨h1,_⟩:=List.getElem?_eq_some_iff.1 hv
   omega
  have:=xN L k j X hl hk hj
  rw[hv] at this
  simpa using this)
theorem gI (w:World) (l:List UInt8) (cs:Array Value) (h:cs=(l.map bv).toArray):QA (w.alloc (.cells cs 5)) (some ⟨w.heap.size,0,none⟩) w.heap.size l:=fun hne=>⟨0,rfl,(l5.new w _ cs).lt,fun j b hb=>by rw[(l5.new w _ cs).cell,h];simp[hb]⟩
theorem built6 (n:Int):prog.built 26 [(0,.int .i64 n),(1,.int .i64 1),(2,.int .i64 1)]=some (U8 ⟨n,1,1,0,I7.name,[]⟩ I4).toArray:=by kernel_rfl
theorem built7 (n:Int):prog.built 26 [(1,.int .i64 1),(2,.int .i64 4),(3,.int .i64 n)]=some (U8 ⟨0,1,4,n,I7.name,[]⟩ I4).toArray:=by kernel_rfl
theorem built8 (n:Int):prog.built 28 [(1,.int .i64 1),(4,.int .i64 n)]=some (x9 ⟨0,1,0,0,n,l8.name,[]⟩ I4).toArray:=by kernel_rfl
theorem gQ:∀ (L:List (List Value)) (k:Nat) (z:Array Value),(∀ l∈L,l.length=87)→(k+L.length)*87≤z.size→Instr.fill (fun i=>some (i*87,87)) z ((L.zipIdx k).map fun x=>(x.2,Value.agg x.1.toArray))=some (KA z (k*87) L.flatten)
 |[],k,z,_,_=>by simp[Instr.fill,KA]
 |a::L,k,z,hl,hs=>by
  have ha:=hl a (by simp)
  rw[List.length_cons] at hs
  rw[List.zipIdx_cons,List.map_cons,XA _ z k (.agg a.toArray) _ (k*87) 87 rfl (by show a.toArray.size=87;simp[ha]) (by omega)]
  show Instr.fill _ (KA z (k*87) a) _=_
  rw[gQ L (k+1) _ (fun l h=>hl l (by simp[h])) (by rw[bB];omega),lD a L.flatten z (k*87) ((k+1)*87) (by omega),List.flatten_cons]
def OH:List Int:=[-9223372036854775808, -2, -1,0,1,2,3,9,10,13,14,22,23,255,256,9007199254740990,9007199254740991,9007199254740992,9223372036854775807]
theorem WT {n:Int} (h:n∈OH):OA n:=by
 unfold OH at h
 unfold OA
 simp only[List.mem_cons,List.not_mem_nil,or_false] at h
 omega
def gG:CF:=⟨1,1,[10,11]⟩
def oQ:PK:={G9 with kind:=11}
theorem builtM:prog.built 34 [(0,.int .i64 11)]=some (q8 oQ I4 I4 I4 I4 I4).toArray:=by kernel_rfl
theorem LJ (k:Nat) (t:VT × Value):Z9 (List.replicate (k+1) t)=Z9 (List.replicate k t)++oD t.1 t.2:=by
 rw[List.replicate_succ',DD]
def pkV9:PK:={oQ with votes:=List.replicate 9 ⟨1,gG⟩}
def sW:PK:={oQ with votes:=List.replicate 8 ⟨1,gG⟩}
theorem vW:pkV9.ok=false:=by kernel_rfl
theorem uW:sW.ok=true:=by kernel_rfl
theorem vs_cut {w:World} {A:Option Addr} {c k:Nat} {t:VT × Value} {g:Nat} (hO:qA w 69 4 (.slice A (k+1) c) (k+1) (Z9 (List.replicate (k+1) t))) (hi:F8 w [g] t.2 t.1.conf.chain):xA w ([g]++Z6 (.slice A (k+1) c)) (.slice A k c) (List.replicate k t.1):=by
 obtain⟨A',c',e,h1,h2,h3,h4⟩:=hO.form
 injection e with e1 e2 e3
 subst e1 e3
 obtain⟨gh,hg⟩:=EA (.slice A (k+1) c)
 have hr:=h4 gh hg
 refine⟨A,c,gh,List.replicate k t,by rw[List.length_replicate],by rw[List.length_replicate];omega,h2,by simp,?_,fun s hs=>by rw[List.eq_of_mem_replicate hs];exact hi.more (fun y hy=>List.mem_append_left _ hy),fun hne=> ?_⟩
 ·rw[List.length_replicate]
  refine⟨by rw[sH,List.length_replicate],fun hk=> ?_⟩
  obtain⟨o,hA,hl,hc⟩:=hr.2 (by omega)
  refine⟨o,hA,hl,fun j u hu=>hc j u ?_⟩
  rw[LJ,List.getElem?_append_left (by obtain⟨h,_⟩:=List.getElem?_eq_some_iff.1 hu;exact h)]
  exact hu
 ·obtain⟨o,hA,_⟩:=hr.2 (by omega)
  rw[hA];simp[V8]
def fH (n:Nat):Array Value:=madeCells #[.int .u8 0] n
theorem uK (n:Nat):fH n=((List.replicate n (0:UInt8)).map bv).toArray:=by
 have h:(fH n).toList=(List.replicate n (0:UInt8)).map bv:=by
  unfold fH madeCells
  simp only[Array.toList_map,Array.toList_range,List.map_replicate]
  apply List.ext_getElem (by simp)
  intro i h1 h2
  simp[bv,Nat.mod_one]
 rw[←h]
theorem RJ (n:Nat) (h:n≤281474976710656) (w:World):
 (Instr.makeSlice 24 (.int .i64 (n:Int)) (.int .i64 (n:Int))).run prog w= .ok (.slice (some ⟨w.heap.size,0,none⟩) n n) (w.alloc (.cells (fH n) 5)):=
 run_make_row' 24 5 (.int .u8 0) 1 underlying24 gP rfl .i64 .i64 n (by omega) (by omega) w
theorem nT (A:Option Addr) (n c:Nat) (l:List UInt8):prog.built 26 [(1,.int .i64 1),(2,.int .i64 2),(3,.int .i64 1),(5,.slice A n c)]=some (U8 ⟨0,1,2,1,I7.name,l⟩ (.slice A n c)).toArray:=by kernel_rfl
theorem AO (A:Option Addr) (n c:Nat):prog.built 34 [(0,.int .i64 6),(11,.slice A n c)]=some (q8 {G9 with kind:=6} I4 I4 I4 I4 (.slice A n c)).toArray:=by kernel_rfl
def pG (n:Nat):PK:=BR (List.replicate n 0)
theorem qW:(pG 32768).ok=true:=wU _ (by rw[List.length_replicate];decide)
theorem CR:AA (wH (pG 32768))=(pG 32768,0):=by
 unfold pG
 rw[bX _ (List.length_replicate ..),vU _ (List.length_replicate ..)]
theorem uU:(wH (pG 32768)).length≤1000000:=by
 unfold pG
 rw[bX _ (List.length_replicate ..)]
 simp only[List.length_cons,List.length_replicate]
 omega
theorem big_no (l:List UInt8) (h:l.length=1025):(⟨0,1,2,1,I7.name,l⟩:RQ).ok=false:=by
 cases hk:(⟨0,1,2,1,I7.name,l⟩:RQ).ok
 ·rfl
 ·have:=RQ.ok_env hk
  have h2:l.length≤1024:=this
  omega
def KL (s:Nat):List (CF × Value × List Nat):=[(⟨0,0,[]⟩,I4,[]),(⟨0,1,[]⟩,I4,[]),(⟨0,0,[10]⟩,.slice (some ⟨s,0,none⟩) 1 1,[s]),(⟨0,2,[10]⟩,.slice (some ⟨s+1,0,none⟩) 1 1,[s+1]),(⟨0,1,[9]⟩,.slice (some ⟨s+1+1,0,none⟩) 1 1,[s+1+1]),(⟨0,1,[14]⟩,.slice (some ⟨s+1+1+1,0,none⟩) 1 1,[s+1+1+1]),(⟨0,1,[10,11,12,13,10]⟩,.slice (some ⟨s+1+1+1+1,0,none⟩) 5 5,[s+1+1+1+1]),(⟨-1,1,[10]⟩,.slice (some ⟨s+1+1+1+1+1,0,none⟩) 1 1,[s+1+1+1+1+1])]
theorem aV (s:Nat):∀ t∈KL s,t.1.ok=false:=by
 intro t ht
 simp only[KL,List.mem_cons,List.not_mem_nil,or_false] at ht
 rcases ht with rfl|rfl|rfl|rfl|rfl|rfl|rfl|rfl<;>kernel_rfl
def CG:List (CF × Value × List Nat)→List Value
 |[]=>[]
 |t::r=>bA t.1 t.2.1++CG r
theorem WK:∀ (T:List (CF × Value × List Nat)) (k j:Nat) (t:CF × Value × List Nat),T[k]? =some t→j<3→(CG T)[k*3+j]? =(bA t.1 t.2.1)[j]?
 |[],k,j,t,h,_=>by simp at h
 |a::T,0,j,t,h,hj=>by
  simp only[List.getElem?_cons_zero,Option.some.injEq] at h
  subst h
  rw[Nat.zero_mul,Nat.zero_add,CG,List.getElem?_append_left (by simpa[bA] using hj)]
 |a::T,k+1,j,t,h,hj=>by
  have ih:=WK T k j t (by simpa using h) hj
  rw[CG,List.getElem?_append_right (by simp[bA];omega),←ih]
  congr 1
  simp[bA]
  omega
theorem JS (w:World):∃ z,(((((((w.alloc (.cells #[.int .i64 10] 3)).alloc (.cells #[.int .i64 10] 3)).alloc (.cells #[.int .i64 9] 3)).alloc (.cells #[.int .i64 14] 3)).alloc (.cells #[.int .i64 10,.int .i64 11,.int .i64 12,.int .i64 13,.int .i64 10] 3)).alloc (.cells #[.int .i64 10] 3)).alloc (.cells #[.int .i64 0,.int .i64 0,.slice none 0 0,.int .i64 0,.int .i64 1,.slice none 0 0,.int .i64 0,.int .i64 0,.slice (some ⟨w.heap.size,0,none⟩) 1 1,.int .i64 0,.int .i64 2,.slice (some ⟨w.heap.size+1,0,none⟩) 1 1,.int .i64 0,.int .i64 1,.slice (some ⟨w.heap.size+1+1,0,none⟩) 1 1,.int .i64 0,.int .i64 1,.slice (some ⟨w.heap.size+1+1+1,0,none⟩) 1 1,.int .i64 0,.int .i64 1,.slice (some ⟨w.heap.size+1+1+1+1,0,none⟩) 5 5,.int .i64 (-1),.int .i64 1,.slice (some ⟨w.heap.size+1+1+1+1+1,0,none⟩) 1 1] 31))=z∧U1 [] w z∧l5 z (w.heap.size+1+1+1+1+1+1) 31 (CG (KL w.heap.size)).toArray∧(∀ t∈KL w.heap.size,F8 z t.2.2 t.2.1 t.1.chain):=by
 have r0:=l5.new w 3 (([10]:List Int).map (Value.int .i64)).toArray
 have k0:=(U1.refl [] w).alloc (.cells (([10]:List Int).map (Value.int .i64)).toArray 3)
 have s0:(w.alloc (.cells (([10]:List Int).map (Value.int .i64)).toArray 3)).heap.size=w.heap.size+1:=World.size_alloc _ _
 obtain⟨a0,h0⟩:∃ W,w.alloc (.cells (([10]:List Int).map (Value.int .i64)).toArray 3)=W:=⟨_,rfl⟩
 rw[h0] at r0 k0 s0
 have r1:=l5.new a0 3 (([10]:List Int).map (Value.int .i64)).toArray
 have k1:=(U1.refl [] a0).alloc (.cells (([10]:List Int).map (Value.int .i64)).toArray 3)
 have s1:(a0.alloc (.cells (([10]:List Int).map (Value.int .i64)).toArray 3)).heap.size=a0.heap.size+1:=World.size_alloc _ _
 obtain⟨a1,h1⟩:∃ W,a0.alloc (.cells (([10]:List Int).map (Value.int .i64)).toArray 3)=W:=⟨_,rfl⟩
 rw[h1] at r1 k1 s1
 rw[s0] at r1 s1
 have r2:=l5.new a1 3 (([9]:List Int).map (Value.int .i64)).toArray
 have k2:=(U1.refl [] a1).alloc (.cells (([9]:List Int).map (Value.int .i64)).toArray 3)
 have s2:(a1.alloc (.cells (([9]:List Int).map (Value.int .i64)).toArray 3)).heap.size=a1.heap.size+1:=World.size_alloc _ _
 obtain⟨a2,h2⟩:∃ W,a1.alloc (.cells (([9]:List Int).map (Value.int .i64)).toArray 3)=W:=⟨_,rfl⟩
 rw[h2] at r2 k2 s2
 rw[s1] at r2 s2
 have r3:=l5.new a2 3 (([14]:List Int).map (Value.int .i64)).toArray
 have k3:=(U1.refl [] a2).alloc (.cells (([14]:List Int).map (Value.int .i64)).toArray 3)
 have s3:(a2.alloc (.cells (([14]:List Int).map (Value.int .i64)).toArray 3)).heap.size=a2.heap.size+1:=World.size_alloc _ _
 obtain⟨a3,h3⟩:∃ W,a2.alloc (.cells (([14]:List Int).map (Value.int .i64)).toArray 3)=W:=⟨_,rfl⟩
 rw[h3] at r3 k3 s3
 rw[s2] at r3 s3
 have r4:=l5.new a3 3 (([10,11,12,13,10]:List Int).map (Value.int .i64)).toArray
 have k4:=(U1.refl [] a3).alloc (.cells (([10,11,12,13,10]:List Int).map (Value.int .i64)).toArray 3)
 have s4:(a3.alloc (.cells (([10,11,12,13,10]:List Int).map (Value.int .i64)).toArray 3)).heap.size=a3.heap.size+1:=World.size_alloc _ _
 obtain⟨a4,h4⟩:∃ W,a3.alloc (.cells (([10,11,12,13,10]:List Int).map (Value.int .i64)).toArray 3)=W:=⟨_,rfl⟩
 rw[h4] at r4 k4 s4
 rw[s3] at r4 s4
 have r5:=l5.new a4 3 (([10]:List Int).map (Value.int .i64)).toArray
 have k5:=(U1.refl [] a4).alloc (.cells (([10]:List Int).map (Value.int .i64)).toArray 3)
 have s5:(a4.alloc (.cells (([10]:List Int).map (Value.int .i64)).toArray 3)).heap.size=a4.heap.size+1:=World.size_alloc _ _
 obtain⟨a5,h5⟩:∃ W,a4.alloc (.cells (([10]:List Int).map (Value.int .i64)).toArray 3)=W:=⟨_,rfl⟩
 rw[h5] at r5 k5 s5
 rw[s4] at r5 s5
 have r6:=l5.new a5 31 (CG (KL w.heap.size)).toArray
 have k6:=(U1.refl [] a5).alloc (.cells (CG (KL w.heap.size)).toArray 31)
 obtain⟨z,hz⟩:∃ W,a5.alloc (.cells (CG (KL w.heap.size)).toArray 31)=W:=⟨_,rfl⟩
 rw[hz] at r6 k6
 rw[s5] at r6
 have e:(((((((w.alloc (.cells #[.int .i64 10] 3)).alloc (.cells #[.int .i64 10] 3)).alloc (.cells #[.int .i64 9] 3)).alloc (.cells #[.int .i64 14] 3)).alloc (.cells #[.int .i64 10,.int .i64 11,.int .i64 12,.int .i64 13,.int .i64 10] 3)).alloc (.cells #[.int .i64 10] 3)).alloc (.cells #[.int .i64 0,.int .i64 0,.slice none 0 0,.int .i64 0,.int .i64 1,.slice none 0 0,.int .i64 0,.int .i64 0,.slice (some ⟨w.heap.size,0,none⟩) 1 1,.int .i64 0,.int .i64 2,.slice (some ⟨w.heap.size+1,0,none⟩) 1 1,.int .i64 0,.int .i64 1,.slice (some ⟨w.heap.size+1+1,0,none⟩) 1 1,.int .i64 0,.int .i64 1,.slice (some ⟨w.heap.size+1+1+1,0,none⟩) 1 1,.int .i64 0,.int .i64 1,.slice (some ⟨w.heap.size+1+1+1+1,0,none⟩) 5 5,.int .i64 (-1),.int .i64 1,.slice (some ⟨w.heap.size+1+1+1+1+1,0,none⟩) 1 1] 31))=z:=by
  rw[←hz,←h5,←h4,←h3,←h2,←h1,←h0]
  rfl
 refine⟨z,e,(((((k0.then k1 (by simp)).then k2 (by simp)).then k3 (by simp)).then k4 (by simp)).then k5 (by simp)).then k6 (by simp),r6,fun t ht=> ?_⟩
 simp only[KL,List.mem_cons,List.not_mem_nil,or_false] at ht
 rcases ht with rfl|rfl|rfl|rfl|rfl|rfl|rfl|rfl
 ·exact F8.nil _ _
 ·exact F8.nil _ _
 ·exact F8.row (l:=[10]) (k6.row (k5.row (k4.row (k3.row (k2.row (k1.row r0 (by simp)) (by simp)) (by simp)) (by simp)) (by simp)) (by simp)) (by unfold maxLen;decide)
 ·exact F8.row (l:=[10]) (k6.row (k5.row (k4.row (k3.row (k2.row r1 (by simp)) (by simp)) (by simp)) (by simp)) (by simp)) (by unfold maxLen;decide)
 ·exact F8.row (l:=[9]) (k6.row (k5.row (k4.row (k3.row r2 (by simp)) (by simp)) (by simp)) (by simp)) (by unfold maxLen;decide)
 ·exact F8.row (l:=[14]) (k6.row (k5.row (k4.row r3 (by simp)) (by simp)) (by simp)) (by unfold maxLen;decide)
 ·exact F8.row (l:=[10,11,12,13,10]) (k6.row (k5.row r4 (by simp)) (by simp)) (by unfold maxLen;decide)
 ·exact F8.row (l:=[10]) (k6.row r5 (by simp)) (by unfold maxLen;decide)
theorem MO {w:World} {g:Nat} {t:TypeId} {l:List UInt8} (h:l5 w g t (l.map bv).toArray) (m:Nat) (hm:m≤l.length) (hl:l.length≤maxLen):G7 w [g] (.slice (some ⟨g,0,none⟩) m l.length) (l.take m):=by
 have e:(l.take m).length=m:=by rw[List.length_take];omega
 refine⟨some ⟨g,0,none⟩,l.length,g,by rw[e],by omega,hl,fun hne=>⟨0,rfl,h.lt,fun j b hb=> ?_⟩,fun _=>by simp⟩
 have hb':l[j]? =some b:=by
  rw[List.getElem?_take] at hb
  split at hb
  ·exact hb
  ·cases hb
 rw[h.cell]
 simp[hb']
theorem PK.ok_bytes {p:PK} (h:p.ok=true):p.bytes.length≤32768:=by
 rw[←vH] at h
 simp only[PK.okD,Bool.and_eq_true] at h
 have hp:=h.2
 simp only[PK.partsD,Bool.and_eq_true] at hp
 obtain⟨_,hb,_⟩:=hp
 simp only[Bool.or_eq_true,Bool.and_eq_true,decide_eq_true_eq] at hb
 omega
theorem pW:(pG 32769).ok=false:=by
 cases h:(pG 32769).ok
 ·rfl
 ·have:=PK.ok_bytes h
  unfold pG BR at this
  rw[List.length_replicate] at this
  omega
def YK (w1 w:World) (mb eb k:Nat):Prop:=∃ A c,l5 w mb 34 (q8 oQ I4 I4 I4 (.slice A k c) I4).toArray∧qA w 69 4 (.slice A k c) k (Z9 (List.replicate k (⟨1,gG⟩,.slice (some ⟨eb+1,0,none⟩) 2 2)))∧(∀ y∈Z6 (.slice A k c),mb<y)∧U1 [] w1 w∧w1.heap.size≤mb
theorem YK.step {w1 wr u8 w9:World} {mb eb k c c6:Nat} {A A6:Option Addr} (hrow:l5 wr mb 34 (q8 oQ I4 I4 I4 (.slice A k c) I4).toArray) (hhom:∀ y∈Z6 (.slice A k c),mb<y) (hkp:U1 [] w1 wr) (hmb:w1.heap.size≤mb) (ka:U1 [] wr u8)
 (o9:qA w9 69 4 (.slice A6 (k+1) c6) (k+1) (Z9 (List.replicate k (⟨1,gG⟩,.slice (some ⟨eb+1,0,none⟩) 2 2))++oD ⟨1,gG⟩ (.slice (some ⟨eb+1,0,none⟩) 2 2))) (k9:U1 (Z6 (.slice A k c)) u8 w9) (h9:∀ x∈Z6 (.slice A6 (k+1) c6),x∈Z6 (.slice A k c)∨u8.heap.size≤x):
 YK w1 (w9.setCell ⟨mb,85,none⟩ (.slice A6 (k+1) c6)) mb eb (k+1):=by
 have k10:U1 [mb] w9 (w9.setCell ⟨mb,85,none⟩ (.slice A6 (k+1) c6)):=(U1.refl [mb] _).setCell _ _ (.inl (by simp))
 have r9:=k9.row (ka.row hrow (by simp)) (fun hm=>Nat.lt_irrefl _ (hhom _ hm))
 have s8:=ka.size
 have hlt:=hrow.lt
 have hh:∀ y∈Z6 (.slice A6 (k+1) c6),mb<y:=fun y hy=>(h9 y hy).elim (hhom y) (fun h=>by omega)
 refine⟨A6,c6,?_,?_,hh,((hkp.then ka (by simp)).then k9 (fun x hx=> .inr (by have:=hhom x hx;omega))).then k10 (fun x hx=> .inr (by simp at hx;omega)),hmb⟩
 ·have:=r9.set 85 (.slice A6 (k+1) c6)
  rw[show (q8 oQ I4 I4 I4 (.slice A k c) I4).toArray.setIfInBounds 85 (.slice A6 (k+1) c6)=(q8 oQ I4 I4 I4 (.slice A6 (k+1) c6) I4).toArray from YE (q:=oQ) j6 F6 [] _] at this
  exact this
 ·rw[LJ]
  exact o9.keep k10 (fun y hy=>by have:=hh y hy;simp;omega)
def EN:Prop:=∀ (k:Int) (F:List Nat) (v:Value) (w:World), -1≤k→k≤14→G7 w F v [1,2,3]→Calls prog 39 #[.agg #[.int .i64 k,.int .i64 0,.int .i64 0,.int .i64 1,.int .i64 2,.int .i64 1,.int .i64 3,.int .i64 4,v]] w fun e w'=>∃ p X G,e= .returned (.agg (X:List Value).toArray)∧iB w' G (p,X)∧I9 w w' G∧OA p.frm∧OA p.dst∧U1 [] w w'
theorem CK (w:World) (hfl:zB w) (hmd:EN):
 Calls prog 5 #[] w fun e w'=>e= .returned (.bool true)∧U1 [] w w':=by
 have HMD:=U0 hmd
 have HFL:=U0 hfl
 clear hmd hfl
 obtain⟨w1,hw1⟩:∃ W,((w.alloc (.cells (OH.map (Value.int .i64)).toArray 3)).alloc (.cells #[.int .i64 10,.int .i64 11] 3)).alloc (.cells #[.int .i64 1,.int .i64 1,.slice (some ⟨w.heap.size+1,0,none⟩) 2 2] 31)=W:=⟨_,rfl⟩
 have ra:=l5.new w 3 (OH.map (Value.int .i64)).toArray
 have ka:=(U1.refl [] w).alloc (.cells (OH.map (Value.int .i64)).toArray 3)
 have sa:(w.alloc (.cells (OH.map (Value.int .i64)).toArray 3)).heap.size=w.heap.size+1:=World.size_alloc _ _
 obtain⟨wa,hwa⟩:∃ W,w.alloc (.cells (OH.map (Value.int .i64)).toArray 3)=W:=⟨_,rfl⟩
 rw[hwa] at hw1 ra ka sa
 have rb:=l5.new wa 3 (([10,11]:List Int).map (Value.int .i64)).toArray
 have kb:=(U1.refl [] wa).alloc (.cells (([10,11]:List Int).map (Value.int .i64)).toArray 3)
 have sb:(wa.alloc (.cells (([10,11]:List Int).map (Value.int .i64)).toArray 3)).heap.size=wa.heap.size+1:=World.size_alloc _ _
 have hw1':(wa.alloc (.cells (([10,11]:List Int).map (Value.int .i64)).toArray 3)).alloc (.cells (bA gG (.slice (some ⟨w.heap.size+1,0,none⟩) 2 2)).toArray 31)=w1:=hw1
 obtain⟨wb,hwb⟩:∃ W,wa.alloc (.cells (([10,11]:List Int).map (Value.int .i64)).toArray 3)=W:=⟨_,rfl⟩
 rw[hwb] at hw1' rb kb sb
 have rc:=l5.new wb 31 (bA gG (.slice (some ⟨w.heap.size+1,0,none⟩) 2 2)).toArray
 have kc:=(U1.refl [] wb).alloc (.cells (bA gG (.slice (some ⟨w.heap.size+1,0,none⟩) 2 2)).toArray 31)
 rw[hw1'] at rc kc
 have iv:F8 w1 [w.heap.size+1] (.slice (some ⟨w.heap.size+1,0,none⟩) 2 2) [10,11]:=by
  have:=F8.row (l:=[10,11]) (kc.row rb (by simp)) (by unfold maxLen;decide)
  rw[sa] at this
  exact this
 have e2:w.heap.size+1+1=wb.heap.size:=by rw[sb,sa]
 have R1:=U0 (U2 (kc.row (kb.row ra (by simp)) (by simp)) (U2 iv (show l5 w1 (w.heap.size+1+1) 31 (bA gG (.slice (some ⟨w.heap.size+1,0,none⟩) 2 2)).toArray by rw[e2];exact rc)))
 have K1:=U0 ((ka.then kb (by simp)).then kc (by simp))
 have HW:=U0 hw1
 rw[←hwa] at hw1
 have HW:=U0 hw1
 clear hw1 hw1' ra ka sa hwa rb kb sb hwb rc kc iv e2
 have zv:=KE
 obtain⟨Z,hZ⟩:∃ Z,q8 G9 I4 I4 I4 I4 I4=Z:=⟨_,rfl⟩
 have zl:=IC
 rw[hZ] at zv zl
 have HZ:=U0 (U2 zv zl)
 clear zv zl hZ
 have HI0:∃ (ie:TypeInfo) (zP:Value),prog.info? 34=some ie∧ie.size=87∧ie.zero=some zP:=by
  cases h:prog.info? 34 with
  |none=>have:=I5;rw[h] at this;cases this
  |some ie=>exact⟨ie,_,rfl,by have:=I5;rw[h] at this;simpa using this,by have:=KE;rw[h] at this;exact this⟩
 obtain⟨ie,zP,hi1,hi2,hi3⟩:=HI0
 have HI:=U0 (U2 hi1 (U2 hi2 hi3))
 clear hi1 hi2 hi3
 go_enter func5,ntmps5
 go_upto_region 3 with fail
 rw[show (((w.alloc (.cells #[.int .i64 (-9223372036854775808),.int .i64 (-2),.int .i64 (-1),.int .i64 0,.int .i64 1,.int .i64 2,.int .i64 3,.int .i64 9,.int .i64 10,.int .i64 13,.int .i64 14,.int .i64 22,.int .i64 23,.int .i64 255,.int .i64 256,.int .i64 9007199254740990,.int .i64 9007199254740991,.int .i64 9007199254740992,.int .i64 9223372036854775807] 3)).alloc (.cells #[.int .i64 10,.int .i64 11] 3)).alloc (.cells #[.int .i64 1,.int .i64 1,.slice (some ⟨w.heap.size+1,0,none⟩) 2 2] 31))=w1 from HW.o]
 obtain⟨eb,heb⟩:∃ n,w.heap.size=n:=⟨_,rfl⟩
 rw[heb] at R1
 simp only[heb]
 have HEB:=U0 heb
 clear heb HW
 go_wp2_with fail
 go_loopw [3,4,5,6,7,8] (fun v3 _ _ _ _ _ wx=>∃ i:Nat,i≤16∧v3= .int .i64 (i:Int)∧V5 (U1 [] w1 wx)) (fun v3 _ _ _ _ _ _=>16-(intOf v3).toNat)
 case atStart=>exact⟨0,by omega,rfl,U0 (U1.refl _ _)⟩
 case round=>
  obtain⟨i,hi,rfl,KI⟩:=hrel
  by_cases hlt:i<16
  ·have hlt1:(i:Int)<16:=by omega
   have hi0:(0:Int)≤(i:Int):=by omega
   have hw1:IntKind.i64.wrap ((i:Int)-1)=(i:Int)-1:=by rw[IntKind.wrap_i64];omega
   go_upto_region 7 with (first
    |(go_at_call 39;refine (HMD.o _ [wr.heap.size] _ _ (by omega) (by omega) (G7.row (l:=[1,2,3]) (l5.new wr _ _) (by unfold maxLen;decide))).mono ?_;rintro e w2 ⟨p,X,G,rfl,it,nG,pf,pd,k2⟩;have xl:=it.len;have xo:=it.one;have M2:=U0 (U2 it (U2 nG (U2 pf (U2 pd (U2 (((U1.refl [] wr).alloc _).then k2 (by simp)) (U2 xl xo))))));clear it nG pf pd k2 xl xo)
    |(with_reducible refine F5 _ _ rfl 34 rfl _ HZ.o.1 rfl ?_)
    |(refine wpList_store_mid rfl 34 (.tmp 4) (.tmp 34) rfl w2.heap.size 0 X.toArray rfl rfl (aB (by rw[M2.o.2.2.2.2.2.1];exact HZ.o.2.symm)) (by rw[U4,M2.o.2.2.2.2.2.1];exact I5) (all_oneCell_toArray M2.o.2.2.2.2.2.2) ?_))
   have hst:=qC (w:=w2) (t:=34) (Z:=Z) (X:=X) (by rw[M2.o.2.2.2.2.2.1];exact HZ.o.2.symm)
   obtain⟨w3,hw⟩:∃ W,(w2.alloc (.cells Z.toArray 34)).setCells w2.heap.size 0 X=W:=⟨_,rfl⟩
   rw[hw] at hst ⊢
   obtain⟨bb,ht⟩:∃ t,w2.heap.size=t:=⟨_,rfl⟩
   rw[ht] at hst ⊢
   have hk3:U1 [] wr w3:=M2.o.2.2.2.2.1.then hst.2 (by simp)
   have hgs:∀ y∈G,y<bb:=fun y hy=>by have:=(M2.o.2.1 y hy).2;omega
   have hgw:wr.heap.size≤bb:=by have:=M2.o.2.2.2.2.1.size;omega
   have hpv:∃ ev av cv vv bw,X=q8 p ev av cv vv bw∧wD w3 G p ev av cv vv bw:=by
    obtain⟨ev,av,cv,vv,bw,h1,h2⟩:=M2.o.1.keep hst.2 (by simp)
    exact⟨ev,av,cv,vv,bw,h1,h2⟩
   obtain⟨ev,av,cv,vv,bw,hX,hv⟩:=hpv
   have c0:w3.cell? ⟨bb,0,none⟩=some (.int .i64 p.kind):=(hst.1.cell 0).trans (by rw[hX];rfl)
   have f0:=hst.1.free 0
   have k4:U1 [bb] w3 (w3.setCell ⟨bb,0,none⟩ (.int .i64 (i:Int))):=(U1.refl [bb] w3).setCell _ _ (.inl (by simp))
   have r4:l5 (w3.setCell ⟨bb,0,none⟩ (.int .i64 (i:Int))) bb 34 (q8 {p with kind:=(i:Int)} ev av cv vv bw).toArray:=by
    have:=hst.1.set 0 (.int .i64 (i:Int))
    rw[hX,show (q8 p ev av cv vv bw).toArray.setIfInBounds 0 (.int .i64 (i:Int))=(q8 {p with kind:=(i:Int)} ev av cv vv bw).toArray by simp[q8]] at this
    exact this
   have v4:wD (w3.setCell ⟨bb,0,none⟩ (.int .i64 (i:Int))) G {p with kind:=(i:Int)} ev av cv vv bw:=by
    have h:=hv.keep k4 (fun y hy=>by have:=hgs y hy;simp;omega)
    exact⟨h.rn,h.an,h.re,h.ae,h.cc,h.vs,h.bs⟩
   have k14:U1 [] w1 (w3.setCell ⟨bb,0,none⟩ (.int .i64 (i:Int))):=(KI.o.then hk3 (by simp)).then k4 (fun x hx=> .inr (by simp at hx;have:=KI.o.size;omega))
   obtain⟨q,hq⟩:∃ x,({p with kind:=(i:Int)}:PK)=x:=⟨_,rfl⟩
   obtain⟨wB,hwB⟩:∃ W,w3.setCell ⟨bb,0,none⟩ (.int .i64 (i:Int))=W:=⟨_,rfl⟩
   rw[hq,hwB] at r4 v4
   rw[hwB] at k14 k4
   have hqf:OA q.frm∧OA q.dst:=by rw[←hq];exact⟨M2.o.2.2.1,M2.o.2.2.2.1⟩
   have BB:=U0 (U2 r4 (U2 v4 (U2 (fun y hy=>(by have:=hgs y hy;have:=r4.lt;omega):∀ y∈G,y<wB.heap.size) (U2 hqf k14))))
   go_upto_region 8 with fail
   try rw[hwB]
   clear hst hw ht hk3 hgs hgw hX hv c0 f0 k4 r4 v4 k14 hq hwB hqf M2
   go_wp2_with fail
   go_loopw [5,6,7,8] (fun v5 _ _ _ wx=>∃ j:Nat,j≤19∧v5= .int .i64 (j:Int)∧V5 (U1 [] wB wx)) (fun v5 _ _ _ _=>19-(intOf v5).toNat)
   case atStart=>exact⟨0,by omega,rfl,U0 (U1.refl _ _)⟩
   case round=>
    obtain⟨j,hj,rfl,KJ⟩:=hrel
    by_cases hlj:j<19
    ·have hlj0:j<19:=hlj
     have hlj':(j:Int)<19:=by omega
     have hj0:(0:Int)≤(j:Int):=by omega
     have KWB:U1 [] wB wr:=KJ.o
     have KW1:U1 [] w1 wr:=BB.o.2.2.2.2.then KWB (by simp)
     obtain⟨n,hn⟩:∃ n,OH[j]? =some n:=⟨_,List.getElem?_eq_getElem (show j<OH.length from hlj)⟩
     have hni:OA n:=WT (List.mem_of_getElem? hn)
     have ce:wr.cell? ⟨eb,j,none⟩=some (.int .i64 n):=((KW1.row R1.o.1 (by simp)).cell j).trans (by simp[hn])
     have HN:=U0 (U2 hni (U2 hn (U2 KWB KW1)))
     clear hn hni
     obtain⟨X,hX⟩:∃ X,q8 q ev av cv vv bw=X:=⟨_,rfl⟩
     have hv:=BB.o.2.1
     have xl:X.length=87:=by rw[←hX];exact G8 hv.rn hv.an
     have rX:l5 wr bb 34 X.toArray:=by rw[←hX];exact KWB.row BB.o.1 (by simp)
     have HX:=U0 (U2 xl (U2 hX rX))
     obtain⟨C,hC⟩:∃ C,([X,X,X,X,X,X,X,X,X,X,X]:List (List Value)).flatten.toArray=C:=⟨_,rfl⟩
     have HFI:V5 (∀ z:Array Value,z.size=957→Instr.fill (fun i=>some (i*87,87)) z [(0,.agg X.toArray),(1,.agg X.toArray),(2,.agg X.toArray),(3,.agg X.toArray),(4,.agg X.toArray),(5,.agg X.toArray),(6,.agg X.toArray),(7,.agg X.toArray),(8,.agg X.toArray),(9,.agg X.toArray),(10,.agg X.toArray)]=some C):=U0 (fun z hz=>by
      have h:=gQ [X,X,X,X,X,X,X,X,X,X,X] 0 z (by simp[xl]) (by rw[hz];simp)
      rw[Nat.zero_mul,F7 (by rw[hz];simp[xl])] at h
      rw[←hC];exact h)
     have KWR:=KWB
     clear xl rX KWB KW1 hv
     go_upto_region 12 with fail
     clear ce
     go_upto_region 13 with (first
      |(refine wpList_load_mid rfl 34 (.tmp 4) rfl bb 0 rfl X _ HX.o.2.2.rangeAll underlying34 rfl (by rw[HX.o.1];exact I5) ?_;(try simp only[Act.put,F3,U3,V3]);refine wpList_load_mid rfl 34 (.tmp 4) rfl bb 0 rfl X _ HX.o.2.2.rangeAll underlying34 rfl (by rw[HX.o.1];exact I5) ?_;(try simp only[Act.put,F3,U3,V3]);refine wpList_load_mid rfl 34 (.tmp 4) rfl bb 0 rfl X _ HX.o.2.2.rangeAll underlying34 rfl (by rw[HX.o.1];exact I5) ?_;(try simp only[Act.put,F3,U3,V3]);refine wpList_load_mid rfl 34 (.tmp 4) rfl bb 0 rfl X _ HX.o.2.2.rangeAll underlying34 rfl (by rw[HX.o.1];exact I5) ?_;(try simp only[Act.put,F3,U3,V3]);refine wpList_load_mid rfl 34 (.tmp 4) rfl bb 0 rfl X _ HX.o.2.2.rangeAll underlying34 rfl (by rw[HX.o.1];exact I5) ?_;(try simp only[Act.put,F3,U3,V3]);refine wpList_load_mid rfl 34 (.tmp 4) rfl bb 0 rfl X _ HX.o.2.2.rangeAll underlying34 rfl (by rw[HX.o.1];exact I5) ?_;(try simp only[Act.put,F3,U3,V3]);refine wpList_load_mid rfl 34 (.tmp 4) rfl bb 0 rfl X _ HX.o.2.2.rangeAll underlying34 rfl (by rw[HX.o.1];exact I5) ?_;(try simp only[Act.put,F3,U3,V3]);refine wpList_load_mid rfl 34 (.tmp 4) rfl bb 0 rfl X _ HX.o.2.2.rangeAll underlying34 rfl (by rw[HX.o.1];exact I5) ?_;(try simp only[Act.put,F3,U3,V3]);refine wpList_load_mid rfl 34 (.tmp 4) rfl bb 0 rfl X _ HX.o.2.2.rangeAll underlying34 rfl (by rw[HX.o.1];exact I5) ?_;(try simp only[Act.put,F3,U3,V3]);refine wpList_load_mid rfl 34 (.tmp 4) rfl bb 0 rfl X _ HX.o.2.2.rangeAll underlying34 rfl (by rw[HX.o.1];exact I5) ?_;(try simp only[Act.put,F3,U3,V3]);refine wpList_load_mid rfl 34 (.tmp 4) rfl bb 0 rfl X _ HX.o.2.2.rangeAll underlying34 rfl (by rw[HX.o.1];exact I5) ?_;(try simp only[Act.put,F3,U3,V3]);refine wpList_buildSlice rfl 67 34 11 _ rfl C ie zP underlying67 HI.o.1 HI.o.2.2 (by rw[HI.o.2.1];decide) (by rw[HI.o.2.1];decide) (by rw[HI.o.2.1];simp only[List.map_toArray,List.map_cons,List.map_nil];exact HFI.o _ (by rw[Array.size_map,Array.size_range])) ?_))
     clear HFI
     have rL0:=l5.new wr 34 C
     have kL0:=(U1.refl [] wr).alloc (.cells C 34)
     obtain⟨lb,hlb⟩:∃ b,wr.heap.size=b:=⟨_,rfl⟩
     obtain⟨m0,hm0⟩:∃ W,wr.alloc (.cells C 34)=W:=⟨_,rfl⟩
     rw[hlb,hm0,←hC] at rL0
     rw[hm0] at kL0
     rw[hm0]
     simp only[hlb]
     have M0:=U0 (U2 rL0 kL0)
     have HLB:=U0 hlb
     clear rL0 kL0 hm0 hlb hC
     obtain⟨Y0,hY0⟩:∃ Y,q8 ({q with frm:=n}:PK) ev av cv vv bw=Y:=⟨_,rfl⟩
     have HY0:=U0 hY0
     have yl0:Y0.length=87:=by rw[←hY0];exact G8 BB.o.2.1.rn BB.o.2.1.an
     have HL0:V5 (∀ l∈([X,X,X,X,X,X,X,X,X,X,X]:List (List Value)),l.length=87):=U0 (by simp[HX.o.1])
     have HZ0:=U0 yl0
     obtain⟨u,hu⟩:∃ u,([X,X,X,X,X,X,X,X,X,X,X]:List (List Value)).flatten.toArray[1]? =some u:=⟨_,Array.getElem?_eq_getElem (by simp[HX.o.1])⟩
     have y:m0.cell? ⟨lb,1,none⟩=some u:=(M0.o.1.cell 1).trans hu
     have y2:=M0.o.1.free 1
     clear hY0 yl0 hu
     go_upto_region 14 with fail
     clear y y2
     obtain⟨m1,hm⟩:∃ W,m0.setCell ⟨lb,1,none⟩ (.int .i64 n)=W:=⟨_,rfl⟩
     have M1:=U0 (show l5 m1 lb 34 ([Y0,X,X,X,X,X,X,X,X,X,X]:List (List Value)).flatten.toArray∧U1 [] wr m1 by
      rw[←hm]
      exact⟨by have h:=ND [X,X,X,X,X,X,X,X,X,X,X] 0 1 (.int .i64 n) X Y0 HL0.o rfl (by decide) (by rw[←HX.o.2.1,←HY0.o];simp[q8]);rw[show 0*87+1=1 from rfl] at h;have r:=M0.o.1.set 1 (.int .i64 n);rw[h] at r;exact r,M0.o.2.setCell ⟨lb,1,none⟩ _ (.inr (by show wr.heap.size≤lb;rw[HLB.o];exact Nat.le_refl _))⟩)
     try rw[hm]
     clear hm
     obtain⟨Y1,hY1⟩:∃ Y,q8 ({q with dst:=n}:PK) ev av cv vv bw=Y:=⟨_,rfl⟩
     have HY1:=U0 hY1
     have yl1:Y1.length=87:=by rw[←hY1];exact G8 BB.o.2.1.rn BB.o.2.1.an
     have HL1:V5 (∀ l∈([Y0,X,X,X,X,X,X,X,X,X,X]:List (List Value)),l.length=87):=U0 (by simp[HX.o.1,HZ0.o])
     have HZ1:=U0 yl1
     obtain⟨u,hu⟩:∃ u,([Y0,X,X,X,X,X,X,X,X,X,X]:List (List Value)).flatten.toArray[89]? =some u:=⟨_,Array.getElem?_eq_getElem (by simp[HX.o.1,HZ0.o])⟩
     have y:m1.cell? ⟨lb,89,none⟩=some u:=(M1.o.1.cell 89).trans hu
     have y2:=M1.o.1.free 89
     clear hY1 yl1 hu
     go_upto_region 15 with fail
     clear y y2
     obtain⟨m2,hm⟩:∃ W,m1.setCell ⟨lb,89,none⟩ (.int .i64 n)=W:=⟨_,rfl⟩
     have M2:=U0 (show l5 m2 lb 34 ([Y0,Y1,X,X,X,X,X,X,X,X,X]:List (List Value)).flatten.toArray∧U1 [] wr m2 by
      rw[←hm]
      exact⟨by have h:=ND [Y0,X,X,X,X,X,X,X,X,X,X] 1 2 (.int .i64 n) X Y1 HL1.o rfl (by decide) (by rw[←HX.o.2.1,←HY1.o];simp[q8]);rw[show 1*87+2=89 from rfl] at h;have r:=M1.o.1.set 89 (.int .i64 n);rw[h] at r;exact r,M1.o.2.setCell ⟨lb,89,none⟩ _ (.inr (by show wr.heap.size≤lb;rw[HLB.o];exact Nat.le_refl _))⟩)
     try rw[hm]
     clear hm
     obtain⟨Y2,hY2⟩:∃ Y,q8 ({q with num:=n}:PK) ev av cv vv bw=Y:=⟨_,rfl⟩
     have HY2:=U0 hY2
     have yl2:Y2.length=87:=by rw[←hY2];exact G8 BB.o.2.1.rn BB.o.2.1.an
     have HL2:V5 (∀ l∈([Y0,Y1,X,X,X,X,X,X,X,X,X]:List (List Value)),l.length=87):=U0 (by simp[HX.o.1,HZ0.o,HZ1.o])
     have HZ2:=U0 yl2
     obtain⟨u,hu⟩:∃ u,([Y0,Y1,X,X,X,X,X,X,X,X,X]:List (List Value)).flatten.toArray[177]? =some u:=⟨_,Array.getElem?_eq_getElem (by simp[HX.o.1,HZ0.o,HZ1.o])⟩
     have y:m2.cell? ⟨lb,177,none⟩=some u:=(M2.o.1.cell 177).trans hu
     have y2:=M2.o.1.free 177
     clear hY2 yl2 hu
     go_upto_region 16 with fail
     clear y y2
     obtain⟨m3,hm⟩:∃ W,m2.setCell ⟨lb,177,none⟩ (.int .i64 n)=W:=⟨_,rfl⟩
     have M3:=U0 (show l5 m3 lb 34 ([Y0,Y1,Y2,X,X,X,X,X,X,X,X]:List (List Value)).flatten.toArray∧U1 [] wr m3 by
      rw[←hm]
      exact⟨by have h:=ND [Y0,Y1,X,X,X,X,X,X,X,X,X] 2 3 (.int .i64 n) X Y2 HL2.o rfl (by decide) (by rw[←HX.o.2.1,←HY2.o];simp[q8]);rw[show 2*87+3=177 from rfl] at h;have r:=M2.o.1.set 177 (.int .i64 n);rw[h] at r;exact r,M2.o.2.setCell ⟨lb,177,none⟩ _ (.inr (by show wr.heap.size≤lb;rw[HLB.o];exact Nat.le_refl _))⟩)
     try rw[hm]
     clear hm
     obtain⟨Y3,hY3⟩:∃ Y,q8 ({q with seq:=n}:PK) ev av cv vv bw=Y:=⟨_,rfl⟩
     have HY3:=U0 hY3
     have yl3:Y3.length=87:=by rw[←hY3];exact G8 BB.o.2.1.rn BB.o.2.1.an
     have HL3:V5 (∀ l∈([Y0,Y1,Y2,X,X,X,X,X,X,X,X]:List (List Value)),l.length=87):=U0 (by simp[HX.o.1,HZ0.o,HZ1.o,HZ2.o])
     have HZ3:=U0 yl3
     obtain⟨u,hu⟩:∃ u,([Y0,Y1,Y2,X,X,X,X,X,X,X,X]:List (List Value)).flatten.toArray[265]? =some u:=⟨_,Array.getElem?_eq_getElem (by simp[HX.o.1,HZ0.o,HZ1.o,HZ2.o])⟩
     have y:m3.cell? ⟨lb,265,none⟩=some u:=(M3.o.1.cell 265).trans hu
     have y2:=M3.o.1.free 265
     clear hY3 yl3 hu
     go_upto_region 17 with fail
     clear y y2
     obtain⟨m4,hm⟩:∃ W,m3.setCell ⟨lb,265,none⟩ (.int .i64 n)=W:=⟨_,rfl⟩
     have M4:=U0 (show l5 m4 lb 34 ([Y0,Y1,Y2,Y3,X,X,X,X,X,X,X]:List (List Value)).flatten.toArray∧U1 [] wr m4 by
      rw[←hm]
      exact⟨by have h:=ND [Y0,Y1,Y2,X,X,X,X,X,X,X,X] 3 4 (.int .i64 n) X Y3 HL3.o rfl (by decide) (by rw[←HX.o.2.1,←HY3.o];simp[q8]);rw[show 3*87+4=265 from rfl] at h;have r:=M3.o.1.set 265 (.int .i64 n);rw[h] at r;exact r,M3.o.2.setCell ⟨lb,265,none⟩ _ (.inr (by show wr.heap.size≤lb;rw[HLB.o];exact Nat.le_refl _))⟩)
     try rw[hm]
     clear hm
     obtain⟨Y4,hY4⟩:∃ Y,q8 ({q with ballot:=n}:PK) ev av cv vv bw=Y:=⟨_,rfl⟩
     have HY4:=U0 hY4
     have yl4:Y4.length=87:=by rw[←hY4];exact G8 BB.o.2.1.rn BB.o.2.1.an
     have HL4:V5 (∀ l∈([Y0,Y1,Y2,Y3,X,X,X,X,X,X,X]:List (List Value)),l.length=87):=U0 (by simp[HX.o.1,HZ0.o,HZ1.o,HZ2.o,HZ3.o])
     have HZ4:=U0 yl4
     obtain⟨u,hu⟩:∃ u,([Y0,Y1,Y2,Y3,X,X,X,X,X,X,X]:List (List Value)).flatten.toArray[353]? =some u:=⟨_,Array.getElem?_eq_getElem (by simp[HX.o.1,HZ0.o,HZ1.o,HZ2.o,HZ3.o])⟩
     have y:m4.cell? ⟨lb,353,none⟩=some u:=(M4.o.1.cell 353).trans hu
     have y2:=M4.o.1.free 353
     clear hY4 yl4 hu
     go_upto_region 18 with fail
     clear y y2
     obtain⟨m5,hm⟩:∃ W,m4.setCell ⟨lb,353,none⟩ (.int .i64 n)=W:=⟨_,rfl⟩
     have M5:=U0 (show l5 m5 lb 34 ([Y0,Y1,Y2,Y3,Y4,X,X,X,X,X,X]:List (List Value)).flatten.toArray∧U1 [] wr m5 by
      rw[←hm]
      exact⟨by have h:=ND [Y0,Y1,Y2,Y3,X,X,X,X,X,X,X] 4 5 (.int .i64 n) X Y4 HL4.o rfl (by decide) (by rw[←HX.o.2.1,←HY4.o];simp[q8]);rw[show 4*87+5=353 from rfl] at h;have r:=M4.o.1.set 353 (.int .i64 n);rw[h] at r;exact r,M4.o.2.setCell ⟨lb,353,none⟩ _ (.inr (by show wr.heap.size≤lb;rw[HLB.o];exact Nat.le_refl _))⟩)
     try rw[hm]
     clear hm
     obtain⟨Y5,hY5⟩:∃ Y,q8 ({q with ready:=true}:PK) ev av cv vv bw=Y:=⟨_,rfl⟩
     have HY5:=U0 hY5
     have yl5:Y5.length=87:=by rw[←hY5];exact G8 BB.o.2.1.rn BB.o.2.1.an
     have HL5:V5 (∀ l∈([Y0,Y1,Y2,Y3,Y4,X,X,X,X,X,X]:List (List Value)),l.length=87):=U0 (by simp[HX.o.1,HZ0.o,HZ1.o,HZ2.o,HZ3.o,HZ4.o])
     have HZ5:=U0 yl5
     obtain⟨u,hu⟩:∃ u,([Y0,Y1,Y2,Y3,Y4,X,X,X,X,X,X]:List (List Value)).flatten.toArray[441]? =some u:=⟨_,Array.getElem?_eq_getElem (by simp[HX.o.1,HZ0.o,HZ1.o,HZ2.o,HZ3.o,HZ4.o])⟩
     have y:m5.cell? ⟨lb,441,none⟩=some u:=(M5.o.1.cell 441).trans hu
     have y2:=M5.o.1.free 441
     clear hY5 yl5 hu
     go_upto_region 19 with fail
     clear y y2
     obtain⟨m6,hm⟩:∃ W,m5.setCell ⟨lb,441,none⟩ (.bool true)=W:=⟨_,rfl⟩
     have M6:=U0 (show l5 m6 lb 34 ([Y0,Y1,Y2,Y3,Y4,Y5,X,X,X,X,X]:List (List Value)).flatten.toArray∧U1 [] wr m6 by
      rw[←hm]
      exact⟨by have h:=ND [Y0,Y1,Y2,Y3,Y4,X,X,X,X,X,X] 5 6 (.bool true) X Y5 HL5.o rfl (by decide) (by rw[←HX.o.2.1,←HY5.o];simp[q8]);rw[show 5*87+6=441 from rfl] at h;have r:=M5.o.1.set 441 (.bool true);rw[h] at r;exact r,M5.o.2.setCell ⟨lb,441,none⟩ _ (.inr (by show wr.heap.size≤lb;rw[HLB.o];exact Nat.le_refl _))⟩)
     try rw[hm]
     clear hm
     obtain⟨C6,hC⟩:∃ C,U8 (⟨n,1,1,0,I7.name,[]⟩:RQ) I4=C:=⟨_,rfl⟩
     obtain⟨Y6,hY⟩:∃ Y,q8 ({q with req:=(⟨n,1,1,0,I7.name,[]⟩:RQ)}:PK) I4 av cv vv bw=Y:=⟨_,rfl⟩
     have HY6:=U0 hY
     have HC6:=U0 (show C6.length=37∧(∀ u∈C6,u.oneCell'=true)∧KA X.toArray 7 C6=Y6.toArray by
      rw[←hC]
      exact⟨O8 j6,fB _ rfl,by rw[←HX.o.2.1,←hY];exact mF _ _ BB.o.2.1.rn j6⟩)
     have HBt:=U0 (built6 n)
     rw[hC] at HBt
     have yl:Y6.length=87:=by rw[←hY];exact G8 (by exact j6) BB.o.2.1.an
     have HL6:V5 (∀ l∈([Y0,Y1,Y2,Y3,Y4,Y5,X,X,X,X,X]:List (List Value)),l.length=87):=U0 (by simp[HX.o.1,HZ0.o,HZ1.o,HZ2.o,HZ3.o,HZ4.o,HZ5.o])
     have HZ6:=U0 yl
     have HS:=U0 (show ([Y0,Y1,Y2,Y3,Y4,Y5,X,X,X,X,X]:List (List Value)).flatten.length=957 by simp[HX.o.1,HZ0.o,HZ1.o,HZ2.o,HZ3.o,HZ4.o,HZ5.o])
     clear hC hY yl
     go_upto_region 20 with (first
      |(refine LA _ rfl 26 _ rfl C6.toArray (by simp only[List.map_toArray,List.map_cons,List.map_nil];go_simp;exact HBt.o) ?_)
      |(refine wpList_store_mid rfl 26 (.tmp 86) (.tmp 84) rfl lb 529 C6.toArray rfl rfl (M6.o.1.there (by rw[U4,U4,HC6.o.1,HS.o];decide)) (by rw[U4,HC6.o.1];exact D9) (all_oneCell_toArray HC6.o.2.1) ?_))
     clear HS HBt
     obtain⟨m7,hm⟩:∃ W,m6.setCells lb 529 C6=W:=⟨_,rfl⟩
     have M7:=U0 (show l5 m7 lb 34 ([Y0,Y1,Y2,Y3,Y4,Y5,Y6,X,X,X,X]:List (List Value)).flatten.toArray∧U1 [] wr m7 by
      rw[←hm]
      exact⟨by have h:=EG C6 [Y0,Y1,Y2,Y3,Y4,Y5,X,X,X,X,X] 6 7 X Y6 HL6.o rfl (by rw[HC6.o.1];decide) HC6.o.2.2;rw[show 6*87+7=529 from rfl] at h;have r:=M6.o.1.setL (vs:=C6) (o:=529);rw[h] at r;exact r,M6.o.2.setL (.inr (by rw[HLB.o];exact Nat.le_refl _))⟩)
     try rw[hm]
     clear hm
     obtain⟨C7,hC⟩:∃ C,U8 (⟨0,1,4,n,I7.name,[]⟩:RQ) I4=C:=⟨_,rfl⟩
     obtain⟨Y7,hY⟩:∃ Y,q8 ({q with req:=(⟨0,1,4,n,I7.name,[]⟩:RQ)}:PK) I4 av cv vv bw=Y:=⟨_,rfl⟩
     have HY7:=U0 hY
     have HC7:=U0 (show C7.length=37∧(∀ u∈C7,u.oneCell'=true)∧KA X.toArray 7 C7=Y7.toArray by
      rw[←hC]
      exact⟨O8 j6,fB _ rfl,by rw[←HX.o.2.1,←hY];exact mF _ _ BB.o.2.1.rn j6⟩)
     have HBt:=U0 (built7 n)
     rw[hC] at HBt
     have yl:Y7.length=87:=by rw[←hY];exact G8 (by exact j6) BB.o.2.1.an
     have HL7:V5 (∀ l∈([Y0,Y1,Y2,Y3,Y4,Y5,Y6,X,X,X,X]:List (List Value)),l.length=87):=U0 (by simp[HX.o.1,HZ0.o,HZ1.o,HZ2.o,HZ3.o,HZ4.o,HZ5.o,HZ6.o])
     have HZ7:=U0 yl
     have HS:=U0 (show ([Y0,Y1,Y2,Y3,Y4,Y5,Y6,X,X,X,X]:List (List Value)).flatten.length=957 by simp[HX.o.1,HZ0.o,HZ1.o,HZ2.o,HZ3.o,HZ4.o,HZ5.o,HZ6.o])
     clear hC hY yl
     go_upto_region 21 with (first
      |(refine LA _ rfl 26 _ rfl C7.toArray (by simp only[List.map_toArray,List.map_cons,List.map_nil];go_simp;exact HBt.o) ?_)
      |(refine wpList_store_mid rfl 26 (.tmp 91) (.tmp 89) rfl lb 616 C7.toArray rfl rfl (M7.o.1.there (by rw[U4,U4,HC7.o.1,HS.o];decide)) (by rw[U4,HC7.o.1];exact D9) (all_oneCell_toArray HC7.o.2.1) ?_))
     clear HS HBt
     obtain⟨m8,hm⟩:∃ W,m7.setCells lb 616 C7=W:=⟨_,rfl⟩
     have M8:=U0 (show l5 m8 lb 34 ([Y0,Y1,Y2,Y3,Y4,Y5,Y6,Y7,X,X,X]:List (List Value)).flatten.toArray∧U1 [] wr m8 by
      rw[←hm]
      exact⟨by have h:=EG C7 [Y0,Y1,Y2,Y3,Y4,Y5,Y6,X,X,X,X] 7 7 X Y7 HL7.o rfl (by rw[HC7.o.1];decide) HC7.o.2.2;rw[show 7*87+7=616 from rfl] at h;have r:=M7.o.1.setL (vs:=C7) (o:=616);rw[h] at r;exact r,M7.o.2.setL (.inr (by rw[HLB.o];exact Nat.le_refl _))⟩)
     try rw[hm]
     clear hm
     obtain⟨C8,hC⟩:∃ C,x9 (⟨0,1,0,0,n,l8.name,[]⟩:AN) I4=C:=⟨_,rfl⟩
     obtain⟨Y8,hY⟩:∃ Y,q8 ({q with ans:=(⟨0,1,0,0,n,l8.name,[]⟩:AN)}:PK) ev I4 cv vv bw=Y:=⟨_,rfl⟩
     have HY8:=U0 hY
     have HC8:=U0 (show C8.length=38∧(∀ u∈C8,u.oneCell'=true)∧KA X.toArray 44 C8=Y8.toArray by
      rw[←hC]
      exact⟨y9 F6,IB _ rfl,by rw[←HX.o.2.1,←hY];exact IG _ _ BB.o.2.1.rn BB.o.2.1.an F6⟩)
     have HBt:=U0 (built8 n)
     rw[hC] at HBt
     have yl:Y8.length=87:=by rw[←hY];exact G8 BB.o.2.1.rn (by exact F6)
     have HL8:V5 (∀ l∈([Y0,Y1,Y2,Y3,Y4,Y5,Y6,Y7,X,X,X]:List (List Value)),l.length=87):=U0 (by simp[HX.o.1,HZ0.o,HZ1.o,HZ2.o,HZ3.o,HZ4.o,HZ5.o,HZ6.o,HZ7.o])
     have HZ8:=U0 yl
     have HS:=U0 (show ([Y0,Y1,Y2,Y3,Y4,Y5,Y6,Y7,X,X,X]:List (List Value)).flatten.length=957 by simp[HX.o.1,HZ0.o,HZ1.o,HZ2.o,HZ3.o,HZ4.o,HZ5.o,HZ6.o,HZ7.o])
     clear hC hY yl
     go_upto_region 22 with (first
      |(refine LA _ rfl 28 _ rfl C8.toArray (by simp only[List.map_toArray,List.map_cons,List.map_nil];go_simp;exact HBt.o) ?_)
      |(refine wpList_store_mid rfl 28 (.tmp 96) (.tmp 94) rfl lb 740 C8.toArray rfl rfl (M8.o.1.there (by rw[U4,U4,HC8.o.1,HS.o];decide)) (by rw[U4,HC8.o.1];exact Q9) (all_oneCell_toArray HC8.o.2.1) ?_))
     clear HS HBt
     obtain⟨m9,hm⟩:∃ W,m8.setCells lb 740 C8=W:=⟨_,rfl⟩
     have M9:=U0 (show l5 m9 lb 34 ([Y0,Y1,Y2,Y3,Y4,Y5,Y6,Y7,Y8,X,X]:List (List Value)).flatten.toArray∧U1 [] wr m9 by
      rw[←hm]
      exact⟨by have h:=EG C8 [Y0,Y1,Y2,Y3,Y4,Y5,Y6,Y7,X,X,X] 8 44 X Y8 HL8.o rfl (by rw[HC8.o.1];decide) HC8.o.2.2;rw[show 8*87+44=740 from rfl] at h;have r:=M8.o.1.setL (vs:=C8) (o:=740);rw[h] at r;exact r,M8.o.2.setL (.inr (by rw[HLB.o];exact Nat.le_refl _))⟩)
     try rw[hm]
     clear hm
     obtain⟨C9,hC⟩:∃ C,bA (⟨n,1,[10]⟩:CF) (.slice (some ⟨m9.heap.size,0,none⟩) 1 1)=C:=⟨_,rfl⟩
     obtain⟨Y9,hY⟩:∃ Y,q8 ({q with conf:=(⟨n,1,[10]⟩:CF)}:PK) ev av (.slice (some ⟨m9.heap.size,0,none⟩) 1 1) vv bw=Y:=⟨_,rfl⟩
     have HY9:=U0 hY
     have HC9:=U0 (show C9.length=3∧KA X.toArray 82 C9=Y9.toArray by
      rw[←hC]
      exact⟨rfl,by rw[←HX.o.2.1,←hY];exact JG _ _ BB.o.2.1.rn BB.o.2.1.an⟩)
     have yl:Y9.length=87:=by rw[←hY];exact G8 BB.o.2.1.rn BB.o.2.1.an
     have HL9:V5 (∀ l∈([Y0,Y1,Y2,Y3,Y4,Y5,Y6,Y7,Y8,X,X]:List (List Value)),l.length=87):=U0 (by simp[HX.o.1,HZ0.o,HZ1.o,HZ2.o,HZ3.o,HZ4.o,HZ5.o,HZ6.o,HZ7.o,HZ8.o])
     have HZ9:=U0 yl
     have HS:=U0 (show ([Y0,Y1,Y2,Y3,Y4,Y5,Y6,Y7,Y8,X,X]:List (List Value)).flatten.length=957 by simp[HX.o.1,HZ0.o,HZ1.o,HZ2.o,HZ3.o,HZ4.o,HZ5.o,HZ6.o,HZ7.o,HZ8.o])
     have ka:U1 [] m9 (m9.alloc (.cells #[.int .i64 10] 3)):=(U1.refl [] m9).alloc _
     have ra:l5 (m9.alloc (.cells #[.int .i64 10] 3)) m9.heap.size 3 (([10]:List Int).map (Value.int .i64)).toArray:=l5.new m9 3 _
     have N9:=U0 (U2 (ka.row M9.o.1 (by simp)) (U2 (M9.o.2.then ka (by simp)) ra))
     have HCq:=U0 hC
     clear hY yl ka ra hC
     obtain⟨u0,hu0⟩:∃ u,([Y0,Y1,Y2,Y3,Y4,Y5,Y6,Y7,Y8,X,X]:List (List Value)).flatten.toArray[865]? =some u:=⟨_,Array.getElem?_eq_getElem (by rw[U4,HS.o];decide)⟩
     have y0:(m9.alloc (.cells #[.int .i64 10] 3)).cell? ⟨lb,865,none⟩=some u0:=(N9.o.1.cell 865).trans hu0
     have z0:=N9.o.1.free 865
     clear hu0
     obtain⟨u1,hu1⟩:∃ u,([Y0,Y1,Y2,Y3,Y4,Y5,Y6,Y7,Y8,X,X]:List (List Value)).flatten.toArray[866]? =some u:=⟨_,Array.getElem?_eq_getElem (by rw[U4,HS.o];decide)⟩
     have y1:(m9.alloc (.cells #[.int .i64 10] 3)).cell? ⟨lb,866,none⟩=some u1:=(N9.o.1.cell 866).trans hu1
     have z1:=N9.o.1.free 866
     clear hu1
     obtain⟨u2,hu2⟩:∃ u,([Y0,Y1,Y2,Y3,Y4,Y5,Y6,Y7,Y8,X,X]:List (List Value)).flatten.toArray[867]? =some u:=⟨_,Array.getElem?_eq_getElem (by rw[U4,HS.o];decide)⟩
     have y2:(m9.alloc (.cells #[.int .i64 10] 3)).cell? ⟨lb,867,none⟩=some u2:=(N9.o.1.cell 867).trans hu2
     have z2:=N9.o.1.free 867
     clear hu2
     clear HS
     go_upto_region 23 with fail
     clear y0 y1 y2 z0 z1 z2
     obtain⟨m10,hm⟩:∃ W,(((m9.alloc (.cells #[.int .i64 10] 3)).setCell ⟨lb,865,none⟩ (.int .i64 n)).setCell ⟨lb,866,none⟩ (.int .i64 1)).setCell ⟨lb,867,none⟩ (.slice (some ⟨m9.heap.size,0,none⟩) 1 1)=W:=⟨_,rfl⟩
     have M10:=U0 (show l5 m10 lb 34 ([Y0,Y1,Y2,Y3,Y4,Y5,Y6,Y7,Y8,Y9,X]:List (List Value)).flatten.toArray∧U1 [] wr m10 by
      rw[←hm]
      exact⟨by have h:=EG C9 [Y0,Y1,Y2,Y3,Y4,Y5,Y6,Y7,Y8,X,X] 9 82 X Y9 HL9.o rfl (by rw[HC9.o.1];decide) HC9.o.2;rw[show 9*87+82=865 from rfl] at h;have r:=N9.o.1.setL (vs:=C9) (o:=865);rw[h,←HCq.o] at r;exact r,((N9.o.2.1.setCell ⟨lb,865,none⟩ _ (.inr (by show wr.heap.size≤lb;rw[HLB.o];exact Nat.le_refl _))).setCell ⟨lb,866,none⟩ _ (.inr (by show wr.heap.size≤lb;rw[HLB.o];exact Nat.le_refl _))).setCell ⟨lb,867,none⟩ _ (.inr (by show wr.heap.size≤lb;rw[HLB.o];exact Nat.le_refl _))⟩)
     have K9:=U0 (show U1 [lb] (m9.alloc (.cells #[.int .i64 10] 3)) m10 by rw[←hm];exact (((U1.refl [lb] _).setCell _ _ (.inl (by simp))).setCell _ _ (.inl (by simp))).setCell _ _ (.inl (by simp)))
     try rw[hm]
     clear hm
     have KW10:U1 [] w1 m10:=HN.o.2.2.2.then M10.o.2 (by simp)
     have rc:=KW10.row R1.o.2.2 (by simp)
     have d0:m10.cell? ⟨eb+1+1,0,none⟩=some (.int .i64 1):=rc.cell 0
     have d1:m10.cell? ⟨eb+1+1,1,none⟩=some (.int .i64 1):=rc.cell 1
     have d2:m10.cell? ⟨eb+1+1,2,none⟩=some (.slice (some ⟨eb+1,0,none⟩) 2 2):=rc.cell 2
     have V9:=U0 (F8.row (l:=[10]) (K9.o.row N9.o.2.2 (by have:=M9.o.1.lt;simp;omega)) (by unfold maxLen;decide))
     have S10:=U0 (show m9.heap.size<m10.heap.size by have h1:=K9.o.size;have h2:=N9.o.2.2.lt;omega)
     obtain⟨Y10,hY⟩:∃ Y,q8 ({q with votes:=[⟨n,gG⟩]}:PK) ev av cv (.slice (some ⟨m10.heap.size,0,none⟩) 1 1) bw=Y:=⟨_,rfl⟩
     have HY10:=U0 hY
     have yl:Y10.length=87:=by rw[←hY];exact G8 BB.o.2.1.rn BB.o.2.1.an
     have HL10:V5 (∀ l∈([Y0,Y1,Y2,Y3,Y4,Y5,Y6,Y7,Y8,Y9,X]:List (List Value)),l.length=87):=U0 (by simp[HX.o.1,HZ0.o,HZ1.o,HZ2.o,HZ3.o,HZ4.o,HZ5.o,HZ6.o,HZ7.o,HZ8.o,HZ9.o])
     have HZ10:=U0 yl
     have HS:=U0 (show ([Y0,Y1,Y2,Y3,Y4,Y5,Y6,Y7,Y8,Y9,X]:List (List Value)).flatten.length=957 by simp[HX.o.1,HZ0.o,HZ1.o,HZ2.o,HZ3.o,HZ4.o,HZ5.o,HZ6.o,HZ7.o,HZ8.o,HZ9.o])
     have ka:U1 [] m10 (m10.alloc (.cells #[.int .i64 n,.int .i64 1,.int .i64 1,.slice (some ⟨eb+1,0,none⟩) 2 2] 69)):=(U1.refl [] m10).alloc _
     have ra:l5 (m10.alloc (.cells #[.int .i64 n,.int .i64 1,.int .i64 1,.slice (some ⟨eb+1,0,none⟩) 2 2] 69)) m10.heap.size 69 (Z9 [(⟨n,gG⟩,.slice (some ⟨eb+1,0,none⟩) 2 2)]).toArray:=l5.new m10 69 _
     have N10:=U0 (U2 (ka.row M10.o.1 (by simp)) (U2 (M10.o.2.then ka (by simp)) (U2 ra ka)))
     clear hY yl ka ra KW10 rc N9 HC9 HCq HL9
     obtain⟨u0,hu0⟩:∃ u,([Y0,Y1,Y2,Y3,Y4,Y5,Y6,Y7,Y8,Y9,X]:List (List Value)).flatten.toArray[955]? =some u:=⟨_,Array.getElem?_eq_getElem (by rw[U4,HS.o];decide)⟩
     have y0:(m10.alloc (.cells #[.int .i64 n,.int .i64 1,.int .i64 1,.slice (some ⟨eb+1,0,none⟩) 2 2] 69)).cell? ⟨lb,955,none⟩=some u0:=(N10.o.1.cell 955).trans hu0
     have z0:=N10.o.1.free 955
     clear hu0
     clear HS
     go_upto_region 24 with fail
     clear y0 z0 d0 d1 d2
     obtain⟨m11,hm⟩:∃ W,(m10.alloc (.cells #[.int .i64 n,.int .i64 1,.int .i64 1,.slice (some ⟨eb+1,0,none⟩) 2 2] 69)).setCell ⟨lb,955,none⟩ (.slice (some ⟨m10.heap.size,0,none⟩) 1 1)=W:=⟨_,rfl⟩
     have M11:=U0 (show l5 m11 lb 34 ([Y0,Y1,Y2,Y3,Y4,Y5,Y6,Y7,Y8,Y9,Y10]:List (List Value)).flatten.toArray∧U1 [] wr m11 by
      rw[←hm]
      exact⟨by have h:=ND [Y0,Y1,Y2,Y3,Y4,Y5,Y6,Y7,Y8,Y9,X] 10 85 (.slice (some ⟨m10.heap.size,0,none⟩) 1 1) X Y10 HL10.o rfl (by decide) (by rw[←HX.o.2.1,←HY10.o];exact YE BB.o.2.1.rn BB.o.2.1.an _ _);rw[show 10*87+85=955 from rfl] at h;have r:=N10.o.1.set 955 (.slice (some ⟨m10.heap.size,0,none⟩) 1 1);rw[h] at r;exact r,N10.o.2.1.setCell ⟨lb,955,none⟩ _ (.inr (by show wr.heap.size≤lb;rw[HLB.o];exact Nat.le_refl _))⟩)
     have K10:=U0 (show U1 [lb] (m10.alloc (.cells #[.int .i64 n,.int .i64 1,.int .i64 1,.slice (some ⟨eb+1,0,none⟩) 2 2] 69)) m11 by rw[←hm];exact (U1.refl [lb] _).setCell _ _ (.inl (by simp)))
     try rw[hm]
     clear hm
     have HL11:∀ l∈([Y0,Y1,Y2,Y3,Y4,Y5,Y6,Y7,Y8,Y9,Y10]:List (List Value)),l.length=87:=by simp[HZ0.o,HZ1.o,HZ2.o,HZ3.o,HZ4.o,HZ5.o,HZ6.o,HZ7.o,HZ8.o,HZ9.o,HZ10.o]
     have KB11:U1 [] wB m11:=HN.o.2.2.1.then M11.o.2 (by simp)
     have k911:U1 [lb] m10 m11:=(N10.o.2.2.2.more (by simp)).then K10.o (fun x hx=> .inl hx)
     have iv1:F8 m11 [eb+1] (.slice (some ⟨eb+1,0,none⟩) 2 2) [10,11]:=R1.o.2.1.keep (HN.o.2.2.2.then M11.o.2 (by simp)) (by simp)
     have v9:F8 m11 [m9.heap.size] (.slice (some ⟨m9.heap.size,0,none⟩) 1 1) [10]:=V9.o.keep k911 (by have:=M9.o.1.lt;simp;omega)
     have r10:=K10.o.row N10.o.2.2.1 (by have:=M10.o.1.lt;simp;omega)
     have v10:xA m11 [m10.heap.size,eb+1] (.slice (some ⟨m10.heap.size,0,none⟩) 1 1) [⟨n,gG⟩]:=
      ⟨_,_,m10.heap.size,[(⟨n,gG⟩,.slice (some ⟨eb+1,0,none⟩) 2 2)],rfl,Nat.le_refl _,by unfold maxLen;decide,rfl,rE r10 1 4 rfl,fun t ht=>by simp only[List.mem_singleton] at ht;subst ht;exact iv1.more (by simp),fun _=>by simp⟩
     have hv:=BB.o.2.1.keep KB11 (by simp)
     have hGl:∀ y∈G,y<m11.heap.size:=fun y hy=>Nat.lt_of_lt_of_le (BB.o.2.2.1 y hy) KB11.size
     have s10:=r10.lt
     have s1:eb+1<m11.heap.size:=by have h1:=R1.o.2.2.lt;have h2:=(HN.o.2.2.2.then M11.o.2 (by simp):U1 [] w1 m11).size;omega
     have hn:=HN.o.1
     have hf:=BB.o.2.2.2.1
     have HAL:V5 (∀ k,k<11→∃ (pk:PK) (Xk:List Value) (Fk:List Nat),([Y0,Y1,Y2,Y3,Y4,Y5,Y6,Y7,Y8,Y9,Y10]:List (List Value))[k]? =some Xk∧iB m11 Fk (pk,Xk)∧(∀ y∈Fk,y<m11.heap.size)∧OA pk.frm∧OA pk.dst):=U0 (fun k hk=>by
      match k,hk with
      |0,_=>exact⟨_,Y0,G,rfl,⟨_,_,_,_,_,HY0.o.symm,hv.rn,hv.an,hv.re,hv.ae,hv.cc,hv.vs,hv.bs⟩,hGl,hn,hf.2⟩
      |1,_=>exact⟨_,Y1,G,rfl,⟨_,_,_,_,_,HY1.o.symm,hv.rn,hv.an,hv.re,hv.ae,hv.cc,hv.vs,hv.bs⟩,hGl,hf.1,hn⟩
      |2,_=>exact⟨_,Y2,G,rfl,⟨_,_,_,_,_,HY2.o.symm,hv.rn,hv.an,hv.re,hv.ae,hv.cc,hv.vs,hv.bs⟩,hGl,hf⟩
      |3,_=>exact⟨_,Y3,G,rfl,⟨_,_,_,_,_,HY3.o.symm,hv.rn,hv.an,hv.re,hv.ae,hv.cc,hv.vs,hv.bs⟩,hGl,hf⟩
      |4,_=>exact⟨_,Y4,G,rfl,⟨_,_,_,_,_,HY4.o.symm,hv.rn,hv.an,hv.re,hv.ae,hv.cc,hv.vs,hv.bs⟩,hGl,hf⟩
      |5,_=>exact⟨_,Y5,G,rfl,⟨_,_,_,_,_,HY5.o.symm,hv.rn,hv.an,hv.re,hv.ae,hv.cc,hv.vs,hv.bs⟩,hGl,hf⟩
      |6,_=>exact⟨_,Y6,G,rfl,⟨_,_,_,_,_,HY6.o.symm,j6,hv.an,G7.nil _ _,hv.ae,hv.cc,hv.vs,hv.bs⟩,hGl,hf⟩
      |7,_=>exact⟨_,Y7,G,rfl,⟨_,_,_,_,_,HY7.o.symm,j6,hv.an,G7.nil _ _,hv.ae,hv.cc,hv.vs,hv.bs⟩,hGl,hf⟩
      |8,_=>exact⟨_,Y8,G,rfl,⟨_,_,_,_,_,HY8.o.symm,hv.rn,F6,hv.re,G7.nil _ _,hv.cc,hv.vs,hv.bs⟩,hGl,hf⟩
      |9,_=>exact⟨_,Y9,m9.heap.size::G,rfl,⟨_,_,_,_,_,HY9.o.symm,hv.rn,hv.an,hv.re.more (fun y h=>List.mem_cons_of_mem _ h),hv.ae.more (fun y h=>List.mem_cons_of_mem _ h),v9.more (by simp),hv.vs.more (fun y h=>List.mem_cons_of_mem _ h),hv.bs.more (fun y h=>List.mem_cons_of_mem _ h)⟩,fun y hy=>(List.mem_cons.1 hy).elim (fun h=>by have:=S10.o;omega) (fun h=>hGl y h),hf⟩
      |10,_=>exact⟨_,Y10,m10.heap.size::(eb+1)::G,rfl,⟨_,_,_,_,_,HY10.o.symm,hv.rn,hv.an,hv.re.more (fun y h=>by simp[h]),hv.ae.more (fun y h=>by simp[h]),hv.cc.more (fun y h=>by simp[h]),v10.more (by simp),hv.bs.more (fun y h=>by simp[h])⟩,fun y hy=>(List.mem_cons.1 hy).elim (fun h=>by omega) (fun h=>(List.mem_cons.1 h).elim (fun h=>by omega) (fun h=>hGl y h)),hf⟩)
     have HLL:=U0 HL11
     have HB2:=U0 (U2 (show iB m11 G (q,X) from⟨_,_,_,_,_,HX.o.2.1.symm,hv⟩) (U2 hGl (M11.o.2.row HX.o.2.2 (by simp))))
     have HK11:=U0 (U2 (HN.o.2.2.2.then M11.o.2 (by simp)) KB11)
     clear HL11 KB11 k911 iv1 v9 r10 v10 hv hGl s10 s1 hn hf HY0 HY1 HY2 HY3 HY4 HY5 HY6 HY7 HY8 HY9 HY10 HZ0 HZ1 HZ2 HZ3 HZ4 HZ5 HZ6 HZ7 HZ8 HZ9 HZ10 HL0 HL1 HL2 HL3 HL4 HL5 HL6 HL7 HL8 HL10 M0 M1 M2 M3 M4 M5 M6 M7 M8 M9 M10 K9 K10 N10 V9 S10 HC6 HC7 HC8
     go_wp2_with fail
     go_loopw [8] (fun v8 wx=>∃ k:Nat,k≤11∧v8= .int .i64 (k:Int)∧V5 (U1 [] m11 wx)) (fun v8 _=>11-(intOf v8).toNat)
     case atStart=>exact⟨0,by omega,rfl,U0 (U1.refl _ _)⟩
     case round=>
      obtain⟨k,hk,rfl,KK⟩:=hrel
      by_cases hlk:k<11
      ·have hlk1:(k:Int)<11:=by omega
       have hk0:(0:Int)≤(k:Int):=by omega
       have hkw:IntKind.i64.wrap ((k:Int)+1)=(k:Int)+1:=Z8 _ (by omega) (by omega)
       obtain⟨pk,Xk,Fk,hLk,itk,hFk,fk,dk⟩:=HAL.o k hlk
       have xlk:Xk.length=87:=itk.len
       have KS:U1 [] m11 wr.drew:=KK.o.drew
       have HPK:V5 (∀ W,U1 [] m11 W→W.rangeAt lb (k*87) Xk∧W.rangeAt bb 0 X):=U0 (fun W kW=>⟨bP (kW.row M11.o.1 (by simp)) HLL.o hLk,(kW.row HB2.o.2.2 (by simp)).rangeAll⟩)
       have HCW:V5 (Calls prog 3 #[.agg Xk.toArray,.agg X.toArray] wr.drew fun e w'=>e= .returned (.bool true)∧U1 [] wr.drew w'):=U0 (WJ Fk G pk q Xk X wr.drew (itk.keep KS (by simp)) (HB2.o.1.keep KS (by simp)) (fun y hy=>Nat.lt_of_lt_of_le (hFk y hy) KS.size) (fun y hy=>Nat.lt_of_lt_of_le (HB2.o.2.1 y hy) KS.size) fk dk (HFL.o.keep ((K1.o.then HK11.o.1 (by simp)).then KS (by simp)) (by simp)))
       have HXL:=U0 (U2 xlk HX.o.1)
       clear hLk itk hFk fk dk xlk
       go_upto_region 27 with fail
       refine wp_region_held_drew (S:=fun W=>U1 [] m11 W) (by kernel_rfl) KS (fun _=> ?_)
       refine FB 0 ⟨_,_,_,_,_,_⟩ _ KS ?_
       try simp only[Act.put,F3,U3,V3]
       refine FB 1 ⟨_,_,_,_,_,_⟩ _ KS ?_
       try simp only[Act.put,F3,U3,V3]
       refine FB 2 ⟨_,_,_,_,_,_⟩ _ KS ?_
       try simp only[Act.put,F3,U3,V3]
       refine wpAnyH_take (i:=3) (oi:=⟨_,_,_,_,_,_⟩) (v:= .agg (Xk).toArray) rfl (by kernel_rfl) (by kernel_rfl) (by kernel_rfl) (fun _ _ _ h=>h) (uA 34 (.tmp 118) rfl lb (k*87) rfl (Xk) _ (fun w' hSw=>(HPK.o w' hSw).1) underlying34 rfl (by rw[HXL.o.1];exact I5) ?_) KS ?_
       ·rfl
       try simp only[Act.put,F3,U3,V3]
       refine wpAnyH_take (i:=4) (oi:=⟨_,_,_,_,_,_⟩) (v:= .agg (X).toArray) rfl (by kernel_rfl) (by kernel_rfl) (by kernel_rfl) (fun _ _ _ h=>h) (uA 34 (.tmp 4) rfl bb 0 rfl (X) _ (fun w' hSw=>(HPK.o w' hSw).2) underlying34 rfl (by rw[HXL.o.2];exact I5) ?_) KS ?_
       ·rfl
       try simp only[Act.put,F3,U3,V3]
       refine wpAnyH_ready (rs:=[5]) (by kernel_rfl) (by simp) ?_
       refine q9 rfl (fun K hK=> ?_)
       go_simp
       refine HCW.o.mono ?_
       rintro e wc ⟨rfl,kk⟩
       have KC:=U0 (KS.then kk (by simp))
       clear kk
       go_wp2_with fail
       refine hK.out _ _ KC.o (fun _=> ?_)
       clear hK K
       try simp only[Act.put,F3,U3,V3]
       refine FB 6 ⟨_,_,_,_,_,_⟩ _ KC.o ?_
       try simp only[Act.put,F3,U3,V3]
       refine wpAnyH_done (by kernel_rfl) ?_ _
       go_wp2_with fail
       go_roundw
       case rel=>exact⟨k+1,by omega,by go_num,KC⟩
       case measure=>simp only[intOf];omega
      ·have hkn: ¬(k:Int)<11:=by omega
       have KJ2:=U0 (HK11.o.2.then KK.o (by simp))
       have hjw:IntKind.i64.wrap ((j:Int)+1)=(j:Int)+1:=Z8 _ (by omega) (by omega)
       clear HAL HLL HB2 HK11 KK
       go_wp2_with fail
       go_roundw
       case rel=>exact⟨j+1,by omega,by go_num,KJ2⟩
       case measure=>simp only[intOf];omega
    ·have hjn: ¬(j:Int)<19:=by omega
     have KW:U1 [] w1 wr:=BB.o.2.2.2.2.then KJ.o (by simp)
     have KF:U1 [] w wr:=K1.o.then KW (by simp)
     have HKW:=U0 (U2 KW (HFL.o.keep KF (by simp)))
     have hu8:IntKind.u8.wrap (i:Int)=(i:Int):=by
      have h:∀ m:Nat,m<16→IntKind.u8.wrap (m:Int)=(m:Int):=by decide
      exact h i hlt
     have hiw:IntKind.i64.wrap ((i:Int)+1)=(i:Int)+1:=Z8 _ (by omega) (by omega)
     have HUI:=U0 (show ((UInt8.ofNat i).toNat:Int)=(i:Int) by
      have h:∀ m:Nat,m<16→((UInt8.ofNat m).toNat:Int)=(m:Int):=by decide
      exact h i hlt)
     clear KW KF BB KJ
     have HE0:=U0 (show (#[.int .u8 (i:Int),.int .u8 0,.int .u8 10]:Array Value)=(([UInt8.ofNat i,0,10]:List UInt8).map bv).toArray by
      show _=(#[.int .u8 ((UInt8.ofNat i).toNat:Int),.int .u8 0,.int .u8 10]:Array Value)
      rw[HUI.o])
     have HE1:=U0 (show (#[.int .u8 (i:Int),.int .u8 0,.int .u8 10,.int .u8 1,.int .u8 1,.int .u8 1,.int .u8 1,.int .u8 1,.int .u8 1]:Array Value)=(([UInt8.ofNat i,0,10,1,1,1,1,1,1]:List UInt8).map bv).toArray by
      show _=(#[.int .u8 ((UInt8.ofNat i).toNat:Int),.int .u8 0,.int .u8 10,.int .u8 1,.int .u8 1,.int .u8 1,.int .u8 1,.int .u8 1,.int .u8 1]:Array Value)
      rw[HUI.o])
     have HE2:=U0 (show (#[.int .u8 (i:Int),.int .u8 9,.int .u8 10,.int .u8 0,.int .u8 0,.int .u8 2]:Array Value)=(([UInt8.ofNat i,9,10,0,0,2]:List UInt8).map bv).toArray by
      show _=(#[.int .u8 ((UInt8.ofNat i).toNat:Int),.int .u8 9,.int .u8 10,.int .u8 0,.int .u8 0,.int .u8 2]:Array Value)
      rw[HUI.o])
     go_wp2_with (first
      |(go_at_call 4;(with_reducible show Calls _ _ #[.slice _ 3 3] _ _);refine (qD (some ⟨wr.heap.size,0,none⟩) wr.heap.size 3 [UInt8.ofNat i,0,10] _ (gI wr [UInt8.ofNat i,0,10] #[.int .u8 (i:Int),.int .u8 0,.int .u8 10] HE0.o) (by simp) (by unfold maxLen;decide) (HKW.o.2.keep ((U1.refl [] _).alloc _) (by simp))).mono ?_;rintro e q0 ⟨rfl,kk⟩;have N0:=U0 (U2 (HKW.o.1.then (((U1.refl [] _).alloc _).then kk (by simp)) (by simp)) (HKW.o.2.keep (((U1.refl [] _).alloc _).then kk (by simp)) (by simp)));clear kk)
      |(go_at_call 4;(with_reducible show Calls _ _ #[.slice _ 9 9] _ _);refine (qD (some ⟨q0.heap.size,0,none⟩) q0.heap.size 9 [UInt8.ofNat i,0,10,1,1,1,1,1,1] _ (gI q0 [UInt8.ofNat i,0,10,1,1,1,1,1,1] #[.int .u8 (i:Int),.int .u8 0,.int .u8 10,.int .u8 1,.int .u8 1,.int .u8 1,.int .u8 1,.int .u8 1,.int .u8 1] HE1.o) (by simp) (by unfold maxLen;decide) (N0.o.2.keep ((U1.refl [] _).alloc _) (by simp))).mono ?_;rintro e q1 ⟨rfl,kk⟩;have N1:=U0 (U2 (N0.o.1.then (((U1.refl [] _).alloc _).then kk (by simp)) (by simp)) (N0.o.2.keep (((U1.refl [] _).alloc _).then kk (by simp)) (by simp)));clear kk)
      |(go_at_call 4;(with_reducible show Calls _ _ #[.slice _ 6 6] _ _);refine (qD (some ⟨q1.heap.size,0,none⟩) q1.heap.size 6 [UInt8.ofNat i,9,10,0,0,2] _ (gI q1 [UInt8.ofNat i,9,10,0,0,2] #[.int .u8 (i:Int),.int .u8 9,.int .u8 10,.int .u8 0,.int .u8 0,.int .u8 2] HE2.o) (by simp) (by unfold maxLen;decide) (N1.o.2.keep ((U1.refl [] _).alloc _) (by simp))).mono ?_;rintro e q2 ⟨rfl,kk⟩;have N2:=U0 (U2 (N1.o.1.then (((U1.refl [] _).alloc _).then kk (by simp)) (by simp)) (N1.o.2.keep (((U1.refl [] _).alloc _).then kk (by simp)) (by simp)));clear kk))
     go_roundw
     case rel=>exact⟨i+1,by omega,by go_num,U0 N2.o.1⟩
     case measure=>simp only[intOf];omega
  ·have hin: ¬(i:Int)<16:=by omega
   obtain⟨CM,hCM⟩:∃ C,q8 oQ I4 I4 I4 I4 I4=C:=⟨_,rfl⟩
   have HBM:=U0 builtM
   rw[hCM] at HBM
   have HCM:=U0 (show CM.length=87∧(∀ u∈CM,u.oneCell'=true) by rw[←hCM];exact⟨G8 j6 F6,yA rfl rfl rfl rfl rfl⟩)
   go_upto_region 32 with (first
    |(refine LA _ rfl 34 _ rfl CM.toArray (by simp only[List.map_toArray,List.map_cons,List.map_nil];go_simp;exact HBM.o) ?_)
    |(with_reducible refine F5 _ _ rfl 34 rfl _ HZ.o.1 rfl ?_)
    |(refine wpList_store_mid rfl 34 (.tmp 9) (.tmp 142) rfl wr.heap.size 0 CM.toArray rfl rfl (aB (by rw[HCM.o.1];exact HZ.o.2.symm)) (by rw[U4,HCM.o.1];exact I5) (all_oneCell_toArray HCM.o.2) ?_))
   have hst:=qC (w:=wr) (t:=34) (Z:=Z) (X:=CM) (by rw[HCM.o.1];exact HZ.o.2.symm)
   obtain⟨v0,hw⟩:∃ W,(wr.alloc (.cells Z.toArray 34)).setCells wr.heap.size 0 CM=W:=⟨_,rfl⟩
   rw[hw] at hst ⊢
   obtain⟨mb,ht⟩:∃ t,wr.heap.size=t:=⟨_,rfl⟩
   rw[ht,←hCM] at hst
   rw[ht]
   have Q0:V5 (YK w1 v0 mb eb 0):=U0 ⟨none,0,hst.1,qA.nil _ _ _,by simp[d9],KI.o.then hst.2 (by simp),by have:=KI.o.size;omega⟩
   clear hst hw ht hCM HBM HCM hin
   obtain⟨i0,hi0,hz0,hz1,hz2⟩:=info_parts UH
   have HJ:=U0 (U2 hi0 (U2 hz0 (U2 hz1 hz2)))
   clear hi0 hz0 hz1 hz2
   go_wp2_with fail
   go_loopw [10] (fun v10 wx=>∃ k:Nat,k≤9∧v10= .int .i64 (k:Int)∧V5 (YK w1 wx mb eb k)) (fun v10 _=>9-(intOf v10).toNat)
   case atStart=>exact⟨0,by omega,rfl,Q0⟩
   case round=>
    obtain⟨k,hk,rfl,QK⟩:=hrel
    obtain⟨A,c,hrow,hown,hhom,hkp,hmb⟩:=id QK.o
    by_cases hlk:k<9
    ·have hlk1:(k:Int)<9:=by omega
     have hk0:(0:Int)≤(k:Int):=by omega
     have hkw:IntKind.i64.wrap ((k:Int)+1)=(k:Int)+1:=Z8 _ (by omega) (by omega)
     have rc:=hkp.row R1.o.2.2 (by simp)
     have d0:wr.cell? ⟨eb+1+1,0,none⟩=some (.int .i64 1):=rc.cell 0
     have d1:wr.cell? ⟨eb+1+1,1,none⟩=some (.int .i64 1):=rc.cell 1
     have d2:wr.cell? ⟨eb+1+1,2,none⟩=some (.slice (some ⟨eb+1,0,none⟩) 2 2):=rc.cell 2
     have c85:wr.cell? ⟨mb,85,none⟩=some (.slice A k c):=(hrow.pk j6 F6).d3
     have ka:U1 [] wr (wr.alloc (.cells #[.int .i64 1,.int .i64 1,.int .i64 1,.slice (some ⟨eb+1,0,none⟩) 2 2] 69)):=(U1.refl [] wr).alloc _
     have ra:l5 (wr.alloc (.cells #[.int .i64 1,.int .i64 1,.int .i64 1,.slice (some ⟨eb+1,0,none⟩) 2 2] 69)) wr.heap.size 69 (oD ⟨1,gG⟩ (.slice (some ⟨eb+1,0,none⟩) 2 2)).toArray:=l5.new wr 69 _
     have HA:=U0 (U2 (hown.keep ka (by simp)) (U2 ra (U2 ka (U2 hrow (U2 hhom (U2 hkp hmb))))))
     clear rc hrow hown hhom hkp hmb ka ra
     go_wp2_with (first
      |(at_builtin;refine NA _ rfl (.tmp 148) (.tmp 151) 32 rfl 69 i0 _ 4 48 underlying32 HJ.o.1 HJ.o.2.1 HJ.o.2.2.1 HJ.o.2.2.2 rfl (by decide) (.slice A k c) k (Z9 (List.replicate k (⟨1,gG⟩,.slice (some ⟨eb+1,0,none⟩) 2 2))) rfl HA.o.1 (some ⟨wr.heap.size,0,none⟩) wr.heap.size 1 1 (oD ⟨1,gG⟩ (.slice (some ⟨eb+1,0,none⟩) 2 2)) rfl (rE HA.o.2.1 1 4 rfl) (uF _ rfl) (by omega) (by unfold maxLen;omega) ?_;intro A6 c6 w9 o9 k9 h9;have y:w9.cell? ⟨mb,85,none⟩=some (.slice A k c):=((k9.cell (p:=⟨mb,85,none⟩) (Nat.lt_of_lt_of_le HA.o.2.2.2.1.lt HA.o.2.2.1.size) (fun hm=>by have h0:mb<mb:=HA.o.2.2.2.2.1 _ hm;omega)).trans ((HA.o.2.2.1.cell (p:=⟨mb,85,none⟩) HA.o.2.2.2.1.lt (by simp)).trans c85));have y2:w9.frozen? ⟨mb,85,none⟩=false:=(k9.row (HA.o.2.2.1.row HA.o.2.2.2.1 (by simp)) (fun hm=>by have h0:mb<mb:=HA.o.2.2.2.2.1 _ hm;omega)).free 85;have H9:=U0 (U2 o9 (U2 k9 h9));clear o9 k9 h9))
     have HQ:V5 (YK w1 (w9.setCell ⟨mb,85,none⟩ (.slice A6 (k+1) c6)) mb eb (k+1)):=U0 (YK.step HA.o.2.2.2.1 HA.o.2.2.2.2.1 HA.o.2.2.2.2.2.1 HA.o.2.2.2.2.2.2 HA.o.2.2.1 H9.o.1 H9.o.2.1 H9.o.2.2)
     clear d0 d1 d2 c85 y y2
     go_roundw
     case rel=>exact⟨k+1,by omega,by go_num,HQ⟩
     case measure=>simp only[intOf];omega
    ·obtain rfl:k=9:=by omega
     have hkn: ¬((9:Nat):Int)<9:=by omega
     have hits:∀ t∈(List.replicate 9 ((⟨1,gG⟩:VT),Value.slice (some ⟨eb+1,0,none⟩) 2 2)),F8 wr [eb+1] t.2 t.1.conf.chain:=fun t ht=>by
      rw[List.eq_of_mem_replicate ht];exact R1.o.2.1.keep hkp (by simp)
     have hvs:=uQ (l:=List.replicate 9 (⟨1,gG⟩:VT)) hown (by simp) (by simp) hits
     obtain⟨A',c',eA,hc1,hc2,hc3,hc4⟩:=id hown.form
     injection eA with eA1 eA2 eA3
     subst eA1 eA3
     have hc8:(8:Int)≤(c:Int):=by omega
     obtain⟨L9,hL9⟩:∃ L,q8 oQ I4 I4 I4 (.slice A 9 c) I4=L:=⟨_,rfl⟩
     have HP9:V5 (∀ wx,U1 [] wr wx→wD wx ([eb+1]++Z6 (.slice A 9 c)) pkV9 I4 I4 I4 (.slice A 9 c) I4):=U0 (fun wx kx=>⟨j6,F6,G7.nil _ _,G7.nil _ _,F8.nil _ _,hvs.keep kx (by simp),G7.nil _ _⟩)
     have HM9:=U0 (U2 (show l5 wr mb 34 L9.toArray by rw[←hL9];exact hrow) (U2 hL9 (U2 hhom (U2 hkp (U2 hmb (show L9.length=87 by rw[←hL9];exact G8 j6 F6))))))
     have HO9:=U0 hown
     have HF9:=U0 (HFL.o.keep (K1.o.then hkp (by simp)) (by simp))
     clear hrow hown hhom hkp hmb hits hvs hL9 hc1 hc2 hc3 hc4 QK
     go_upto_region 37 with (first
      |(refine wpList_load_mid rfl 34 (.tmp 9) rfl mb 0 rfl L9 _ HM9.o.1.rangeAll underlying34 rfl (by rw[HM9.o.2.2.2.2.2];exact I5) ?_)
      |(go_at_call 9;rw[←HM9.o.2.1];refine (gD _ pkV9 I4 I4 I4 (.slice A 9 c) I4 _ (HP9.o _ (U1.refl [] wr)) HF9.o (by unfold OA;decide) (by unfold OA;decide)).mono ?_;rintro e w6 ⟨rfl,k6⟩;rw[vW,show O9 false=2 from rfl];have N6:=U0 k6;clear k6))
     have c85:w6.cell? ⟨mb,85,none⟩=some (.slice A 9 c):=by
      have h:=N6.o.row HM9.o.1 (by simp)
      rw[←HM9.o.2.1] at h
      exact (h.pk j6 F6).d3
     have f85:=(N6.o.row HM9.o.1 (by simp)).free 85
     go_upto_region 38 with fail
     have k67:U1 [mb] w6 (w6.setCell ⟨mb,85,none⟩ (.slice A 8 c)):=(U1.refl [mb] _).setCell _ _ (.inl (by simp))
     obtain⟨L8,hL8⟩:∃ L,q8 oQ I4 I4 I4 (.slice A 8 c) I4=L:=⟨_,rfl⟩
     have r8:l5 (w6.setCell ⟨mb,85,none⟩ (.slice A 8 c)) mb 34 L8.toArray:=by
      have h:=(N6.o.row HM9.o.1 (by simp)).set 85 (.slice A 8 c)
      rw[←HM9.o.2.1,show (q8 oQ I4 I4 I4 (.slice A 9 c) I4).toArray.setIfInBounds 85 (.slice A 8 c)=(q8 oQ I4 I4 I4 (.slice A 8 c) I4).toArray from YE (q:=oQ) j6 F6 [] _,hL8] at h
      exact h
     have k17:U1 [] w1 (w6.setCell ⟨mb,85,none⟩ (.slice A 8 c)):=(HM9.o.2.2.2.1.then N6.o (by simp)).then k67 (fun x hx=> .inr (by have:=HM9.o.2.2.2.2.1;simp at hx;omega))
     have v8:=vs_cut (t:=(⟨1,gG⟩,.slice (some ⟨eb+1,0,none⟩) 2 2)) ((HO9.o.keep N6.o (by simp)).keep k67 (fun y hy=>by have:=HM9.o.2.2.1 y hy;simp;omega)) (R1.o.2.1.keep k17 (by simp))
     obtain⟨w7,hw7⟩:∃ W,w6.setCell ⟨mb,85,none⟩ (.slice A 8 c)=W:=⟨_,rfl⟩
     rw[hw7] at r8 k17 v8
     try rw[hw7]
     have M8:=U0 (U2 r8 (U2 (show L8.length=87 by rw[←hL8];exact G8 j6 F6) (U2 k17 (U2 (show wD w7 ([eb+1]++Z6 (.slice A 9 c)) sW I4 I4 I4 (.slice A 8 c) I4 from⟨j6,F6,G7.nil _ _,G7.nil _ _,F8.nil _ _,v8,G7.nil _ _⟩) hL8))))
     clear k67 hL8 r8 k17 v8 hw7 c85 f85 hc8 HM9 HO9 HP9 HF9 N6
     obtain⟨Z1,hZ1⟩:∃ z,fH 1025=z:=⟨_,rfl⟩
     obtain⟨Z2,hZ2⟩:∃ z,fH 32769=z:=⟨_,rfl⟩
     have mk1:∀ w,(Instr.makeSlice 24 (.int .i64 1025) (.int .i64 1025)).run prog w= .ok (.slice (some ⟨w.heap.size,0,none⟩) 1025 1025) (w.alloc (.cells Z1 5)):=fun w=>by have:=RJ 1025 (by omega) w;rw[hZ1] at this;exact this
     have mk2:∀ w,(Instr.makeSlice 24 (.int .i64 32769) (.int .i64 32769)).run prog w= .ok (.slice (some ⟨w.heap.size,0,none⟩) 32769 32769) (w.alloc (.cells Z2 5)):=fun w=>by have:=RJ 32769 (by omega) w;rw[hZ2] at this;exact this
     have HZ1:=U0 (show Z1=((List.replicate 1025 (0:UInt8)).map bv).toArray by rw[←hZ1];exact uK 1025)
     have HZ2:=U0 (show Z2=((List.replicate 32769 (0:UInt8)).map bv).toArray by rw[←hZ2];exact uK 32769)
     clear hZ1 hZ2
     obtain⟨CB,hCB⟩:∃ C,U8 (⟨0,1,2,1,I7.name,List.replicate 1025 0⟩:RQ) (.slice (some ⟨w7.heap.size,0,none⟩) 1025 1025)=C:=⟨_,rfl⟩
     have HBB:=U0 (nT (some ⟨w7.heap.size,0,none⟩) 1025 1025 (List.replicate 1025 0))
     rw[hCB] at HBB
     have HCB:=U0 (U2 hCB (show CB.length=37∧(∀ u∈CB,u.oneCell'=true) by rw[←hCB];exact⟨O8 j6,fB _ rfl⟩))
     have HRZ:=U0 (show (prog.info? 26).bind (·.zero)=some (.agg (U8 I7 I4).toArray)∧(U8 I7 I4).length=37 from⟨nI,O8 j6⟩)
     clear hCB
     obtain⟨w8,hw8⟩:∃ W,w7.alloc (.cells Z1 5)=W:=⟨_,rfl⟩
     have r8:=l5.new w7 5 Z1
     have k8:=(U1.refl [] w7).alloc (.cells Z1 5)
     rw[hw8] at r8 k8
     have HW8:=U0 (U2 r8 (U2 k8 hw8))
     clear r8 k8 hw8
     go_upto_region 39 with (first
      |(refine LA _ rfl 26 _ rfl CB.toArray (by simp only[List.map_toArray,List.map_cons,List.map_nil];go_simp;exact HBB.o) ?_)
      |(rw[HW8.o.2.2];with_reducible refine F5 _ _ rfl 26 rfl _ HRZ.o.1 rfl ?_)
      |(refine wpList_store_mid rfl 26 (.tmp 12) (.tmp 161) rfl w8.heap.size 0 CB.toArray rfl rfl (aB (by rw[HCB.o.2.1];exact HRZ.o.2.symm)) (by rw[U4,HCB.o.2.1];exact D9) (all_oneCell_toArray HCB.o.2.2) ?_))
     have hst:=qC (w:=w8) (t:=26) (Z:=U8 I7 I4) (X:=CB) (by rw[HCB.o.2.1];exact HRZ.o.2.symm)
     obtain⟨w9,hw⟩:∃ W,(w8.alloc (.cells (U8 I7 I4).toArray 26)).setCells w8.heap.size 0 CB=W:=⟨_,rfl⟩
     rw[hw] at hst ⊢
     obtain⟨bt,ht⟩:∃ t,w8.heap.size=t:=⟨_,rfl⟩
     rw[ht] at hst ⊢
     have HB9:=U0 (U2 hst.1 (U2 (HW8.o.2.1.then hst.2 (by simp)) (show G7 w9 [w7.heap.size] (.slice (some ⟨w7.heap.size,0,none⟩) 1025 1025) (List.replicate 1025 0) by
      have h:=G7.row (l:=List.replicate 1025 (0:UInt8)) (HZ1.o▸hst.2.row HW8.o.1 (by simp)) (by rw[List.length_replicate];unfold maxLen;decide)
      rw[List.length_replicate] at h
      exact h)))
     clear hst hw ht mk1 HBB HW8
     try simp only[Act.put,F3,U3,V3]
     obtain⟨CS,hCS⟩:∃ C,q8 ({G9 with kind:=6}:PK) I4 I4 I4 I4 (.slice (some ⟨w9.heap.size,0,none⟩) 32769 32769)=C:=⟨_,rfl⟩
     have HBS:=U0 (AO (some ⟨w9.heap.size,0,none⟩) 32769 32769)
     rw[hCS] at HBS
     have HCS:=U0 (U2 hCS (show CS.length=87∧(∀ u∈CS,u.oneCell'=true) by rw[←hCS];exact⟨G8 j6 F6,yA rfl rfl rfl rfl rfl⟩))
     clear hCS
     obtain⟨w10,hw10⟩:∃ W,w9.alloc (.cells Z2 5)=W:=⟨_,rfl⟩
     have r10:=l5.new w9 5 Z2
     have k10:=(U1.refl [] w9).alloc (.cells Z2 5)
     rw[hw10] at r10 k10
     have HW10:=U0 (U2 r10 (U2 k10 hw10))
     clear r10 k10 hw10
     go_upto_region 40 with (first
      |(refine LA _ rfl 34 _ rfl CS.toArray (by simp only[List.map_toArray,List.map_cons,List.map_nil];go_simp;exact HBS.o) ?_)
      |(rw[HW10.o.2.2];with_reducible refine F5 _ _ rfl 34 rfl _ HZ.o.1 rfl ?_)
      |(refine wpList_store_mid rfl 34 (.tmp 13) (.tmp 163) rfl w10.heap.size 0 CS.toArray rfl rfl (aB (by rw[HCS.o.2.1];exact HZ.o.2.symm)) (by rw[U4,HCS.o.2.1];exact I5) (all_oneCell_toArray HCS.o.2.2) ?_))
     have hst:=qC (w:=w10) (t:=34) (Z:=Z) (X:=CS) (by rw[HCS.o.2.1];exact HZ.o.2.symm)
     obtain⟨w11,hw⟩:∃ W,(w10.alloc (.cells Z.toArray 34)).setCells w10.heap.size 0 CS=W:=⟨_,rfl⟩
     rw[hw] at hst ⊢
     obtain⟨sb,ht⟩:∃ t,w10.heap.size=t:=⟨_,rfl⟩
     rw[ht] at hst ⊢
     have hrow:l5 w11 w9.heap.size 5 ((List.replicate 32769 (0:UInt8)).map bv).toArray:=HZ2.o▸hst.2.row HW10.o.1 (by simp)
     have HS11:=U0 (U2 hst.1 (U2 (HW10.o.2.1.then hst.2 (by simp)) (U2 (show G7 w11 [w9.heap.size] (.slice (some ⟨w9.heap.size,0,none⟩) 32769 32769) (List.replicate 32769 0) by
      have h:=G7.row (l:=List.replicate 32769 (0:UInt8)) hrow (by rw[List.length_replicate];unfold maxLen;decide)
      rw[List.length_replicate] at h
      exact h) (U2 (show w9.heap.size<sb by have h1:=HW10.o.1.lt;omega) hrow))))
     have K711:V5 (U1 [] w7 w11):=U0 (HB9.o.2.1.then HS11.o.2.1 (by simp))
     clear hst hw ht mk2 HBS HW10 hrow
     try simp only[Act.put,F3,U3,V3]
     have HK11:=U0 (U2 (M8.o.2.2.1.then K711.o (by simp)) (HFL.o.keep ((K1.o.then M8.o.2.2.1 (by simp)).then K711.o (by simp)) (by simp)))
     go_upto_region 41 with (first
      |(refine wpList_load_mid rfl 34 (.tmp 13) rfl sb 0 rfl CS _ HS11.o.1.rangeAll underlying34 rfl (by rw[HCS.o.2.1];exact I5) ?_)
      |(go_at_call 9;rw[←HCS.o.1];refine (gD [w9.heap.size] (pG 32769) I4 I4 I4 I4 (.slice (some ⟨w9.heap.size,0,none⟩) 32769 32769) _ ⟨j6,F6,G7.nil _ _,G7.nil _ _,F8.nil _ _,xA.nil _ _,HS11.o.2.2.1⟩ HK11.o.2 (by unfold OA;decide) (by unfold OA;decide)).mono ?_;rintro e w12 ⟨rfl,k12⟩;rw[pW,show O9 false=2 from rfl];have N12:=U0 k12;clear k12))
     have c86:w12.cell? ⟨sb,86,none⟩=some (.slice (some ⟨w9.heap.size,0,none⟩) 32769 32769):=by
      have h:=N12.o.row HS11.o.1 (by simp)
      rw[←HCS.o.1] at h
      exact (h.pk j6 F6).d4
     have f86:=(N12.o.row HS11.o.1 (by simp)).free 86
     go_upto_region 42 with fail
     have hw9:w9.heap.size≠sb:=by have:=HS11.o.2.2.2.1;omega
     have k13:U1 [sb] w12 (w12.setCell ⟨sb,86,none⟩ (.slice (some ⟨w9.heap.size,0,none⟩) 32768 32769)):=(U1.refl [sb] _).setCell _ _ (.inl (by simp))
     obtain⟨LT,hLT⟩:∃ L,q8 (pG 32768) I4 I4 I4 I4 (.slice (some ⟨w9.heap.size,0,none⟩) 32768 32769)=L:=⟨_,rfl⟩
     have rT:l5 (w12.setCell ⟨sb,86,none⟩ (.slice (some ⟨w9.heap.size,0,none⟩) 32768 32769)) sb 34 LT.toArray:=by
      have h:=(N12.o.row HS11.o.1 (by simp)).set 86 (.slice (some ⟨w9.heap.size,0,none⟩) 32768 32769)
      rw[←HCS.o.1,show (q8 ({G9 with kind:=6}:PK) I4 I4 I4 I4 (.slice (some ⟨w9.heap.size,0,none⟩) 32769 32769)).toArray.setIfInBounds 86 (.slice (some ⟨w9.heap.size,0,none⟩) 32768 32769)=(q8 (pG 32768) I4 I4 I4 I4 (.slice (some ⟨w9.heap.size,0,none⟩) 32768 32769)).toArray from aH (q:={G9 with kind:=6}) j6 F6 [] _,hLT] at h
      exact h
     have bT:G7 (w12.setCell ⟨sb,86,none⟩ (.slice (some ⟨w9.heap.size,0,none⟩) 32768 32769)) [w9.heap.size] (.slice (some ⟨w9.heap.size,0,none⟩) 32768 32769) (List.replicate 32768 0):=by
      have h:=MO (k13.row (N12.o.row HS11.o.2.2.2.2 (by simp)) (by simp;exact hw9)) 32768 (by rw[List.length_replicate];decide) (by rw[List.length_replicate];unfold maxLen;decide)
      rw[List.length_replicate,List.take_replicate,show min 32768 32769=32768 from rfl] at h
      exact h
     have k113:U1 [] w11 (w12.setCell ⟨sb,86,none⟩ (.slice (some ⟨w9.heap.size,0,none⟩) 32768 32769))∨True:= .inr trivial
     have kw7:U1 [] w7 (w12.setCell ⟨sb,86,none⟩ (.slice (some ⟨w9.heap.size,0,none⟩) 32768 32769)):=(K711.o.then N12.o (by simp)).then k13 (fun x hx=> .inr (by have h1:=HB9.o.2.1.size;have h2:=HS11.o.2.2.2.1;simp at hx;omega))
     have kB:U1 [sb] w9 (w12.setCell ⟨sb,86,none⟩ (.slice (some ⟨w9.heap.size,0,none⟩) 32768 32769)):=(((HS11.o.2.1.then N12.o (by simp)).more (by simp)).then k13 (fun x hx=> .inl hx))
     have rbt:=kB.row HB9.o.1 (by have h1:=HB9.o.1.lt;have h2:=HS11.o.2.2.2.1;simp;omega)
     have bbt:=HB9.o.2.2.keep kB (by have h1:=HB9.o.2.1.size;have h2:=M8.o.1.lt;have h3:=HS11.o.2.2.2.1;have h4:=HB9.o.1.lt;simp;omega)
     have kmb:=kw7.row M8.o.1 (by simp)
     have vmb:=M8.o.2.2.2.1.keep kw7 (by simp)
     obtain⟨w13,hw13⟩:∃ W,w12.setCell ⟨sb,86,none⟩ (.slice (some ⟨w9.heap.size,0,none⟩) 32768 32769)=W:=⟨_,rfl⟩
     rw[hw13] at rT bT kw7 rbt bbt kmb vmb
     try rw[hw13]
     have HT13:=U0 (U2 rT (U2 bT (U2 hLT (show LT.length=87 by rw[←hLT];exact G8 j6 F6))))
     have HB13:=U0 (U2 rbt (U2 bbt (U2 kmb vmb)))
     have HK13:=U0 (U2 (M8.o.2.2.1.then kw7 (by simp)) (HFL.o.keep ((K1.o.then M8.o.2.2.1 (by simp)).then kw7 (by simp)) (by simp)))
     clear hw9 k13 hLT rT bT k113 kw7 kB rbt bbt kmb vmb hw13 c86 f86 HS11 HK11 K711 N12 HZ1 HZ2
     go_upto_region 43 with (first
      |(refine wpList_load_mid rfl 34 (.tmp 13) rfl sb 0 rfl LT _ HT13.o.1.rangeAll underlying34 rfl (by rw[HT13.o.2.2.2];exact I5) ?_)
      |(go_at_call 7;rw[←HT13.o.2.2.1];refine (wI [w9.heap.size] (pG 32768) I4 I4 I4 I4 (.slice (some ⟨w9.heap.size,0,none⟩) 32768 32769) _ ⟨j6,F6,G7.nil _ _,G7.nil _ _,F8.nil _ _,xA.nil _ _,HT13.o.2.1⟩ HK13.o.2 (by unfold OA;decide) (by unfold OA;decide) qW).mono ?_;rintro e w14 ⟨u,G5,rfl,b5,n5,k14⟩;have N14:=U0 (U2 b5 k14);clear b5 n5 k14))
     go_upto_region 44 with (first
      |(go_at_call 28;refine (GG G5 (wH (pG 32768)) u _ N14.o.1 uU (HK13.o.2.keep N14.o.2 (by simp))).mono ?_;rintro e w15 ⟨ev,av,cv,vv,bw,G6,rfl,v6,n6,k15⟩;rw[CR] at v6 ⊢;obtain⟨X6,hX6⟩:∃ X,q8 (pG 32768) ev av cv vv bw=X:=⟨_,rfl⟩;have N15:=U0 (U2 v6 (U2 k15 (U2 hX6 (show X6.length=87∧(∀ u∈X6,u.oneCell'=true) by rw[←hX6];exact⟨G8 v6.rn v6.an,yA v6.re.one v6.ae.one v6.cc.one v6.vs.one v6.bs.one⟩))));(try dsimp only);rw[hX6];clear v6 n6 k15 hX6)
      |(with_reducible refine F5 _ _ rfl 34 rfl _ HZ.o.1 rfl ?_)
      |(refine wpList_store_mid rfl 34 (.tmp 17) (.tmp 178) rfl w15.heap.size 0 X6.toArray rfl rfl (aB (by rw[N15.o.2.2.2.1];exact HZ.o.2.symm)) (by rw[U4,N15.o.2.2.2.1];exact I5) (all_oneCell_toArray N15.o.2.2.2.2) ?_))
     have hst:=qC (w:=w15) (t:=34) (Z:=Z) (X:=X6) (by rw[N15.o.2.2.2.1];exact HZ.o.2.symm)
     obtain⟨w16,hw⟩:∃ W,(w15.alloc (.cells Z.toArray 34)).setCells w15.heap.size 0 X6=W:=⟨_,rfl⟩
     rw[hw] at hst ⊢
     obtain⟨qb,ht⟩:∃ t,w15.heap.size=t:=⟨_,rfl⟩
     rw[ht] at hst ⊢
     have k1316:U1 [] w13 w16:=(N14.o.2.then N15.o.2.1 (by simp)).then hst.2 (by simp)
     have HR16:V5 (∀ wx,U1 [] w16 wx→l5 wx mb 34 L8.toArray∧l5 wx bt 26 CB.toArray∧l5 wx sb 34 LT.toArray∧l5 wx qb 34 X6.toArray):=U0 (fun wx kx=>⟨kx.row (k1316.row HB13.o.2.2.1 (by simp)) (by simp),kx.row (k1316.row HB13.o.1 (by simp)) (by simp),kx.row (k1316.row HT13.o.1 (by simp)) (by simp),kx.row hst.1 (by simp)⟩)
     have HV16:V5 (∀ wx,U1 [] w16 wx→wD wx ([eb+1]++Z6 (.slice A 9 c)) sW I4 I4 I4 (.slice A 8 c) I4∧dH wx [w7.heap.size] ⟨0,1,2,1,I7.name,List.replicate 1025 0⟩ (.slice (some ⟨w7.heap.size,0,none⟩) 1025 1025)∧wD wx [w9.heap.size] (pG 32768) I4 I4 I4 I4 (.slice (some ⟨w9.heap.size,0,none⟩) 32768 32769)∧wD wx G6 (pG 32768) ev av cv vv bw∧zB wx∧U1 [] w1 wx):=U0 (fun wx kx=>by
      have kz:=k1316.then kx (by simp)
      exact⟨HB13.o.2.2.2.keep kz (by simp),⟨j6,HB13.o.2.1.keep kz (by simp)⟩,⟨j6,F6,G7.nil _ _,G7.nil _ _,F8.nil _ _,xA.nil _ _,HT13.o.2.1.keep kz (by simp)⟩,(N15.o.1.keep hst.2 (by simp)).keep kx (by simp),HK13.o.2.keep kz (by simp),HK13.o.1.then kz (by simp)⟩)
     have KY0:=U0 (U1.refl [] w16)
     have HBN:=U0 (big_no (List.replicate 1025 0) (List.length_replicate ..))
     clear hst hw ht k1316 HB13 HK13 N14
     try simp only[Act.put,F3,U3,V3]
     go_upto_region 45 with (first
      |(refine j5 34 (.tmp 9) rfl mb 0 rfl L8 _ (HR16.o _ KY0.o).1.rangeAll underlying34 rfl (by rw[M8.o.2.1];exact I5) ?_ ?_;·rfl)
      |(go_at_call 9;rw[←M8.o.2.2.2.2];refine (gD _ sW I4 I4 I4 (.slice A 8 c) I4 _ (HV16.o _ KY0.o).1 (HV16.o _ KY0.o).2.2.2.2.1 (by unfold OA;decide) (by unfold OA;decide)).mono ?_;rintro e y1 ⟨rfl,kk⟩;rw[uW,show O9 true=0 from rfl];have KY1:=U0 kk;clear kk)
      |(refine j5 26 (.tmp 12) rfl bt 0 rfl CB _ (HR16.o _ KY1.o).2.1.rangeAll underlying26 rfl (by rw[HCB.o.2.1];exact D9) ?_ ?_;·rfl)
      |(go_at_call 20;rw[←HCB.o.1];refine (fD _ _ _ _ (HV16.o _ KY1.o).2.1).mono ?_;rintro e y2 ⟨rfl,kk⟩;rw[HBN.o,show O9 false=2 from rfl];have KY2:=U0 (KY1.o.then kk (by simp));clear kk)
      |(refine j5 34 (.tmp 13) rfl sb 0 rfl LT _ (HR16.o _ KY2.o).2.2.1.rangeAll underlying34 rfl (by rw[HT13.o.2.2.2];exact I5) ?_ ?_;·rfl)
      |(refine j5 34 (.tmp 17) rfl qb 0 rfl X6 _ (HR16.o _ KY2.o).2.2.2.rangeAll underlying34 rfl (by rw[N15.o.2.2.2.1];exact I5) ?_ ?_;·rfl)
      |(go_at_call 12;rw[←HT13.o.2.2.1,←N15.o.2.2.1];refine (pF _ _ (pG 32768) (pG 32768) I4 I4 I4 I4 (.slice (some ⟨w9.heap.size,0,none⟩) 32768 32769) ev av cv vv bw _ (HV16.o _ KY2.o).2.2.1 (HV16.o _ KY2.o).2.2.2.1).mono ?_;rintro e y3 ⟨rfl,kk⟩;rw[PK.same_self];have KY3:=U0 (KY2.o.then kk (by simp));clear kk))
     go_upto_region 46 with fail
     obtain⟨z7,hz7,kz7,rz7,iz7⟩:=JS y3
     rw[hz7]
     obtain⟨yb,hyb⟩:∃ n,y3.heap.size+1+1+1+1+1+1=n:=⟨_,rfl⟩
     rw[hyb] at rz7
     simp only[hyb]
     obtain⟨BC,hBC⟩:∃ T,KL y3.heap.size=T:=⟨_,rfl⟩
     have hno:=aV y3.heap.size
     have hbl:BC.length=8:=by rw[←hBC];rfl
     rw[hBC] at rz7 iz7 hno
     have HZ7:=U0 (U2 rz7 (U2 iz7 (U2 hno (U2 hbl (U2 ((HV16.o _ KY3.o).2.2.2.2.2.then kz7 (by simp)) ((HV16.o _ KY3.o).2.2.2.2.1.keep kz7 (by simp)))))))
     clear hz7 kz7 rz7 iz7 hyb hBC hno hbl HR16 HV16 KY0 KY1 KY2 KY3 HBN
     go_wp2_with fail
     go_loopw [21] (fun v21 wx=>∃ m:Nat,m≤8∧v21= .int .i64 (m:Int)∧V5 (U1 [] z7 wx)) (fun v21 _=>8-(intOf v21).toNat)
     case atStart=>exact⟨0,by omega,rfl,U0 (U1.refl _ _)⟩
     case round=>
      obtain⟨m,hm,rfl,KM⟩:=hrel
      by_cases hlm:m<8
      ·have hlm1:(m:Int)<8:=by omega
       have hm0:(0:Int)≤(m:Int):=by omega
       have hmw:IntKind.i64.wrap ((m:Int)+1)=(m:Int)+1:=Z8 _ (by omega) (by omega)
       obtain⟨tc,htc⟩:∃ t,BC[m]? =some t:=⟨_,List.getElem?_eq_getElem (by rw[HZ7.o.2.2.2.1];exact hlm)⟩
       have hmem:=List.mem_of_getElem? htc
       have hrg:wr.rangeAt yb (m*3) (bA tc.1 tc.2.1):=(KM.o.row HZ7.o.1 (by simp)).range (fun j v hv=>by
        have hj:j<3:=by obtain⟨h1,_⟩:=List.getElem?_eq_some_iff.1 hv;simpa[bA] using h1
        have h:=WK BC m j tc htc hj
        rw[hv] at h
        simpa using h)
       have HTC:=U0 (U2 hrg (U2 ((HZ7.o.2.1 tc hmem).keep KM.o (by simp)) (HZ7.o.2.2.1 tc hmem)))
       clear htc hmem hrg
       go_wp2_with (first
        |(refine wpList_load_mid rfl 31 (.tmp 232) rfl yb (m*3) rfl (bA tc.1 tc.2.1) _ HTC.o.1 underlying31 rfl S9 ?_)
        |(go_at_call 22;refine (tC tc.2.2 tc.1 tc.2.1 _ HTC.o.2.1).mono ?_;rintro e z8 ⟨rfl,kk⟩;rw[HTC.o.2.2,show O9 false=2 from rfl];have KM2:=U0 (KM.o.then kk (by simp));clear kk))
       go_roundw
       case rel=>exact⟨m+1,by omega,by go_num,KM2⟩
       case measure=>simp only[intOf];omega
      ·have hmn: ¬(m:Int)<8:=by omega
       have KZ:=U0 (U2 (HZ7.o.2.2.2.2.1.then KM.o (by simp)) (HZ7.o.2.2.2.2.2.keep KM.o (by simp)))
       have HE9:=U0 (show (#[.int .u8 1,.int .u8 1,.int .u8 6,.int .u8 10,.int .u8 11,.int .u8 12,.int .u8 13,.int .u8 10,.int .u8 11]:Array Value)=(([1,1,6,10,11,12,13,10,11]:List UInt8).map bv).toArray from rfl)
       clear HZ7 KM
       go_wp2_with (first
        |(go_at_call 26;refine (OI _ KZ.o.2).mono ?_;rintro e e1 ⟨rfl,kk⟩;have E1:=U0 (U2 (KZ.o.1.then kk (by simp)) (KZ.o.2.keep kk (by simp)));clear kk)
        |(go_at_call 4;(with_reducible show Calls _ _ #[.slice _ 0 0] _ _);refine (qD none 0 0 [] _ (QA.nil _ _ _) (by simp) (by unfold maxLen;decide) E1.o.2).mono ?_;rintro e e2 ⟨rfl,kk⟩;have E2:=U0 (U2 (E1.o.1.then kk (by simp)) (E1.o.2.keep kk (by simp)));clear kk)
        |(go_at_call 4;(with_reducible show Calls _ _ #[.slice _ 9 9] _ _);refine (qD (some ⟨e2.heap.size,0,none⟩) e2.heap.size 9 [1,1,6,10,11,12,13,10,11] _ (gI e2 [1,1,6,10,11,12,13,10,11] #[.int .u8 1,.int .u8 1,.int .u8 6,.int .u8 10,.int .u8 11,.int .u8 12,.int .u8 13,.int .u8 10,.int .u8 11] HE9.o) (by simp) (by unfold maxLen;decide) (E2.o.2.keep ((U1.refl [] _).alloc _) (by simp))).mono ?_;rintro e e3 ⟨rfl,kk⟩;have E3:=U0 (E2.o.1.then (((U1.refl [] _).alloc _).then kk (by simp)) (by simp));clear kk))
       go_ret
       exact⟨rfl,K1.o.then E3.o (by simp)⟩
end Go.Proofs.YthfdkonhjpdflaaGreatDoor
