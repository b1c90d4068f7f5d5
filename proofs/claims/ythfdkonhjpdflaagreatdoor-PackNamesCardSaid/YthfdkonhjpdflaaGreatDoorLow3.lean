import Derived.Test.YthfdkonhjpdflaaGreatDoorLow2
import Derived.Test.YthfdkonhjpdflaaGreatDoorLow1
import Derived.Handy
import Derived.Laws.BytesArg
import Derived.Laws.Rows
import Derived.Deep.MidRow
import Derived.ChangeKeysEq
import Derived.Laws.StructEq
import Derived.Deep.RegionHeld3
namespace Go.Proofs.YthfdkonhjpdflaaGreatDoor
open Go.RowKit Go.Proofs.Tryz
set_option linter.unusedVariables false
set_option maxHeartbeats 400000
set_option maxRecDepth 100000
def FU (l:List UInt8):ByteArray:=⟨l.toArray⟩
theorem qG (l:List UInt8):(FU l).toList=l:=ByteArray.toList_mk l
theorem PE {P:Program} (w:World) (src e dst:TypeId) (hs:P.underlying src=some (.slice e)) (he:P.underlying e=some (.int .u8)) (hd:P.underlying dst=some .string)
 (A:Option Addr) (g c:Nat) (l:List UInt8) (h:QA w A g l):(convert src dst (.slice A l.length c)).run P w= .ok (.string (FU l)) w:=by
 rcases A with _|a
 ·have hl:l=[]:=by
   cases l with
   |nil=>rfl
   |cons b t=>obtain⟨o,hA,_⟩:=h (by simp);cases hA
  subst hl
  rw[run_convert_bytes_nil w src e hs he _ c dst hd]
  rfl
 ·have hld:(loadCells a l.length).run P w= .ok ((l.map fun b=>(b.toNat:Int)).map (Value.int .u8)).toArray w:=by
   cases l with
   |nil=>simp[loadCells,loadCellsFrom]
   |cons b t=>
    obtain⟨o,hA,_,hc⟩:=h (by simp)
    obtain rfl:a=⟨g,o,none⟩:=by simpa using hA
    have:=run_loadCells_list (P:=P) w ⟨g,o,none⟩ (((b::t).map fun b=>(b.toNat:Int)).map (Value.int .u8)) (fun j v hj=>by
     rw[TE]
     rw[List.getElem?_map,List.getElem?_map] at hj
     cases hb:(b::t)[j]? with
     |none=>rw[hb] at hj;cases hj
     |some x=>rw[hb] at hj;simp at hj;subst hj;exact hc j x hb)
    simpa using this
  rw[run_convert_bytes_string w src dst e _ l.length c hs he hd,run_bytesToString w a l.length c _ hld,foldl_push_bytes]
  have:(List.map (fun n:Int=>UInt8.ofNat n.toNat) (l.map fun b:UInt8=>(b.toNat:Int)))=l:=by
   rw[List.map_map]
   conv=>rhs;rw[←List.map_id l]
   apply List.map_congr_left
   intro b _
   simp
  rw[this]
  simp[FU,ByteArray.empty,ByteArray.emptyWithCapacity]
  rfl
theorem YC (A B:Option Addr) (g h c d:Nat) (l m:List UInt8) (w:World) (hl:QA w A g l) (hm:QA w B h m):
 Calls prog 11 #[.slice A l.length c,.slice B m.length d] w fun e w'=>e= .returned (.bool (l==m))∧w=w':=by
 have k1:=PE (P:=prog) w 24 5 9 underlying24 underlying5 underlying9 A g c l hl
 have k2:=PE (P:=prog) w 24 5 9 underlying24 underlying5 underlying9 B h d m hm
 go_enter func11,ntmps11
 go_wp2
 go_ret
 exact⟨by rw[qG,qG];rfl,rfl⟩
theorem EA (v:Value):∃ g,Z6 v=[]∨Z6 v=[g]:=by
 unfold Z6
 cases Value.ownBlock v with
 |none=>exact⟨0,.inl rfl⟩
 |some g=>exact⟨g,.inr rfl⟩
theorem qA.seen {w:World} {v:Value} {l:List UInt8} (h:qA w 5 1 v l.length (l.map bv)):
 ∃ A c g,v= .slice A l.length c∧l.length≤c∧c≤maxLen∧QA w A g l∧(l≠[]→g∈Z6 v):=by
 obtain⟨A,c,rfl,h1,h2,_,hrd⟩:=h.form
 obtain⟨g,hg⟩:=EA (.slice A l.length c)
 refine⟨A,c,g,rfl,h1,h2,fun hl=> ?_,fun hl=> ?_⟩
 ·obtain⟨o,hA,hlt,hc⟩:=(hrd g hg).2 (List.length_pos_iff.2 hl)
  exact⟨o,hA,hlt,fun j b hb=>hc j _ (by rw[List.getElem?_map,hb];rfl)⟩
 ·obtain⟨o,hA,_,_⟩:=(hrd g hg).2 (List.length_pos_iff.2 hl)
  rw[hA];simp[V8]
theorem Z5 {P:Program} (w:World) {ops:Array Oper} {rest:List Oper} {o:Oper} {a:Act} {Q:Exit→Act→World→Prop} (hgd:o.guard=none) (t:TypeId) (x:Operand) (ho:o.op= .box t x)
 (bs:Array Value) (hx:a.eval x= .agg bs) (h:wpList P ops Q rest (a.put o.dst (.pointer (some ⟨w.heap.size,0,none⟩))) (w.alloc (.cells bs t))):wpList P ops Q (o::rest) a w:=by
 refine wpList_plain hgd fun K hK=> ?_
 have hK':=hK _ _ h
 unfold Oper.wp execOp
 simp only[ho,hx]
 simpa[Instr.box,newVar,newRow,Value.cells,go_sem] using hK'
theorem RG {P:Program} (w:World) {ops:Array Oper} {rest:List Oper} {o:Oper} {a:Act} {Q:Exit→Act→World→Prop} (hgd:o.guard=none) (t:TypeId) (ho:o.op= .build t #[])
 (v:Value) (hr:(Instr.build t #[]).run P w= .ok v w) (h:wpList P ops Q rest (a.put o.dst v) w):wpList P ops Q (o::rest) a w:=by
 refine wpList_plain hgd fun K hK=> ?_
 have hK':=hK _ _ h
 unfold Oper.wp execOp
 simp only[ho,List.map_toArray,List.map_nil,Sem.run_bind,hr,Result.andThen_ok,Sem.run_pure]
 exact hK'
theorem QU {P:Program} (w:World) {ops:Array Oper} {rest:List Oper} {o:Oper} {a:Act} {Q:Exit→Act→World→Prop} (hgd:o.guard=none) (op:BinOp) (t t2:TypeId) (x y:Operand) (ho:o.op= .binOp op t x y t2)
 (hgt:P.eqGuardType P.depth t=false) (xs ys:Array Value) (hx:a.eval x= .agg xs) (hy:a.eval y= .agg ys) (v:Value) (hr:(binOp op t (.agg xs) (.agg ys)).run P w= .ok v w)
 (h:wpList P ops Q rest (a.put o.dst v) w):wpList P ops Q (o::rest) a w:=by
 refine wpList_plain hgd fun K hK=> ?_
 have hK':=hK _ _ h
 have hg:(eqGuard op t x y (.agg xs) (.agg ys)).run P w= .ok () w:=by
  cases op<;>simp[eqGuard,hgt,go_sem]
 unfold Oper.wp execOp
 simp only[ho,hx,hy,Sem.run_bind,hg,hr,Result.andThen_ok,Sem.run_pure]
 exact hK'
theorem RD {P:Program} {ops:Array Oper} {rest:List Oper} {o:Oper} {a:Act} {w:World} {Q:Exit→Act→World→Prop} (hw:Region.wanted o (yielded ops a.tmps)=true)
 (h:∀ K:Act→World→Prop,(∀ a w,wpList P ops Q rest a w→K a w)→o.wp P a w K Q):wpList P ops Q (o::rest) a w:=
 wpList_step fun K hK=>by rw[if_pos hw];exact h K hK
theorem j5 {P:Program} {ops:Array Oper} {rest:List Oper} {op:Oper} {a:Act} {w:World} {Q:Exit→Act→World→Prop} (ty:TypeId) (x:Operand) (ho:op.op= .load ty x)
 (b o:Nat) (hx:a.eval x= .pointer (some ⟨b,o,none⟩)) (cs:List Value) (d:TypeDesc) (hc:w.rangeAt b o cs)
 (hu:P.underlying ty=some d) (hd:d.isRow=true) (hi:(P.info? ty).map (·.size)=some cs.length)
 (hw:Region.wanted op (yielded ops a.tmps)=true) (h:wpList P ops Q rest (a.put op.dst (.agg cs.toArray)) w):wpList P ops Q (op::rest) a w:=
 RD hw fun _ hK=>wp_load_mid ty x ho b o hx cs d hc hu hd hi (hK _ _ h)
theorem jA {P:Program} (w:World) {ops:Array Oper} {rest:List Oper} {o:Oper} {a:Act} {Q:Exit→Act→World→Prop} (op:BinOp) (t t2:TypeId) (x y:Operand) (ho:o.op= .binOp op t x y t2)
 (hgt:P.eqGuardType P.depth t=false) (xs ys:Array Value) (hx:a.eval x= .agg xs) (hy:a.eval y= .agg ys) (v:Value) (hr:(binOp op t (.agg xs) (.agg ys)).run P w= .ok v w)
 (hw:Region.wanted o (yielded ops a.tmps)=true) (h:wpList P ops Q rest (a.put o.dst v) w):wpList P ops Q (o::rest) a w:=by
 refine RD hw fun K hK=> ?_
 have hK':=hK _ _ h
 have hg:(eqGuard op t x y (.agg xs) (.agg ys)).run P w= .ok () w:=by
  cases op<;>simp[eqGuard,hgt,go_sem]
 unfold Oper.wp execOp
 simp only[ho,hx,hy,Sem.run_bind,hg,hr,Result.andThen_ok,Sem.run_pure]
 exact hK'
theorem l5.range {w:World} {g:Nat} {t:TypeId} {cs:Array Value} (h:l5 w g t cs) {o:Nat} {l:List Value} (hl:∀ j v,l[j]? =some v→cs[o+j]? =some v):w.rangeAt g o l:=fun j v hv=>by
 rw[h.cell];exact hl j v hv
theorem rangeAt.keep {S:List Nat} {w w':World} {g o:Nat} {l:List Value} (h:w.rangeAt g o l) (hk:U1 S w w') (hS:g∉S):w'.rangeAt g o l:=fun j v hv=>by
 have h1:=h j v hv
 exact (hk.cell (p:=⟨g,o+j,none⟩) (World.block_lt_of_cell? w _ h1) hS).trans h1
theorem ZK {α β:Type} {f:α→Option β} {g:α→β}:∀ (l:List α),(∀ i∈l,f i=some (g i))→l.mapM f=some (l.map g)
 |[],_=>rfl
 |a::r,h=>by
  rw[List.mapM_cons,h a (by simp),ZK r (fun i hi=>h i (by simp[hi]))]
  rfl
def U7 (n:List UInt8):List Value:=n.map bv
theorem A8 (n:List UInt8):(U7 n).length=n.length:=by simp[U7]
theorem FT:prog.cellsOf 5=1:=by kernel_rfl
theorem zW:prog.plainKey 5=true:=by kernel_rfl
theorem PV:(prog.info? 5).map (fun i=>(i.zero,i.size,i.bytes))=some (some (.int .u8 0),1,1):=by kernel_rfl
theorem xB:(prog.info? 23).map (·.size)=some 32:=by kernel_rfl
theorem YB:prog.eqGuardType prog.depth 23=false:=by kernel_rfl
theorem TJ (n:List UInt8) (hl:n.length=32):
 (List.range 32).mapM (fun i=>prog.keyLits 1 5 (((U7 n).toArray.toList.drop (i*prog.cellsOf 5)).take (prog.cellsOf 5)))=some ((List.range 32).map fun i=>[Lit.int .u8 ((n.getD i 0).toNat:Int)]):=by
 refine ZK _ (fun i hi=> ?_)
 have hi':i<n.length:=by rw[hl];exact List.mem_range.1 hi
 rw[FT,Nat.mul_one]
 have e:((U7 n).toArray.toList.drop i).take 1=[.int .u8 ((n.getD i 0).toNat:Int)]:=by
  have hd:(n.map bv).drop i=bv n[i]::(n.map bv).drop (i+1):=by
   rw[List.drop_eq_getElem_cons (show i<(n.map bv).length by simpa using hi')]
   simp only[List.getElem_map]
  show (((n.map bv).toArray.toList.drop i).take 1)=_
  rw[List.toList_toArray,hd,List.getD_eq_getElem?_getD,List.getElem?_eq_getElem hi']
  rfl
 rw[e]
 have hb:=(n.getD i 0).toNat_lt
 have hw:(Lit.int .u8 ((n.getD i 0).toNat:Int)).wf=true:=by generalize (n.getD i 0).toNat=x at hb;simp[Lit.wf,IntKind.min,IntKind.max,IntKind.signed,IntKind.bits];omega
 unfold Program.keyLits
 rw[underlying5]
 show (if IntKind.u8=IntKind.u8∧_ then _ else _)=_
 rw[if_pos ⟨rfl,hw⟩]
theorem MJ {α β:Type} (f:α→β):∀ l:List α,(l.map fun i=>[f i]).flatten=l.map f
 |[]=>rfl
 |a::r=>by rw[List.map_cons,List.flatten_cons,MJ f r];rfl
theorem dU {n m:List UInt8} (hn:n.length=32) (hm:m.length=32) (h:((List.range 32).map fun i=>[Lit.int .u8 ((n.getD i 0).toNat:Int)]).flatten=((List.range 32).map fun i=>[Lit.int .u8 ((m.getD i 0).toNat:Int)]).flatten):n=m:=by
 rw[MJ,MJ] at h
 refine List.ext_getElem? (fun i=> ?_)
 by_cases hi:i<32
 ·have h2:=congrArg (·[i]?) h
  simp only[List.getElem?_map,List.getElem?_range hi,Option.map_some,Option.some.injEq,Lit.int.injEq,true_and] at h2
  rw[List.getD_eq_getElem?_getD,List.getD_eq_getElem?_getD,List.getElem?_eq_getElem (by omega),List.getElem?_eq_getElem (by omega)] at h2
  rw[List.getElem?_eq_getElem (by omega),List.getElem?_eq_getElem (by omega)]
  have h3:(n[i]'(by omega)).toNat=(m[i]'(by omega)).toNat:=by
   have h4:((n[i]'(by omega)).toNat:Int)=((m[i]'(by omega)).toNat:Int):=by simpa using h2
   omega
  rw[UInt8.toNat_inj.1 h3]
 ·rw[List.getElem?_eq_none (by omega),List.getElem?_eq_none (by omega)]
theorem ZF (n m:List UInt8) (hn:n.length=32) (hm:m.length=32) (w:World):
 (binOp .eql 23 (.agg (U7 n).toArray) (.agg (U7 m).toArray)).run prog w= .ok (.bool (decide (n=m))) w:=by
 obtain⟨i0,hi0,_⟩:=info_parts PV
 obtain⟨r,hr,hiff⟩:=run_eqItems_plain (P:=prog) w 9998 zW (U7 n).toArray (U7 m).toArray _ _ _ (TJ n hn) (TJ m hm)
 rw[run_eql_struct,run_equalIn_array w 9999 (U7 n).toArray (U7 m).toArray underlying23 hi0,hr]
 simp only[Result.andThen_ok]
 congr 2
 cases r with
 |true=>exact (decide_eq_true (dU hn hm (hiff.1 rfl))).symm
 |false=>exact (decide_eq_false (fun h=>by subst h;have:=hiff.2 rfl;cases this)).symm
def KA:Array Value→Nat→List Value→Array Value
 |cs,_,[]=>cs
 |cs,o,v::r=>KA (cs.setIfInBounds o v) (o+1) r
theorem bB:∀ (vs:List Value) (cs:Array Value) (o:Nat),(KA cs o vs).size=cs.size
 |[],_,_=>rfl
 |v::r,cs,o=>by rw[KA,bB r];simp
theorem KG:∀ (vs:List Value) (cs:Array Value) (o i:Nat),o+vs.length≤cs.size→(KA cs o vs)[i]? =if o≤i∧i<o+vs.length then vs[i-o]? else cs[i]?
 |[],cs,o,i,_=>by rw[KA,if_neg (by simp only[List.length_nil];omega)]
 |v::r,cs,o,i,h=>by
  simp only[List.length_cons] at h
  rw[KA,KG r _ _ _ (by simp;omega)]
  by_cases e:i=o
  ·subst e
   rw[if_neg (by omega),if_pos (by simp),Array.getElem?_setIfInBounds_self_of_lt (by omega)]
   simp
  ·rw[Array.getElem?_setIfInBounds_ne (fun h=>e h.symm)]
   by_cases c:o+1≤i∧i<o+1+r.length
   ·rw[if_pos c,if_pos (by simp only[List.length_cons];omega),show i-o=(i-(o+1))+1 by omega]
    simp
   ·rw[if_neg c,if_neg (by simp only[List.length_cons];omega)]
theorem F7 {vs:List Value} {cs:Array Value} (h:vs.length=cs.size):KA cs 0 vs=vs.toArray:=by
 refine Array.ext_getElem? (fun i=> ?_)
 rw[KG vs cs 0 i (by omega)]
 by_cases c:i<vs.length
 ·rw[if_pos (by omega)];simp
 ·rw[if_neg (by omega),Array.getElem?_eq_none (by omega),Array.getElem?_eq_none (by simp;omega)]
theorem l5.setL:∀{vs:List Value} {w:World} {g o:Nat} {t:TypeId} {cs:Array Value},l5 w g t cs→l5 (w.setCells g o vs) g t (KA cs o vs)
 |[],_,_,_,_,_,h=>h
 |v::r,w,g,o,t,cs,h=>by
  rw[World.setCells,KA]
  exact l5.setL (h.set o v)
theorem U1.setL {S:List Nat} {a:World}:∀{vs:List Value} {b:World} {g o:Nat},U1 S a b→(g∈S∨a.heap.size≤g)→U1 S a (b.setCells g o vs)
 |[],_,_,_,h,_=>h
 |v::r,b,g,o,h,hg=>by
  rw[World.setCells]
  exact U1.setL (h.setCell ⟨g,o,none⟩ v hg) hg
theorem l5.there {w:World} {g:Nat} {t:TypeId} {cs:Array Value} (h:l5 w g t cs) {o n:Nat} (hn:o+n≤cs.size):w.there g o n:=fun j hj=>
 ⟨by rw[h.cell,Array.getElem?_eq_getElem (by omega)];rfl,h.free _⟩
theorem l5.rangeAll {w:World} {g:Nat} {t:TypeId} {l:List Value} (h:l5 w g t l.toArray):w.rangeAt g 0 l:=h.range (fun j v hv=>by simpa using hv)
theorem T9 {P:Program} {md:Region.Mode} {ops:Array Oper} {Q:Exit→Act→World→Prop} {S:World→Prop} {fuel:Nat} {listed:Array Bool} {a:Act} {w:World} (i:Nat) (oi:Oper) (v:Value) (hS:S w)
 (h:wpAnyH P md ops Q S fuel (listed.setIfInBounds i true) (a.put oi.dst v) w) (hi:ops[i]? =some oi:=by rfl) (hs:Region.noSelect ops=true:=by kernel_rfl) (hf:Region.free md ops listed i=true:=by kernel_rfl) (hr:(Region.ready md ops listed).contains i=true:=by kernel_rfl)
 (hQ:∀ c a w,Q (.panic c) (a.put oi.dst v) w→Q (.panic c) a w:=by exact fun _ _ _ h=>h) (hy:YieldsIf P ops S oi v a:=by refine Or.inl ⟨by rfl,?_⟩;intro w' hSw;(try dsimp only at hSw);clear hSw;(go_simp;try with_reducible rfl)):wpAnyH P md ops Q S (fuel+1) listed a w:=wpAnyH_take hi hs hf hr hQ hy hS h
theorem FB {P:Program} {md:Region.Mode} {ops:Array Oper} {Q:Exit→Act→World→Prop} {S:World→Prop} {fuel:Nat} {listed:Array Bool} {a:Act} {w:World} (i:Nat) (oi:Oper) (v:Value) (hS:S w)
 (h:wpAnyH P md ops Q S fuel (listed.setIfInBounds i true) (a.put oi.dst v) w) (hi:ops[i]? =some oi:=by rfl) (hs:Region.noSelect ops=true:=by kernel_rfl) (hf:Region.free md ops listed i=true:=by kernel_rfl) (hr:(Region.ready md ops listed).contains i=true:=by kernel_rfl)
 (hQ:∀ c a w,Q (.panic c) (a.put oi.dst v) w→Q (.panic c) a w:=by exact fun _ _ _ h=>h) (hy:YieldsIf P ops S oi v a:=by refine Or.inl ⟨by rfl,?_⟩;intro w' hSw;(try dsimp only at hSw);(go_simp;try with_reducible rfl)):wpAnyH P md ops Q S (fuel+1) listed a w:=wpAnyH_take hi hs hf hr hQ hy hS h
theorem dB {P:Program} {md:Region.Mode} {ops:Array Oper} {Q:Exit→Act→World→Prop} {S:World→Prop} {fuel:Nat} {listed:Array Bool} {a:Act} {w:World} (i:Nat) (oi:Oper) (hS:S w)
 (h:wpAnyH P md ops Q S fuel (listed.setIfInBounds i true) (a.put oi.dst undef) w) (hi:ops[i]? =some oi:=by rfl) (hs:Region.noSelect ops=true:=by kernel_rfl) (hf:Region.free md ops listed i=true:=by kernel_rfl) (hr:(Region.ready md ops listed).contains i=true:=by kernel_rfl)
 (hQ:∀ c a w,Q (.panic c) (a.put oi.dst undef) w→Q (.panic c) a w:=by exact fun _ _ _ h=>h) (hy:YieldsIf P ops S oi undef a:=by exact Or.inr ⟨by rfl,rfl⟩):wpAnyH P md ops Q S (fuel+1) listed a w:=wpAnyH_take hi hs hf hr hQ hy hS h
theorem q9 {P:Program} {md:Region.Mode} {ops:Array Oper} {Q:Exit→Act→World→Prop} {S:World→Prop} {fuel:Nat} {listed:Array Bool} {a:Act} {w:World} {i:Nat} {x1:_} {x2:_} {x3:_} {x4:_} {x5:_} {x6:_} (ho:ops[i]? =some (Oper.mk x1 x2 x3 x4 x5 x6))
 (h:∀ K':Act→World→Prop,Shut (∀ a w,S w→(S w→wpAnyH P md ops Q S fuel (listed.setIfInBounds i true) a w)→K' a w)→if Region.wanted (Oper.mk x1 x2 x3 x4 x5 x6) (yielded ops a.tmps)=true then Oper.wp P (Oper.mk x1 x2 x3 x4 x5 x6) a w K' Q else K' (a.put (Oper.mk x1 x2 x3 x4 x5 x6).dst undef) w):
 AllReadyH P md ops Q S fuel listed a w [i]:=AllReadyH.cons ho h AllReadyH.nil
end Go.Proofs.YthfdkonhjpdflaaGreatDoor
