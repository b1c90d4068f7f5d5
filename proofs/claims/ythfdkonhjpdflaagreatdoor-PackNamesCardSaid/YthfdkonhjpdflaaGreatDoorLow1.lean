import Derived.Test.YthfdkonhjpdflaaGreatDoorRows
import Derived.WalkKit
import Derived.WalkSpells
import Derived.WalkLawsBesides
import Derived.Deep.AppendLies
import Derived.Deep.Draws
import Derived.Lib.Hide
import Derived.OwnWalk
import Derived.RegionTactic
import Derived.Deep.RegionLaw
import Derived.Handy
namespace Go.Proofs.YthfdkonhjpdflaaGreatDoor
open Go.RowKit Go.Proofs.Tryz
set_option linter.unusedVariables false
set_option maxHeartbeats 400000
def V5 (p:Prop):Prop:=p
theorem V5.o {p:Prop} (h:V5 p):p:=h
theorem U0 {p:Prop} (h:p):V5 p:=h
theorem U2 {p q:Prop} (a:p) (b:q):p∧q:=⟨a,b⟩
theorem F3 {α:Type} {l:List α} {i:Nat} {a:α}:l.toArray.setIfInBounds i a=(l.set i a).toArray:=List.setIfInBounds_toArray _ _ _
theorem U3 {α:Type} {x a:α} {l:List α}:(x::l).set 0 a=a::l:=List.set_cons_zero
theorem V3 {α:Type} {x a:α} {l:List α} {i:Nat}:(x::l).set (i+1) a=x::l.set i a:=List.set_cons_succ
theorem U4 {α:Type} {l:List α}:l.toArray.size=l.length:=List.size_toArray
def bv (b:UInt8):Value:= .int .u8 (b.toNat:Int)
def l5 (w:World) (g:Nat) (t:TypeId) (cs:Array Value):Prop:=w.heap[g]? =some (.cells cs t (0,0))
theorem l5.lt {w:World} {g:Nat} {t:TypeId} {cs:Array Value} (h:l5 w g t cs):g<w.heap.size:=by
 unfold l5 at h
 exact (Array.getElem?_eq_some_iff.1 h).1
theorem l5.cell {w:World} {g:Nat} {t:TypeId} {cs:Array Value} (h:l5 w g t cs) (i:Nat):w.cell? ⟨g,i,none⟩=cs[i]? :=
 cell_of_row w g i cs t (0,0) h
theorem l5.free {w:World} {g:Nat} {t:TypeId} {cs:Array Value} (h:l5 w g t cs) (i:Nat):w.frozen? ⟨g,i,none⟩=false:=by
 unfold l5 at h
 simp[World.frozen?,h]
theorem l5.set {w:World} {g:Nat} {t:TypeId} {cs:Array Value} (h:l5 w g t cs) (i:Nat) (u:Value):
 l5 (w.setCell ⟨g,i,none⟩ u) g t (cs.setIfInBounds i u):=by
 unfold l5 at h ⊢
 simp[World.setCell,Array.getElem?_modify,h]
theorem l5.new (w:World) (t:TypeId) (cs:Array Value):l5 (w.alloc (.cells cs t)) w.heap.size t cs:=heap_alloc_new w _
theorem l5.uniq {w:World} {g:Nat} {t t':TypeId} {cs cs':Array Value} (h:l5 w g t cs) (h':l5 w g t' cs'):t=t'∧cs=cs':=by
 unfold l5 at h h'
 rw[h] at h'
 injection h' with h'
 injection h' with a b _
 exact⟨b,a⟩
theorem l5.apart {w:World} {g g':Nat} {t t':TypeId} {cs cs':Array Value} (h:l5 w g t cs) (h':l5 w g' t' cs') (hne:t≠t'):g≠g':=by
 rintro rfl
 exact hne (h.uniq h').1
def OG (w:World) (k:Nat):Prop:=∀ i,w.frozen? ⟨k,i,none⟩=false
def sQ:Obj→Bool
 | .cells _ _ (lo,hi)=>lo==hi
 |_=>true
theorem OG.of {w w':World} {k:Nat} (h:w'.heap[k]? =w.heap[k]?) (hs:OG w k):OG w' k:=fun i=>by
 have:=hs i
 unfold World.frozen? at this ⊢
 dsimp only at this ⊢
 rw[h]
 exact this
theorem OG.alloc {w:World} {k:Nat} (o:Obj) (ho:sQ o=true) (hs:OG w k):OG (w.alloc o) k:=by
 by_cases hk:k<w.heap.size
 ·exact hs.of (Below.heap_alloc w o k hk)
 ·by_cases he:k=w.heap.size
  ·subst he
   intro i
   unfold World.frozen?
   dsimp only
   rw[heap_alloc_new w o]
   cases o with
   |cells cs t fr=>
    obtain⟨lo,hi⟩:=fr
    simp only[sQ,beq_iff_eq] at ho
    subst ho
    simp
    try omega
   |_=>rfl
  ·intro i
   unfold World.frozen?
   dsimp only
   rw[Array.getElem?_eq_none (by simp;omega)]
theorem OG.setCell {w:World} {k:Nat} (p:Addr) (u:Value) (hs:OG w k):OG (w.setCell p u) k:=by
 by_cases he:k=p.block
 ·subst he
  intro i
  have:=hs i
  unfold World.frozen? at this ⊢
  unfold World.setCell
  dsimp only at this ⊢
  cases hh:w.heap[p.block]? with
  |none=>rw[Array.getElem?_eq_none (by have:=Array.getElem?_eq_none_iff.1 hh;simpa using this)]
  |some o=>
   rw[hh] at this
   simp only[Array.getElem?_modify,hh,if_true,Option.map_some]
   cases o<;>first|exact this|rfl
 ·exact hs.of (Below.heap_setCell w p u k he)
structure U1 (S:List Nat) (w w':World):Prop where
 os:w'.os=w.os
 tape:w'.tape=w.tape
 output:w'.output=w.output
 size:w.heap.size≤w'.heap.size
 block:∀ k,k<w.heap.size→k∉S→w'.heap[k]? =w.heap[k]?
 soft:∀ k,OG w k→OG w' k
theorem U1.free {S:List Nat} {w w':World} (h:U1 S w w') {k:Nat} (hk:w.heap.size≤k) (i:Nat):w'.frozen? ⟨k,i,none⟩=false:=
 h.soft k (fun j=>by unfold World.frozen?;dsimp only;rw[Array.getElem?_eq_none hk]) i
theorem U1.refl (S:List Nat) (w:World):U1 S w w:=⟨rfl,rfl,rfl,Nat.le_refl _,fun _ _ _=>rfl,fun _ h=>h⟩
theorem U1.then {S T:List Nat} {a b c:World} (h:U1 S a b) (k:U1 T b c) (hT:∀ x∈T,x∈S∨a.heap.size≤x):U1 S a c:=
 ⟨k.os.trans h.os,k.tape.trans h.tape,k.output.trans h.output,Nat.le_trans h.size k.size,fun i hi hS=>
  (k.block i (Nat.lt_of_lt_of_le hi h.size) (fun hm=>by rcases hT i hm with h1|h1;exact hS h1;omega)).trans (h.block i hi hS),fun i hs=>k.soft i (h.soft i hs)⟩
theorem U1.more {S T:List Nat} {a b:World} (h:U1 S a b) (hST:∀ x∈S,x∈T):U1 T a b:=
 ⟨h.os,h.tape,h.output,h.size,fun k hk hT=>h.block k hk (fun hm=>hT (hST k hm)),h.soft⟩
theorem U1.alloc {S:List Nat} {a b:World} (h:U1 S a b) (o:Obj) (ho:sQ o=true:=by rfl):U1 S a (b.alloc o):=
 ⟨h.os,h.tape,h.output,by have:=h.size;simp;omega,fun k hk hS=>by
  rw[Below.heap_alloc b o k (by have:=h.size;omega)];exact h.block k hk hS,fun k hs=>(h.soft k hs).alloc o ho⟩
theorem U1.drew {S:List Nat} {a b:World} (h:U1 S a b):U1 S a b.drew:=⟨h.os,h.tape,h.output,h.size,h.block,h.soft⟩
theorem U1.drewN {S:List Nat} {a b:World} (h:U1 S a b) (n:Nat):U1 S a (b.drewN n):=⟨h.os,h.tape,h.output,h.size,h.block,h.soft⟩
theorem U1.setCell {S:List Nat} {a b:World} (h:U1 S a b) (p:Addr) (u:Value) (hp:p.block∈S∨a.heap.size≤p.block):U1 S a (b.setCell p u):=
 ⟨h.os,h.tape,h.output,by have:=h.size;simpa using this,fun k hk hS=>by
  rw[Below.heap_setCell b p u k (by rintro rfl;rcases hp with h1|h1;exact hS h1;omega)];exact h.block k hk hS,fun k hs=>(h.soft k hs).setCell p u⟩
theorem U1.below {S:List Nat} {a b:World} (h:U1 S a b) (B:Nat) (hB:B≤a.heap.size) (hS:∀ x∈S,B≤x):Below B a b:=
 ⟨h.os,h.tape,h.output,h.size,fun k hk=>h.block k (by omega) (fun hm=>by have:=hS k hm;omega)⟩
theorem U1.row {S:List Nat} {a b:World} (h:U1 S a b) {g:Nat} {t:TypeId} {cs:Array Value} (hr:l5 a g t cs) (hg:g∉S):l5 b g t cs:=
 (h.block g hr.lt hg).trans hr
theorem U1.cell {S:List Nat} {a b:World} (h:U1 S a b) {p:Addr} (hp:p.block<a.heap.size) (hS:p.block∉S):b.cell? p=a.cell? p:=
 World.cell?_of_block (h.block p.block hp hS)
def QA (w:World) (A:Option Addr) (g:Nat) (l:List UInt8):Prop:=
 l≠[]→∃ o,A=some ⟨g,o,none⟩∧g<w.heap.size∧∀ j b,l[j]? =some b→w.cell? ⟨g,o+j,none⟩=some (bv b)
theorem QA.nil (w:World) (A:Option Addr) (g:Nat):QA w A g []:=fun h=>absurd rfl h
theorem QA.keep {S:List Nat} {w w':World} {A:Option Addr} {g:Nat} {l:List UInt8} (h:QA w A g l) (hk:U1 S w w') (hg:l≠[]→g∉S):QA w' A g l:=by
 intro hl
 obtain⟨o,hA,hlt,hc⟩:=h hl
 exact⟨o,hA,Nat.lt_of_lt_of_le hlt hk.size,fun j b hb=>(hk.cell (p:=⟨g,o+j,none⟩) hlt (hg hl)).trans (hc j b hb)⟩
theorem TE (g o n:Nat):(⟨g,o,none⟩:Addr).add n=⟨g,o+n,none⟩:=by
 unfold Addr.add
 split
 ·simp_all
 ·rfl
theorem QA.take {w:World} {A:Option Addr} {g:Nat} {l:List UInt8} (h:QA w A g l) (n:Nat):QA w A g (l.take n):=by
 intro hl
 obtain⟨o,hA,hlt,hc⟩:=h (by rintro rfl;simp at hl)
 refine⟨o,hA,hlt,fun j b hb=>hc j b ?_⟩
 rw[List.getElem?_take] at hb
 split at hb
 ·exact hb
 ·cases hb
theorem QA.drop {w:World} {A:Option Addr} {g:Nat} {l:List UInt8} (h:QA w A g l) (n:Nat):QA w (A.map fun x=>x.add n) g (l.drop n):=by
 intro hl
 obtain⟨o,rfl,hlt,hc⟩:=h (by rintro rfl;simp at hl)
 refine⟨o+n,by simp[TE],hlt,fun j b hb=> ?_⟩
 rw[Nat.add_assoc]
 exact hc _ b (by rw[←hb,List.getElem?_drop])
structure RS where
 l:List UInt8
 e:Int
def YF:Nat:=9007199254740991
def RS.okay (r:RS):Prop:=r.e≠0→r.l=[]
def RS.fail (r:RS) (x:Int):RS:=if r.e=0 then⟨[],x⟩ else r
def RS.took (r:RS) (n:Nat):Bool:=decide (r.e=0∧n≤r.l.length)
def RS.take (r:RS) (n:Nat):List UInt8:=if r.e=0∧n≤r.l.length then r.l.take n else[]
def RS.past (r:RS) (n:Nat):RS:=if r.e=0 then (if n≤r.l.length then⟨r.l.drop n,0⟩ else⟨[],3⟩) else r
def FI (n:Int):Bool:=n==1||n==2||n==4||n==8
def be (l:List UInt8):Nat:=l.foldl (fun n b=>n*256+b.toNat) 0
def RS.num (r:RS) (width:Int):Int × RS:=
 if FI width=true then
  if r.took width.toNat=true then
   if YF<be (r.take width.toNat) then (0,(r.past width.toNat).fail 9) else (be (r.take width.toNat),r.past width.toNat)
  else (0,r.past width.toNat)
 else (0,r.fail 2)
def iG (most:Int):List UInt8→Nat→Nat→Int × RS
 |[],_,_=>(0,⟨[],3⟩)
 |b::t,size,n=>
  if size=0∧b.toNat=128 then (0,⟨[],4⟩)
  else if b.toNat<128 then
   (if YF<n*128+b.toNat % 128 then (0,⟨[],9⟩)
   else if most<((n*128+b.toNat % 128:Nat):Int) then (0,⟨[],5⟩)
   else (((n*128+b.toNat % 128:Nat):Int),⟨t,0⟩))
  else if size=7 then (0,⟨[],4⟩)
  else iG most t (size+1) (n*128+b.toNat % 128)
def RS.count (r:RS) (most:Int):Int × RS:=if r.e=0 then iG most r.l 0 0 else (0,r)
def RS.raw (r:RS) (n:Int):List UInt8 × RS:=
 if n<0 then ([],r.fail 2) else (r.take n.toNat,r.past n.toNat)
def RS.text (r:RS) (most:Int):List UInt8 × RS:=(r.count most).2.raw (r.count most).1
def RS.end_ (r:RS):Int:=if r.e=0 then (if r.l=[] then 0 else 4) else r.e
theorem RS.took_iff (r:RS) (n:Nat):r.took n=true↔r.e=0∧n≤r.l.length:=by simp[RS.took]
theorem OT (most:Int):∀ (l:List UInt8) (s n:Nat),(iG most l s n).2.okay:=by
 intro l
 induction l with
 |nil=>intro s n;simp[iG,RS.okay]
 |cons b t ih=>
  intro s n
  unfold iG
  split
  ·simp[RS.okay]
  ·split
   ·split
    ·simp[RS.okay]
    ·split<;>simp[RS.okay]
   ·split
    ·simp[RS.okay]
    ·exact ih _ _
theorem RS.fail_okay (r:RS) (h:r.okay) (x:Int):(r.fail x).okay:=by
 unfold RS.fail;split
 ·simp[RS.okay]
 ·exact h
theorem RS.past_okay (r:RS) (h:r.okay) (n:Nat):(r.past n).okay:=by
 unfold RS.past;split
 ·split<;>simp[RS.okay]
 ·exact h
theorem RS.num_okay (r:RS) (h:r.okay) (n:Int):(r.num n).2.okay:=by
 unfold RS.num;split
 ·split
  ·split
   ·exact RS.fail_okay _ (RS.past_okay _ h _) _
   ·exact RS.past_okay _ h _
  ·exact RS.past_okay _ h _
 ·exact RS.fail_okay _ h _
theorem RS.count_okay (r:RS) (h:r.okay) (n:Int):(r.count n).2.okay:=by
 unfold RS.count;split
 ·exact OT _ _ _ _
 ·exact h
theorem RS.raw_okay (r:RS) (h:r.okay) (n:Int):(r.raw n).2.okay:=by
 unfold RS.raw;split
 ·exact RS.fail_okay _ h _
 ·exact RS.past_okay _ h _
theorem RS.text_okay (r:RS) (h:r.okay) (n:Int):(r.text n).2.okay:=RS.raw_okay _ (RS.count_okay _ h _) _
theorem ZQ (most:Int):∀ (l:List UInt8) (s n:Nat),0≤(iG most l s n).1∧(iG most l s n).1≤YF:=by
 intro l
 induction l with
 |nil=>intro s n;simp[iG]
 |cons b t ih=>
  intro s n
  unfold iG
  split
  ·simp
  ·split
   ·split
    ·simp
    ·split
     ·simp
     ·constructor
      ·exact Int.natCast_nonneg _
      ·simp only;omega
   ·split
    ·simp
    ·exact ih _ _
theorem RS.count_range (r:RS) (most:Int):0≤(r.count most).1∧(r.count most).1≤YF:=by
 unfold RS.count;split
 ·exact ZQ _ _ _ _
 ·simp
structure WS where
 b:List UInt8
 e:Int
def LB (width n:Int):Bool:=decide (0≤n) && (if width=8 then decide (n≤(YF:Int)) else decide (n<(2:Int)^(8*width.toNat)))
def l7 (width n:Nat):List UInt8:=(List.range width).map fun i=>UInt8.ofNat (n/256^(width-1-i) % 256)
def WS.num (w:WS) (width n:Int):WS:=
 if w.e=0 then (if FI width=true then (if LB width n=true then⟨w.b++l7 width.toNat n.toNat,0⟩ else⟨w.b,9⟩) else⟨w.b,2⟩) else w
def yF (n:Nat):List UInt8:=if h:n=0 then[] else yF (n/128)++[UInt8.ofNat (128+n % 128)]
termination_by n
decreasing_by omega
def cb (n:Nat):List UInt8:=yF (n/128)++[UInt8.ofNat (n % 128)]
def WS.count (w:WS) (n:Int):WS:=if w.e=0 then (if n<0∨(YF:Int)<n then⟨w.b,9⟩ else⟨w.b++cb n.toNat,0⟩) else w
def WS.raw (w:WS) (b:List UInt8):WS:=if w.e=0 then⟨w.b++b,0⟩ else w
def WS.text (w:WS) (b:List UInt8):WS:=(w.count b.length).raw b
def WS.bytes (w:WS):List UInt8:=if w.e=0 then w.b else[]
theorem aF (n:Int) (h0:0≤n) (h1:n<2^64):IntKind.u64.wrap n=n:=by rw[IntKind.wrap_u64];omega
theorem Z8 (n:Int) (h0:0≤n) (h1:n<2^63):IntKind.i64.wrap n=n:=by rw[IntKind.wrap_i64];omega
theorem NN (x b:Nat) (hx:x<2^56) (hb:b<256):
 bits .or .u64 (IntKind.u64.wrap ((x:Int)*256)) (IntKind.u64.wrap (b:Int))=((x*256+b:Nat):Int):=by
 rw[aF _ (by omega) (by omega),aF _ (by omega) (by omega),
  bits_join .u64 64 (by decide) aF 8 _ _ (by omega) (by omega) (by omega) (by omega) (by omega) (by omega)]
 omega
theorem iM (x b:Nat) (hx:x<2^55) (hb:b<128):
 bits .or .i64 ((x:Int)*128) (b:Int)=((x*128+b:Nat):Int):=by
 rw[bits_join .i64 63 (by decide) Z8 7 _ _ (by omega) (by omega) (by omega) (by omega) (by omega) (by omega)]
 omega
theorem nH (b:Nat) (hb:b<256):bits .and .u8 (b:Int) 127=((b % 128:Nat):Int):=by
 have:=bits_mask .u8 8 (by decide) wraps_u8 7 (by decide) (b:Int) (by omega) (by omega)
 rw[show ((127:Int))=2^7-1 from rfl,this]
 omega
theorem uR (b:Nat) (hb:b<128):bits .or .u8 (b:Int) 128=((128+b:Nat):Int):=by
 have h:=(bits_nat .u8 8 (by decide) wraps_u8 b 128 (by omega) (by omega)).2
 rw[show ((128:Int))=((128:Nat):Int) from rfl,h,Nat.or_comm]
 have:=Nat.two_pow_add_eq_or_of_lt (i:=7) (show b<2^7 by omega) 1
 simp at this
 rw[←this]
def MB (w:World) (A:Option Addr) (g n sz:Nat) (xs:List Value):Prop:=
 xs.length=n*sz∧(0<n→∃ o,A=some ⟨g,o,none⟩∧g<w.heap.size∧∀ j u,xs[j]? =some u→w.cell? ⟨g,o+j,none⟩=some u)
theorem QA.reads {w:World} {A:Option Addr} {g:Nat} {l:List UInt8} (h:QA w A g l):MB w A g l.length 1 (l.map bv):=by
 refine⟨by simp,fun hn=> ?_⟩
 obtain⟨o,hA,hlt,hc⟩:=h (by rintro rfl;simp at hn)
 refine⟨o,hA,hlt,fun j u hu=> ?_⟩
 rw[List.getElem?_map] at hu
 cases hb:l[j]? with
 |none=>rw[hb] at hu;cases hu
 |some b=>rw[hb] at hu;simp at hu;subst hu;exact hc j b hb
def Z6 (v:Value):List Nat:=v.ownBlock.toList
theorem d9 (n c:Nat):Z6 (.slice none n c)=[]:=rfl
theorem V8 (g o n c:Nat):Z6 (.slice (some ⟨g,o,none⟩) n c)=[g]:=rfl
theorem WI {v v':Value} {k x:Nat} (h:v'.ownBlock=v.ownBlock∨v'.ownBlock=some k) (hx:x∈Z6 v'):x∈Z6 v∨x=k:=by
 unfold Z6 at hx ⊢
 rcases h with h|h
 ·rw[h] at hx;exact .inl hx
 ·rw[h] at hx;simp at hx;exact .inr hx
def qA (w:World) (e:TypeId) (sz:Nat) (v:Value) (n:Nat) (xs:List Value):Prop:=
 xs.length=n*sz∧
 ((v= .slice none 0 0∧n=0)∨
  ∃ g cap cur,v= .slice (some ⟨g,0,none⟩) n cap∧l5 w g e cur∧n≤cap∧cap≤maxLen∧cur.size=cap*sz∧cur.toList.take (n*sz)=xs)
theorem qA.nil (w:World) (e:TypeId) (sz:Nat):qA w e sz (.slice none 0 0) 0 []:=⟨by simp,.inl ⟨rfl,rfl⟩⟩
theorem qA.keep {S:List Nat} {w w':World} {e:TypeId} {sz n:Nat} {v:Value} {xs:List Value} (h:qA w e sz v n xs) (hk:U1 S w w') (hS:∀ x∈Z6 v,x∉S):qA w' e sz v n xs:=by
 refine⟨h.1,?_⟩
 rcases h.2 with h2|⟨g,cap,cur,rfl,hr,rest⟩
 ·exact .inl h2
 ·exact .inr ⟨g,cap,cur,rfl,hk.row hr (hS g (by simp[V8])),rest⟩
theorem qA.form {w:World} {e:TypeId} {sz n:Nat} {v:Value} {xs:List Value} (h:qA w e sz v n xs):
 ∃ A c,v= .slice A n c∧n≤c∧c≤maxLen∧(∀ x∈Z6 v,x<w.heap.size)∧∀ g,(Z6 v=[]∨Z6 v=[g])→MB w A g n sz xs:=by
 rcases h.2 with⟨rfl,rfl⟩|⟨g,cap,cur,rfl,hr,h1,h2,h3,h4⟩
 ·exact⟨none,0,rfl,by omega,by simp[maxLen],by simp[d9],fun g _=>⟨h.1,fun h0=>absurd h0 (by omega)⟩⟩
 ·refine⟨_,cap,rfl,h1,h2,by simpa[V8] using hr.lt,fun g' hg=>⟨h.1,fun h0=> ?_⟩⟩
  have hgg:g=g':=by simpa[V8] using hg
  subst hgg
  refine⟨0,rfl,hr.lt,fun j u hu=> ?_⟩
  rw[hr.cell]
  rw[←h4,List.getElem?_take] at hu
  split at hu
  ·simpa using hu
  ·cases hu
section
variable {P:Program} (w:World)
theorem yM (t ty e:TypeId) (i:TypeInfo) (ht:P.underlying t=some (.slice e)) (hi:P.info? e=some i)
 (v:Value) (n sz:Nat) (xs:List Value) (hown:qA w e sz v n xs) (A:Option Addr) (c:Nat) (hA:A=none∨n=0∨True):
 (Builtin.append_ #[t,t] ty #[v,.slice A 0 c]).run P w= .ok v w:=by
 rcases hown.2 with⟨rfl,rfl⟩|⟨g,cap,cur,rfl,_,hnc,_⟩
 ·cases A<;>simp[Builtin.append_,run_underlying ht,sizeOf,typeInfo,hi,Builtin.lenOf,Builtin.firstCells,loadCells,loadCellsFrom]
 ·cases A<;>simp[Builtin.append_,run_underlying ht,sizeOf,typeInfo,hi,Builtin.lenOf,Builtin.firstCells,hnc,storeCells,loadCells,loadCellsFrom]
theorem dK (t ty e:TypeId) (i:TypeInfo) (z:Value) (sz bytes:Nat) (ht:P.underlying t=some (.slice e)) (hi:P.info? e=some i) (hz:i.zero=some z)
 (hsize:i.size=sz) (hby:i.bytes=bytes) (hzs:z.cells.size=sz) (hsz:0<sz)
 (v:Value) (n:Nat) (xs:List Value) (hown:qA w e sz v n xs)
 (A:Option Addr) (g m c:Nat) (news:List Value) (hr:MB w A g m sz news) (h1:∀ u∈news,u.oneCell'=true)
 (hbytes:(n+m)*bytes≤140737488355328) (hlen:n+m≤maxLen):
 ∃ v' w',(Builtin.append_ #[t,t] ty #[v,.slice A m c]).run P w= .ok v' w'∧qA w' e sz v' (n+m) (xs++news)∧U1 (Z6 v) w w'∧
  (v'.ownBlock=v.ownBlock∨v'.ownBlock=some w.heap.size):=by
 subst hsize
 subst hby
 have h63:n+m≤maxLen:=hlen
 have hall:(xs++news).length=(n+m)*i.size:=by rw[List.length_append,hown.1,hr.1,Nat.add_mul]
 rcases Nat.eq_zero_or_pos m with hm|hm
 ·subst hm
  have hn:news=[]:=List.eq_nil_of_length_eq_zero (by simpa using hr.1)
  subst hn
  exact⟨v,w,yM w t ty e i ht hi v n i.size xs hown A c (.inr (.inr trivial)),by simpa using hown,U1.refl _ _,.inl rfl⟩
 ·obtain⟨o,rfl,hlt,hc⟩:=hr.2 hm
  have hcells:∀ j u,news[j]? =some u→w.cell? ((⟨g,o,none⟩:Addr).add j)=some u:=fun j u hu=>by rw[TE];exact hc j u hu
  have fresh:∀ (old:Nat),old<n+m→
   qA (w.drew.alloc (.cells (xs.toArray++news.toArray++Builtin.zeroCells z.cells (grownCap w (n+m) old e-(n+m))) e)) e i.size
    (.slice (some ⟨w.heap.size,0,none⟩) (n+m) (grownCap w (n+m) old e)) (n+m) (xs++news)∧
   U1 (Z6 v) w (w.drew.alloc (.cells (xs.toArray++news.toArray++Builtin.zeroCells z.cells (grownCap w (n+m) old e-(n+m))) e)):=by
   intro old ho
   have hge:=grownCap_ge w (n+m) old e
   have hcm:grownCap w (n+m) old e≤maxLen:=grownCap_le_maxLen w (n+m) old e h63
   refine⟨⟨hall,.inr ⟨w.heap.size,_,_,rfl,l5.new w.drew _ _,hge,hcm,?_,?_⟩⟩,((U1.refl _ _).drew).alloc _⟩
   ·simp only[Array.size_append,U4,size_zeroCells,hzs,hown.1,hr.1,←Nat.add_mul]
    congr 1
    omega
   ·simp only[Array.toList_append,List.append_assoc]
    rw[←List.append_assoc,←hall]
    exact List.take_left
  rcases hown.2 with⟨rfl,rfl⟩|⟨g',cap,cur,rfl,hg,hnc,hcm,hcs,htake⟩
  ·have hx:xs=[]:=List.eq_nil_of_length_eq_zero (by simpa using hown.1)
   subst hx
   have hrun:=run_append_nil (P:=P) w t ty e i z ht hi hz ⟨g,o,none⟩ m c news hr.1 hcells hm (by simp only[maxLen] at h63;omega) (by have h:=hbytes;rw[Nat.zero_add] at h;omega)
   have hf:=fresh 0 (by omega)
   simp only[Nat.zero_add,List.nil_append,Array.empty_append] at hf ⊢
   exact⟨_,_,hrun,hf.1,hf.2,.inr rfl⟩
  ·by_cases hroom:n+m≤cap
   ·have hfit:n*i.size+news.length≤cur.size:=by rw[hr.1,hcs,←Nat.add_mul];exact Nat.mul_le_mul_right _ hroom
    have hrun:=run_append_room (P:=P) w t ty e i ht hi g' n cap cur hg ⟨g,o,none⟩ m c news hr.1 hcells h1 hroom hfit
    refine⟨_,_,hrun,⟨hall,.inr ⟨g',cap,_,rfl,setRow_heap w g' cur _ e _ hg,hroom,hcm,?_,?_⟩⟩,⟨rfl,rfl,rfl,by simp,fun k hk hS=>setRow_other w g' k _ (fun e=>hS (by simp[V8,e])),fun k hs=>by
     by_cases hkg:k=g'
     ·subst hkg;exact fun j=>l5.free (setRow_heap w k cur _ e _ hg) j
     ·exact hs.of (setRow_other w g' k _ hkg)⟩,.inl rfl⟩
    ·simp only[U4,List.length_append,List.length_take,List.length_drop,Array.length_toList]
     omega
    ·rw[htake,←hall]
     exact List.take_left
   ·have holds:∀ j u,xs[j]? =some u→w.cell? ((⟨g',0,none⟩:Addr).add j)=some u:=by
     intro j u hu
     rw[TE,Nat.zero_add,l5.cell hg]
     rw[←htake,List.getElem?_take] at hu
     split at hu
     ·simpa using hu
     ·cases hu
    have hrun:=run_append_grow (P:=P) w t ty e i z ht hi hz ⟨g',0,none⟩ n cap xs hown.1 holds ⟨g,o,none⟩ m c news hr.1 hcells (by omega) (by simp only[maxLen] at h63;omega) (growslice_fits (by omega) hbytes)
    have hf:=fresh cap (by omega)
    exact⟨_,_,hrun,hf.1,hf.2,.inr rfl⟩
theorem NA {ops:Array Oper} {rest:List Oper} {o:Oper} {a:Act} {Q:Exit→Act→World→Prop} (hgd:o.guard=none) (s x:Operand) (t:TypeId)
 (ho:o.op= .call {callee:= .builtin .append,args:= #[s,x],argTypes:= #[t,t]})
 (e:TypeId) (i:TypeInfo) (z:Value) (sz bytes:Nat) (ht:P.underlying t=some (.slice e)) (hi:P.info? e=some i) (hz:i.zero=some z)
 (hsize:i.size=sz) (hby:i.bytes=bytes) (hzs:z.cells.size=sz) (hsz:0<sz)
 (v:Value) (n:Nat) (xs:List Value) (hs:a.eval s=v) (hown:qA w e sz v n xs)
 (A:Option Addr) (g m c:Nat) (news:List Value) (hx:a.eval x= .slice A m c) (hr:MB w A g m sz news) (h1:∀ u∈news,u.oneCell'=true)
 (hbytes:(n+m)*bytes≤140737488355328) (hlen:n+m≤maxLen)
 (h:∀ A' c' w',qA w' e sz (.slice A' (n+m) c') (n+m) (xs++news)→U1 (Z6 v) w w'→(∀ x∈Z6 (.slice A' (n+m) c'),x∈Z6 v∨w.heap.size≤x)→wpList P ops Q rest (a.put o.dst (.slice A' (n+m) c')) w'):wpList P ops Q (o::rest) a w:=
 wpList_plain hgd fun K hK=>by
  obtain⟨v',w',hr2,h2,h3,h4⟩:=dK (P:=P) w t o.type e i z sz bytes ht hi hz hsize hby hzs hsz v n xs hown A g m c news hr h1 hbytes hlen
  unfold Oper.wp execOp
  simp only[ho,resolve,invoke,builtin,Sem.run_bind,Sem.run_pure,Result.andThen_ok,List.map_toArray,List.map_cons,List.map_nil,hs,hx,hr2]
  obtain⟨A',c',rfl,_⟩:=h2.form
  exact hK _ _ (h A' c' w' h2 h3 (fun x hx=>(WI h4 hx).imp id (by omega)))
theorem oC {ops:Array Oper} {o:Oper} {a:Act} {K:Act→World→Prop} {Q:Exit→Act→World→Prop} {E:Prop} (hgd:o.guard=none) (s x:Operand) (t:TypeId)
 (ho:o.op= .call {callee:= .builtin .append,args:= #[s,x],argTypes:= #[t,t]})
 (e:TypeId) (i:TypeInfo) (z:Value) (sz bytes:Nat) (ht:P.underlying t=some (.slice e)) (hi:P.info? e=some i) (hz:i.zero=some z)
 (hsize:i.size=sz) (hby:i.bytes=bytes) (hzs:z.cells.size=sz) (hsz:0<sz)
 (v:Value) (n:Nat) (xs:List Value) (hs:a.eval s=v) (hown:qA w e sz v n xs)
 (A:Option Addr) (g m c:Nat) (news:List Value) (hx:a.eval x= .slice A m c) (hr:MB w A g m sz news) (h1:∀ u∈news,u.oneCell'=true)
 (hbytes:(n+m)*bytes≤140737488355328) (hlen:n+m≤maxLen)
 (h:∀ A' c' w',qA w' e sz (.slice A' (n+m) c') (n+m) (xs++news)→U1 (Z6 v) w w'→(∀ x∈Z6 (.slice A' (n+m) c'),x∈Z6 v∨w.heap.size≤x)→K (a.put o.dst (.slice A' (n+m) c')) w'):
 if Region.wanted o (yielded ops a.tmps)=true then Oper.wp P o a w K Q else E:=by
 have hw:Region.wanted o (yielded ops a.tmps)=true:=by simp[Region.wanted,hgd]
 rw[if_pos hw]
 obtain⟨v',w',hr2,h2,h3,h4⟩:=dK (P:=P) w t o.type e i z sz bytes ht hi hz hsize hby hzs hsz v n xs hown A g m c news hr h1 hbytes hlen
 unfold Oper.wp execOp
 simp only[ho,resolve,invoke,builtin,Sem.run_bind,Sem.run_pure,Result.andThen_ok,List.map_toArray,List.map_cons,List.map_nil,hs,hx,hr2]
 obtain⟨A',c',rfl,_⟩:=h2.form
 exact h A' c' w' h2 h3 (fun x hx=>(WI h4 hx).imp id (by omega))
end
theorem qE (w:World) (e:TypeId) (u:Value):MB (w.alloc (.cells #[u] e)) (some ⟨w.heap.size,0,none⟩) w.heap.size 1 1 [u]:=by
 refine⟨rfl,fun _=>⟨0,rfl,by simp,fun j x hx=> ?_⟩⟩
 rw[(l5.new w e #[u]).cell]
 match j,hx with
 |0,hx=>simpa using hx
theorem qA.alloc {w:World} {e:TypeId} {sz n:Nat} {v:Value} {xs:List Value} (h:qA w e sz v n xs) (o:Obj) (ho:sQ o=true:=by rfl):qA (w.alloc o) e sz v n xs:=
 h.keep ((U1.refl [] w).alloc o ho) (by simp)
theorem qA.drew {w:World} {e:TypeId} {sz n:Nat} {v:Value} {xs:List Value} (h:qA w e sz v n xs):qA w.drew e sz v n xs:=
 h.keep ((U1.refl [] w).drew) (by simp)
theorem qA.apart {w:World} {e t:TypeId} {sz n p:Nat} {v:Value} {xs:List Value} {cs:Array Value} (h:qA w e sz v n xs) (hp:l5 w p t cs) (hne:t≠e):p∉Z6 v:=by
 rcases h.2 with⟨rfl,_⟩|⟨g,cap,cur,rfl,hr,_⟩
 ·simp[d9]
 ·simp only[V8,List.mem_singleton]
  exact hp.apart hr hne
theorem qA.lt {w:World} {e:TypeId} {sz n:Nat} {v:Value} {xs:List Value} (h:qA w e sz v n xs):∀ x∈Z6 v,x<w.heap.size:=by
 obtain⟨_,_,_,_,_,h5,_⟩:=h.form;exact h5
theorem l9 (i n:Int) (hi: -9223372036854775808≤i) (hi':i≤9223372036854775807) (hn:0<n) (hn':n≤9223372036854775807) (w:World):
 Calls prog 115 #[.int .i64 i,.int .i64 n] w fun e w'=>e= .returned (.int .i64 (i % n))∧w=w':=by
 have h0:n≠0:=by omega
 have h1:i.tmod n<n:=Int.tmod_lt_of_pos i hn
 have h2: -n<i.tmod n:=by have:=Int.lt_tmod_of_pos i hn;omega
 have h3:i % n=if i.tmod n<0 then i.tmod n+n else i.tmod n:=by
  have e1:=Int.tmod_add_mul_tdiv i n
  have e2:i % n=(i.tmod n) % n:=by
   conv=>lhs;rw[←e1]
   simp
  rw[e2]
  split
  ·rw[←Int.add_emod_right,Int.emod_eq_of_lt (by omega) (by omega)]
  ·rw[Int.emod_eq_of_lt (by omega) (by omega)]
 have H3:=U0 h3
 clear h3
 go_enter func115,ntmps115
 go_wp2
 all_goals
  rename_i ht
  go_ret
  rw[H3.o]
  first|rw[if_pos ht]|rw[if_neg (by omega)]
  exact⟨rfl,rfl⟩
end Go.Proofs.YthfdkonhjpdflaaGreatDoor
