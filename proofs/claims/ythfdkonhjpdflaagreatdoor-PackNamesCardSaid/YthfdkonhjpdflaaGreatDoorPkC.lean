import Derived.Test.YthfdkonhjpdflaaGreatDoorPkG
import Derived.Laws.Tables
import Derived.Deep.MidRow
namespace Go.Proofs.YthfdkonhjpdflaaGreatDoor
open Go.RowKit Go.Proofs.Tryz
set_option linter.unusedVariables false
set_option maxRecDepth 100000
set_option maxHeartbeats 8000000
def VT.ok (v:VT):Bool:=dV v.ballot 1 9007199254740991 && v.conf.ok
def iM:List VT→Bool
 |[]=>true
 |v::r=>v.ok && iM r
theorem sI {l:List VT} {i:Nat} {a:VT} (h:l[i]? =some a):iM (l.drop i)=(a.ok && iM (l.drop (i+1))):=by
 obtain⟨hl,ha⟩:=List.getElem?_eq_some_iff.1 h
 rw[List.drop_eq_getElem_cons hl,ha]
 rfl
def eD (l:List VT):Bool:=decide (l.length≤8) && iM l
theorem pX (F:List Nat) (l:List VT) (v:Value) (w:World) (h:di w F v l):
 Calls prog 65 #[v] w fun e w'=>e= .returned (.int .i64 (bQ (eD l)))∧ag [] w w':=by
 obtain⟨A,c,gA,TA,rfl,_,hc,_⟩:=id h
 obtain⟨L,hL⟩:∃ L,l.length=L:=⟨_,rfl⟩
 have hmx:L≤9223372036854775807:=by unfold maxLen at hc;omega
 have HS0:=aa (show eD l=(decide (l.length≤8) && iM (l.drop 0)) from rfl)
 generalize eD l=ok at*
 have HA:=aa h
 rw[hL] at HA HS0 ⊢
 clear h
 by_cases e1:(L:Int)>8
 ·have e1d:=decide_eq_true e1
  have hn: ¬L≤8:=by omega
  have HS:=aa (show ok=false by rw[HS0.o];simp[hn])
  clear HS0
  go_enter func65,ntmps65
  go_wp2_with fail
  go_ret
  exact⟨by rw[HS.o];rfl,ag.refl _ _⟩
 ·have e1d:=decide_eq_false e1
  have hn:L≤8:=by omega
  have HS:=aa (show ok=iM (l.drop 0) by rw[HS0.o];simp[hn])
  clear HS0
  go_enter func65,ntmps65
  go_wp2_with fail
  go_loopw [4,10] (fun _ v10 wx=>∃ i:Nat,i≤L∧v10= .int .i64 (i:Int)∧iM (l.drop 0)=iM (l.drop i)∧ag [] w wx) (fun _ v10 _=>L-(intOf v10).toNat)
  case atStart=>exact⟨0,by omega,rfl,rfl,ag.refl _ _⟩
  case round=>
   obtain⟨i,hi,rfl,ht,hk⟩:=hrel
   by_cases hlt:i<L
   ·have hlt':(i:Int)<(L:Int):=by omega
    obtain⟨a,ha⟩:∃ a,l[i]? =some a:=⟨_,List.getElem?_eq_getElem (by omega)⟩
    obtain⟨g,o,cv,rfl,hgl,_,hcv,x0,x1,x2,x3⟩:=(HA.o.keep hk (by simp)).at ha
    have hw1:IntKind.i64.wrap ((i:Int)+1)=(i:Int)+1:=bH _ (by omega) (by omega)
    have hs:=ht.trans (sI ha)
    have HR:=aa (ah hs (ah hk hcv))
    clear ht hk ha hcv hs
    obtain⟨ab,an,af,al⟩:=a
    dsimp only at x0 x1 x2 x3
    obtain⟨CA,cc,cg,rfl,_⟩:=id HR.o.2.2
    dsimp only at x3
    go_upto_region 6 with fail
    have r1:=aC.new wr 69 #[.int .i64 ab,.int .i64 an,.int .i64 af,.slice CA al.length cc]
    have k1:=(ag.refl [] wr).alloc (.cells #[.int .i64 ab,.int .i64 an,.int .i64 af,.slice CA al.length cc] 69)
    obtain⟨w1,hw1e⟩:∃ w1,wr.alloc (.cells #[.int .i64 ab,.int .i64 an,.int .i64 af,.slice CA al.length cc] 69)=w1:=⟨_,rfl⟩
    rw[hw1e] at r1 k1 ⊢
    clear hw1e
    have p0:w1.cell? ⟨wr.heap.size,0,none⟩=some (.int .i64 ab):=r1.cell 0
    have p1:w1.cell? ⟨wr.heap.size,1,none⟩=some (.int .i64 an):=r1.cell 1
    have p2:w1.cell? ⟨wr.heap.size,2,none⟩=some (.int .i64 af):=r1.cell 2
    have p3:w1.cell? ⟨wr.heap.size,3,none⟩=some (.slice CA al.length cc):=r1.cell 3
    have HC:=aa (fC F ⟨an,af,al⟩ _ w1 (HR.o.2.2.keep k1 (by simp)))
    have HK:=aa (HR.o.2.1.then k1 (by simp))
    clear x0 x1 x2 x3 k1 r1
    rcases Bool.eq_false_or_eq_true (dV ab 1 9007199254740991) with c0|c0
    ·rcases Bool.eq_false_or_eq_true (CF.ok ⟨an,af,al⟩) with c1|c1
     ·rw[c1] at HC
      have HS2:=aa (show iM (l.drop 0)=iM (l.drop (i+1)) by rw[HR.o.1];simp[VT.ok,c0,c1])
      go_wp2_with (first
       |(go_at_call 85;refine (bu _ _).mono ?_;rintro e w' ⟨rfl,rfl⟩;rw[c0])
       |(go_at_call 22;refine HC.o.mono ?_;rintro e w' ⟨rfl,k3⟩;have HK3:=aa (HK.o.then k3 (by simp));clear k3 p0 p1 p2 p3))
      go_roundw
      case rel=>exact⟨i+1,by omega,by go_num,HS2.o,HK3.o⟩
      case measure=>simp[intOf];omega
     ·rw[c1] at HC
      have HS2:=aa (show ok=false by rw[HS.o,HR.o.1];simp[VT.ok,c0,c1])
      go_wp2_with (first
       |(go_at_call 85;refine (bu _ _).mono ?_;rintro e w' ⟨rfl,rfl⟩;rw[c0])
       |(go_at_call 22;refine HC.o.mono ?_;rintro e w' ⟨rfl,k3⟩;have HK3:=aa (HK.o.then k3 (by simp));clear k3 p0 p1 p2 p3))
      go_ret
      exact⟨by rw[HS2.o];rfl,HK3.o⟩
    ·have HS2:=aa (show ok=false by rw[HS.o,HR.o.1];simp[VT.ok,c0])
     go_wp2_with (first
      |(go_at_call 85;refine (bu _ _).mono ?_;rintro e w' ⟨rfl,rfl⟩;rw[c0]))
     go_ret
     exact⟨by rw[HS2.o];rfl,HK.o⟩
   ·obtain rfl:i=L:=by omega
    have HS2:=aa (show ok=true by rw[HS.o,ht,←hL,List.drop_length];rfl)
    have HK:=aa hk
    clear ht hk
    go_wp2_with fail
    go_ret
    exact⟨by rw[HS2.o];rfl,HK.o⟩
theorem nV:∀ (l:List Value) (k off:Nat) (cs:Array Value),(l.zipIdx k).foldl (fun cs (x:Value × Nat)=>cs.setIfInBounds (off+x.2) x.1) cs=dD cs (off+k) l
 |[],_,_,_=>rfl
 |v::r,k,off,cs=>by
  rw[List.zipIdx_cons,List.foldl_cons,nV r (k+1) off,dD]
  rfl
theorem dK (place:Nat→Option (Nat × Nat)) (cells:Array Value) (i:Nat) (v:Value) (rest:List (Nat × Value)) (off size:Nat) (hp:place i=some (off,size)) (hs:v.cells.size=size) (hl:off+size≤cells.size):
 Instr.fill place cells ((i,v)::rest)=Instr.fill place (dD cells off v.cells.toList) rest:=by
 rw[Instr.fill,hp]
 have h1:decide (v.cells.size≠size)=false:=by simp[hs]
 have h2:decide (off+v.cells.size>cells.size)=false:=by simp[hs];omega
 simp only[h1,h2]
 rw[if_neg (by simp)]
 congr 1
 rw[←Array.foldl_toList,Array.toList_zipIdx]
 exact nV v.cells.toList 0 off cells
theorem gK:∀ (a b:List Value) (cs:Array Value) (o k:Nat),k=o+a.length→dD (dD cs o a) k b=dD cs o (a++b)
 |[],b,cs,o,k,h=>by subst h;rfl
 |v::r,b,cs,o,k,h=>by
  rw[dD,gK r b _ (o+1) k (by rw[h,List.length_cons];omega)]
  rfl
theorem jr {v:Value} (h:v.oneCell'=true):v.cells= #[v]:=by
 cases v<;>first|rfl|(simp[Value.oneCell'] at h)
def vP:List (Nat × Nat):=[(0,1),(1,1),(2,1),(3,1),(4,1),(5,1),(6,1),(7,37),(44,38),(82,3),(85,1),(86,1)]
theorem zG:(match prog.underlying 34 with|some (.struct fields)=>fields.toList.mapM (fun f=>(prog.info? f.type).map fun i=>(f.offset,i.size))|_=>none)=some vP:=by kernel_rfl
theorem Dv:((prog.info? 34).bind (·.zero)).map (·.cells.size)=some 87:=by kernel_rfl
theorem aF:(prog.info? 34).map (·.size)=some 87:=by kernel_rfl
theorem AA:∃ z:Array Value,z.size=87∧∀ parts,prog.built 34 parts=Instr.fill (vP.toArray[·]?) z parts:=by
 have h1:=zG
 have h2:=Dv
 cases hu:prog.underlying 34 with
 |none=>rw[hu] at h1;cases h1
 |some d=>
  rw[hu] at h1
  cases d with
  |struct fields=>
   cases hi:prog.info? 34 with
   |none=>rw[hi] at h2;cases h2
   |some it=>
    rw[hi] at h2
    cases hz:it.zero with
    |none=>simp[hz] at h2
    |some z=>
     simp[hz] at h2
     refine⟨z.cells,h2,fun parts=> ?_⟩
     unfold Program.built
     simp only[hi,hu,hz,h1]
  |_=>cases h1
theorem Au (p:PK) (ev av cv vv bw:Value) (h1:p.req.name.length=32) (h2:p.ans.name.length=32) (hv:vv.oneCell'=true) (hb:bw.oneCell'=true):
 prog.built 34 [(0,.int .i64 p.kind),(1,.int .i64 p.frm),(2,.int .i64 p.dst),(3,.int .i64 p.num),(4,.int .i64 p.seq),(5,.int .i64 p.ballot),(6,.bool p.ready),(7,.agg (bE p.req ev).toArray),(8,.agg (bK p.ans av).toArray),(9,.agg (bZ p.conf cv).toArray),(10,vv),(11,bw)]=some (bz p ev av cv vv bw).toArray:=by
 obtain⟨z,hz,hf⟩:=AA
 have e1:(bE p.req ev).length=37:=bB h1
 have e2:(bK p.ans av).length=38:=bL h2
 have hsz:∀ (o:Nat) (l:List Value) (c:Array Value),c.size=87→(dD c o l).size=87:=fun o l c h=>by rw[dN,h]
 rw[hf]
 rw[dK _ _ 0 _ _ 0 1 rfl rfl (by rw[hz];omega)]
 rw[dK _ _ 1 _ _ 1 1 rfl rfl (by rw[hsz _ _ _ hz];omega)]
 rw[dK _ _ 2 _ _ 2 1 rfl rfl (by rw[hsz _ _ _ (hsz _ _ _ hz)];omega)]
 rw[dK _ _ 3 _ _ 3 1 rfl rfl (by simp only[dN,hz];omega)]
 rw[dK _ _ 4 _ _ 4 1 rfl rfl (by simp only[dN,hz];omega)]
 rw[dK _ _ 5 _ _ 5 1 rfl rfl (by simp only[dN,hz];omega)]
 rw[dK _ _ 6 _ _ 6 1 rfl rfl (by simp only[dN,hz];omega)]
 rw[dK _ _ 7 _ _ 7 37 rfl (by simp only[Value.cells,az,e1]) (by simp only[dN,hz];omega)]
 rw[dK _ _ 8 _ _ 44 38 rfl (by simp only[Value.cells,az,e2]) (by simp only[dN,hz];omega)]
 rw[dK _ _ 9 _ _ 82 3 rfl rfl (by simp only[dN,hz];omega)]
 rw[dK _ _ 10 _ _ 85 1 rfl (by rw[jr hv];rfl) (by simp only[dN,hz];omega)]
 rw[dK _ _ 11 _ _ 86 1 rfl (by rw[jr hb];rfl) (by simp only[dN,hz];omega)]
 rw[Instr.fill]
 rw[jr hv,jr hb]
 have q:∀ (a b c:List Value) (k:Nat),k=a.length→a++b=c→dD (dD z 0 a) k b=dD z 0 c:=fun a b c k h hc=>by rw[gK a b z 0 k (by omega),hc]
 have hl:(bz p ev av cv vv bw).length=z.size:=by rw[bA h1 h2,hz]
 rw[←aR hl]
 clear hl hf hsz
 obtain⟨R,hR⟩:∃ R,bE p.req ev=R:=⟨_,rfl⟩
 obtain⟨N,hN⟩:∃ N,bK p.ans av=N:=⟨_,rfl⟩
 unfold bz
 rw[hR] at e1 ⊢
 rw[hN] at e2 ⊢
 refine congrArg some ?_
 show dD (dD (dD (dD (dD (dD (dD (dD (dD (dD (dD (dD z 0 [_]) 1 [_]) 2 [_]) 3 [_]) 4 [_]) 5 [_]) 6 [_]) 7 R) 44 N) 82 (bZ p.conf cv)) 85 [vv]) 86 [bw]=_
 rw[q _ _ _ 1 rfl rfl,q _ _ _ 2 rfl rfl,q _ _ _ 3 rfl rfl,q _ _ _ 4 rfl rfl,q _ _ _ 5 rfl rfl,q _ _ _ 6 rfl rfl,q _ _ _ 7 rfl rfl]
 rw[gK _ _ _ 0 44 (by simp[e1]),gK _ _ _ 0 82 (by simp[e1,e2]),gK _ _ _ 0 85 (by simp[e1,e2,bZ]),gK _ _ _ 0 86 (by simp[e1,e2,bZ])]
 refine congrArg (dD z 0) ?_
 simp only[List.append_assoc,List.cons_append,List.nil_append]
section
variable {P:Program} {ops:Array Oper} {S:World→Prop} {o:Oper} {a:Act}
theorem lQ (t:TypeId) (parts:Array (Nat × Operand)) (ho:o.op= .build t parts) (hw:Region.wanted o (yielded ops a.tmps)=true) (cells:Array Value) (h:P.built t (parts.map fun (i,x)=>(i,a.eval x)).toList=some cells):YieldsIf P ops S o (.agg cells) a:=
 Or.inl ⟨hw,fun w _=>by unfold execOp;simp only[ho,Sem.run_bind,run_build w t _ cells h,Result.andThen_ok];rfl⟩
theorem dh (ty:TypeId) (x:Operand) (ho:o.op= .load ty x) (b k:Nat) (hx:a.eval x= .pointer (some ⟨b,k,none⟩)) (cs:List Value) (d:TypeDesc) (hc:∀ w,S w→w.rangeAt b k cs)
 (hu:P.underlying ty=some d) (hd:d.isRow=true) (hi:(P.info? ty).map (·.size)=some cs.length) (hw:Region.wanted o (yielded ops a.tmps)=true):YieldsIf P ops S o (.agg cs.toArray) a:=
 Or.inl ⟨hw,fun w hS=>by unfold execOp;simp only[ho,hx,Instr.loadAt,Instr.sureAddr,Sem.run_bind,Sem.run_pure,Result.andThen_ok,run_loadVar_mid w b k ty cs d (hc w hS) hu hd hi]⟩
end
def oI (bit x:Int):Int:=if bit=0 then 0 else x
def oB (bit:Int) (x:Bool):Bool:=if bit=0 then false else x
def oV {α:Type} (bit:Int) (z x:α):α:=if bit=0 then z else x
def ay:Value:= .slice none 0 0
theorem Bh (bit:Int) (x:Int) (w:World):Calls prog 127 #[.int .i64 bit,.int .i64 x] w fun e w'=>e= .returned (.int .i64 (oI bit x))∧w=w':=
 (vH bit x w).mono fun e w' ⟨h,h'⟩=>⟨by rw[h];unfold oI;split<;>rfl,h'⟩
theorem onlyB (bit:Int) (x:Bool) (w:World):Calls prog 128 #[.int .i64 bit,.bool x] w fun e w'=>e= .returned (.bool (oB bit x))∧w=w':=
 (tK bit x w).mono fun e w' ⟨h,h'⟩=>⟨by rw[h];unfold oB;split<;>rfl,h'⟩
theorem onlyVs (bit:Int) (A:Option Addr) (n c:Nat) (w:World):Calls prog 132 #[.int .i64 bit,.slice A n c] w fun e w'=>e= .returned (oV bit ay (.slice A n c))∧w=w':=
 (qY bit A n c w).mono fun e w' ⟨h,h'⟩=>⟨by rw[h];unfold oV ay;split<;>rfl,h'⟩
theorem onlyBs (bit:Int) (A:Option Addr) (n c:Nat) (w:World):Calls prog 133 #[.int .i64 bit,.slice A n c] w fun e w'=>e= .returned (oV bit ay (.slice A n c))∧w=w':=
 (qX bit A n c w).mono fun e w' ⟨h,h'⟩=>⟨by rw[h];unfold oV ay;split<;>rfl,h'⟩
theorem onlyR (bit:Int) (r:RQ) (ev:Value) (w:World) (hn:r.name.length=32) (he:ev.oneCell'=true):Calls prog 129 #[.int .i64 bit,.agg (bE r ev).toArray] w fun e w'=>e= .returned (.agg (bE (oV bit aV r) (oV bit ay ev)).toArray)∧ag [] w w':=
 (vI bit r ev w hn he).mono fun e w' ⟨h,h'⟩=>⟨by rw[h];unfold oV ay;split<;>rfl,h'⟩
theorem onlyA (bit:Int) (r:AN) (ev:Value) (w:World) (hn:r.name.length=32) (he:ev.oneCell'=true):Calls prog 130 #[.int .i64 bit,.agg (bK r ev).toArray] w fun e w'=>e= .returned (.agg (bK (oV bit aY r) (oV bit ay ev)).toArray)∧ag [] w w':=
 (vG bit r ev w hn he).mono fun e w' ⟨h,h'⟩=>⟨by rw[h];unfold oV ay;split<;>rfl,h'⟩
theorem onlyC (bit:Int) (c:CF) (A:Option Addr) (n k:Nat) (w:World):Calls prog 131 #[.int .i64 bit,.agg (bZ c (.slice A n k)).toArray] w fun e w'=>e= .returned (.agg (bZ (oV bit aW c) (oV bit ay (.slice A n k))).toArray)∧ag [] w w':=
 (tL bit c A n k w).mono fun e w' ⟨h,h'⟩=>⟨by rw[h];unfold oV ay;split<;>rfl,h'⟩
def aN (n m:Int):Int:=bits .and .i64 n m
def PK.cut (p:PK) (n:Int):PK:=
 ⟨p.kind,p.frm,p.dst,oI (aN n 1) p.num,oI (aN n 2) p.seq,oI (aN n 4) p.ballot,oB (aN n 8) p.ready,oV (aN n 16) aV p.req,oV (aN n 32) aY p.ans,oV (aN n 64) aW p.conf,oV (aN n 128) [] p.votes,oV (aN n 256) [] p.bytes⟩
theorem Bg {w:World} {F:List Nat} {v:Value} {l:List UInt8} (b:Int) (h:aS w F v l):aS w F (oV b ay v) (oV b [] l):=by
 unfold oV;split
 ·exact aS.nil w F
 ·exact h
theorem gX.cut {w:World} {F:List Nat} {p:PK} {ev av cv vv bw:Value} (h:gX w F p ev av cv vv bw) (n:Int):
 gX w F (p.cut n) (oV (aN n 16) ay ev) (oV (aN n 32) ay av) (oV (aN n 64) ay cv) (oV (aN n 128) ay vv) (oV (aN n 256) ay bw):=by
 have hz:aV.name.length=32:=by rw[show aV.name=List.replicate 32 0 from rfl,List.length_replicate]
 have hy:aY.name.length=32:=by rw[show aY.name=List.replicate 32 0 from rfl,List.length_replicate]
 refine⟨?_,?_,?_,?_,?_,?_,Bg _ h.bs⟩
 ·show (oV (aN n 16) aV p.req).name.length=32
  unfold oV;split
  ·exact hz
  ·exact h.rn
 ·show (oV (aN n 32) aY p.ans).name.length=32
  unfold oV;split
  ·exact hy
  ·exact h.an
 ·show aS w F _ (oV (aN n 16) aV p.req).env
  unfold oV;split
  ·exact aS.nil w F
  ·exact h.re
 ·show aS w F _ (oV (aN n 32) aY p.ans).env
  unfold oV;split
  ·exact aS.nil w F
  ·exact h.ae
 ·show bq w F _ (oV (aN n 64) aW p.conf).chain
  unfold oV;split
  ·exact bq.nil w F
  ·exact h.cc
 ·show di w F _ (oV (aN n 128) [] p.votes)
  unfold oV;split
  ·exact di.nil w F
  ·exact h.vs
end Go.Proofs.YthfdkonhjpdflaaGreatDoor
