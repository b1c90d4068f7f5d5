import Derived.Test.YthfdkonhjpdflaaGreatDoorPkG
import Derived.Laws.Tables
import Derived.Deep.MidRow
namespace Go.Proofs.YthfdkonhjpdflaaGreatDoor
open Go.RowKit Go.Proofs.Tryz
set_option linter.unusedVariables false
set_option maxRecDepth 100000
set_option maxHeartbeats 8000000
def VT.ok (v:VT):Bool:=qB v.ballot 1 9007199254740991 && v.conf.ok
def fE:List VT→Bool
 |[]=>true
 |v::r=>v.ok && fE r
theorem BL {l:List VT} {i:Nat} {a:VT} (h:l[i]? =some a):fE (l.drop i)=(a.ok && fE (l.drop (i+1))):=by
 obtain⟨hl,ha⟩:=List.getElem?_eq_some_iff.1 h
 rw[List.drop_eq_getElem_cons hl,ha]
 rfl
def JB (l:List VT):Bool:=decide (l.length≤8) && fE l
theorem DJ (F:List Nat) (l:List VT) (v:Value) (w:World) (h:xA w F v l):
 Calls prog 65 #[v] w fun e w'=>e= .returned (.int .i64 (O9 (JB l)))∧U1 [] w w':=by
 obtain⟨A,c,gA,TA,rfl,_,hc,_⟩:=id h
 obtain⟨L,hL⟩:∃ L,l.length=L:=⟨_,rfl⟩
 have hmx:L≤9223372036854775807:=by unfold maxLen at hc;omega
 have HS0:=U0 (show JB l=(decide (l.length≤8) && fE (l.drop 0)) from rfl)
 generalize JB l=ok at*
 have HA:=U0 h
 rw[hL] at HA HS0 ⊢
 clear h
 by_cases e1:(L:Int)>8
 ·have e1d:=decide_eq_true e1
  have hn: ¬L≤8:=by omega
  have HS:=U0 (show ok=false by rw[HS0.o];simp[hn])
  clear HS0
  go_enter func65,ntmps65
  go_wp2_with fail
  go_ret
  exact⟨by rw[HS.o];rfl,U1.refl _ _⟩
 ·have e1d:=decide_eq_false e1
  have hn:L≤8:=by omega
  have HS:=U0 (show ok=fE (l.drop 0) by rw[HS0.o];simp[hn])
  clear HS0
  go_enter func65,ntmps65
  go_wp2_with fail
  go_loopw [4,10] (fun _ v10 wx=>∃ i:Nat,i≤L∧v10= .int .i64 (i:Int)∧fE (l.drop 0)=fE (l.drop i)∧U1 [] w wx) (fun _ v10 _=>L-(intOf v10).toNat)
  case atStart=>exact⟨0,by omega,rfl,rfl,U1.refl _ _⟩
  case round=>
   obtain⟨i,hi,rfl,ht,hk⟩:=hrel
   by_cases hlt:i<L
   ·have hlt':(i:Int)<(L:Int):=by omega
    obtain⟨a,ha⟩:∃ a,l[i]? =some a:=⟨_,List.getElem?_eq_getElem (by omega)⟩
    obtain⟨g,o,cv,rfl,hgl,_,hcv,x0,x1,x2,x3⟩:=(HA.o.keep hk (by simp)).at ha
    have hw1:IntKind.i64.wrap ((i:Int)+1)=(i:Int)+1:=Z8 _ (by omega) (by omega)
    have hs:=ht.trans (BL ha)
    have HR:=U0 (U2 hs (U2 hk hcv))
    clear ht hk ha hcv hs
    obtain⟨ab,an,af,al⟩:=a
    dsimp only at x0 x1 x2 x3
    obtain⟨CA,cc,cg,rfl,_⟩:=id HR.o.2.2
    dsimp only at x3
    go_upto_region 6 with fail
    have r1:=l5.new wr 69 #[.int .i64 ab,.int .i64 an,.int .i64 af,.slice CA al.length cc]
    have k1:=(U1.refl [] wr).alloc (.cells #[.int .i64 ab,.int .i64 an,.int .i64 af,.slice CA al.length cc] 69)
    obtain⟨w1,hw1e⟩:∃ w1,wr.alloc (.cells #[.int .i64 ab,.int .i64 an,.int .i64 af,.slice CA al.length cc] 69)=w1:=⟨_,rfl⟩
    rw[hw1e] at r1 k1 ⊢
    clear hw1e
    have p0:w1.cell? ⟨wr.heap.size,0,none⟩=some (.int .i64 ab):=r1.cell 0
    have p1:w1.cell? ⟨wr.heap.size,1,none⟩=some (.int .i64 an):=r1.cell 1
    have p2:w1.cell? ⟨wr.heap.size,2,none⟩=some (.int .i64 af):=r1.cell 2
    have p3:w1.cell? ⟨wr.heap.size,3,none⟩=some (.slice CA al.length cc):=r1.cell 3
    have HC:=U0 (tC F ⟨an,af,al⟩ _ w1 (HR.o.2.2.keep k1 (by simp)))
    have HK:=U0 (HR.o.2.1.then k1 (by simp))
    clear x0 x1 x2 x3 k1 r1
    rcases Bool.eq_false_or_eq_true (qB ab 1 9007199254740991) with c0|c0
    ·rcases Bool.eq_false_or_eq_true (CF.ok ⟨an,af,al⟩) with c1|c1
     ·rw[c1] at HC
      have HS2:=U0 (show fE (l.drop 0)=fE (l.drop (i+1)) by rw[HR.o.1];simp[VT.ok,c0,c1])
      go_wp2_with (first
       |(go_at_call 85;refine (I8 _ _).mono ?_;rintro e w' ⟨rfl,rfl⟩;rw[c0])
       |(go_at_call 22;refine HC.o.mono ?_;rintro e w' ⟨rfl,k3⟩;have HK3:=U0 (HK.o.then k3 (by simp));clear k3 p0 p1 p2 p3))
      go_roundw
      case rel=>exact⟨i+1,by omega,by go_num,HS2.o,HK3.o⟩
      case measure=>simp[intOf];omega
     ·rw[c1] at HC
      have HS2:=U0 (show ok=false by rw[HS.o,HR.o.1];simp[VT.ok,c0,c1])
      go_wp2_with (first
       |(go_at_call 85;refine (I8 _ _).mono ?_;rintro e w' ⟨rfl,rfl⟩;rw[c0])
       |(go_at_call 22;refine HC.o.mono ?_;rintro e w' ⟨rfl,k3⟩;have HK3:=U0 (HK.o.then k3 (by simp));clear k3 p0 p1 p2 p3))
      go_ret
      exact⟨by rw[HS2.o];rfl,HK3.o⟩
    ·have HS2:=U0 (show ok=false by rw[HS.o,HR.o.1];simp[VT.ok,c0])
     go_wp2_with (first
      |(go_at_call 85;refine (I8 _ _).mono ?_;rintro e w' ⟨rfl,rfl⟩;rw[c0]))
     go_ret
     exact⟨by rw[HS2.o];rfl,HK.o⟩
   ·obtain rfl:i=L:=by omega
    have HS2:=U0 (show ok=true by rw[HS.o,ht,←hL,List.drop_length];rfl)
    have HK:=U0 hk
    clear ht hk
    go_wp2_with fail
    go_ret
    exact⟨by rw[HS2.o];rfl,HK.o⟩
theorem DI:∀ (l:List Value) (k off:Nat) (cs:Array Value),(l.zipIdx k).foldl (fun cs (x:Value × Nat)=>cs.setIfInBounds (off+x.2) x.1) cs=KA cs (off+k) l
 |[],_,_,_=>rfl
 |v::r,k,off,cs=>by
  rw[List.zipIdx_cons,List.foldl_cons,DI r (k+1) off,KA]
  rfl
theorem XA (place:Nat→Option (Nat × Nat)) (cells:Array Value) (i:Nat) (v:Value) (rest:List (Nat × Value)) (off size:Nat) (hp:place i=some (off,size)) (hs:v.cells.size=size) (hl:off+size≤cells.size):
 Instr.fill place cells ((i,v)::rest)=Instr.fill place (KA cells off v.cells.toList) rest:=by
 rw[Instr.fill,hp]
 have h1:decide (v.cells.size≠size)=false:=by simp[hs]
 have h2:decide (off+v.cells.size>cells.size)=false:=by simp[hs];omega
 simp only[h1,h2]
 rw[if_neg (by simp)]
 congr 1
 rw[←Array.foldl_toList,Array.toList_zipIdx]
 exact DI v.cells.toList 0 off cells
theorem lD:∀ (a b:List Value) (cs:Array Value) (o k:Nat),k=o+a.length→KA (KA cs o a) k b=KA cs o (a++b)
 |[],b,cs,o,k,h=>by subst h;rfl
 |v::r,b,cs,o,k,h=>by
  rw[KA,lD r b _ (o+1) k (by rw[h,List.length_cons];omega)]
  rfl
theorem VE {v:Value} (h:v.oneCell'=true):v.cells= #[v]:=by
 cases v<;>first|rfl|(simp[Value.oneCell'] at h)
def VN:List (Nat × Nat):=[(0,1),(1,1),(2,1),(3,1),(4,1),(5,1),(6,1),(7,37),(44,38),(82,3),(85,1),(86,1)]
theorem DR:(match prog.underlying 34 with|some (.struct fields)=>fields.toList.mapM (fun f=>(prog.info? f.type).map fun i=>(f.offset,i.size))|_=>none)=some VN:=by kernel_rfl
theorem xW:((prog.info? 34).bind (·.zero)).map (·.cells.size)=some 87:=by kernel_rfl
theorem I5:(prog.info? 34).map (·.size)=some 87:=by kernel_rfl
theorem wT:∃ z:Array Value,z.size=87∧∀ parts,prog.built 34 parts=Instr.fill (VN.toArray[·]?) z parts:=by
 have h1:=DR
 have h2:=xW
 cases hu:prog.underlying 34 with
 |none=>rw[hu] at h1;cases h1
 |some d=>
  rw[hu] at h1
  cases d with
  |struct fields=>
   cases hi:prog.info? 34 with
   |none=>rw[hi] at h2;cases h2
   |some it=>
    rw[hi] at h2
    cases hz:it.zero with
    |none=>simp[hz] at h2
    |some z=>
     simp[hz] at h2
     refine⟨z.cells,h2,fun parts=> ?_⟩
     unfold Program.built
     simp only[hi,hu,hz,h1]
  |_=>cases h1
theorem jT (p:PK) (ev av cv vv bw:Value) (h1:p.req.name.length=32) (h2:p.ans.name.length=32) (hv:vv.oneCell'=true) (hb:bw.oneCell'=true):
 prog.built 34 [(0,.int .i64 p.kind),(1,.int .i64 p.frm),(2,.int .i64 p.dst),(3,.int .i64 p.num),(4,.int .i64 p.seq),(5,.int .i64 p.ballot),(6,.bool p.ready),(7,.agg (U8 p.req ev).toArray),(8,.agg (x9 p.ans av).toArray),(9,.agg (bA p.conf cv).toArray),(10,vv),(11,bw)]=some (q8 p ev av cv vv bw).toArray:=by
 obtain⟨z,hz,hf⟩:=wT
 have e1:(U8 p.req ev).length=37:=O8 h1
 have e2:(x9 p.ans av).length=38:=y9 h2
 have hsz:∀ (o:Nat) (l:List Value) (c:Array Value),c.size=87→(KA c o l).size=87:=fun o l c h=>by rw[bB,h]
 rw[hf]
 rw[XA _ _ 0 _ _ 0 1 rfl rfl (by rw[hz];omega)]
 rw[XA _ _ 1 _ _ 1 1 rfl rfl (by rw[hsz _ _ _ hz];omega)]
 rw[XA _ _ 2 _ _ 2 1 rfl rfl (by rw[hsz _ _ _ (hsz _ _ _ hz)];omega)]
 rw[XA _ _ 3 _ _ 3 1 rfl rfl (by simp only[bB,hz];omega)]
 rw[XA _ _ 4 _ _ 4 1 rfl rfl (by simp only[bB,hz];omega)]
 rw[XA _ _ 5 _ _ 5 1 rfl rfl (by simp only[bB,hz];omega)]
 rw[XA _ _ 6 _ _ 6 1 rfl rfl (by simp only[bB,hz];omega)]
 rw[XA _ _ 7 _ _ 7 37 rfl (by simp only[Value.cells,U4,e1]) (by simp only[bB,hz];omega)]
 rw[XA _ _ 8 _ _ 44 38 rfl (by simp only[Value.cells,U4,e2]) (by simp only[bB,hz];omega)]
 rw[XA _ _ 9 _ _ 82 3 rfl rfl (by simp only[bB,hz];omega)]
 rw[XA _ _ 10 _ _ 85 1 rfl (by rw[VE hv];rfl) (by simp only[bB,hz];omega)]
 rw[XA _ _ 11 _ _ 86 1 rfl (by rw[VE hb];rfl) (by simp only[bB,hz];omega)]
 rw[Instr.fill]
 rw[VE hv,VE hb]
 have q:∀ (a b c:List Value) (k:Nat),k=a.length→a++b=c→KA (KA z 0 a) k b=KA z 0 c:=fun a b c k h hc=>by rw[lD a b z 0 k (by omega),hc]
 have hl:(q8 p ev av cv vv bw).length=z.size:=by rw[G8 h1 h2,hz]
 rw[←F7 hl]
 clear hl hf hsz
 obtain⟨R,hR⟩:∃ R,U8 p.req ev=R:=⟨_,rfl⟩
 obtain⟨N,hN⟩:∃ N,x9 p.ans av=N:=⟨_,rfl⟩
 unfold q8
 rw[hR] at e1 ⊢
 rw[hN] at e2 ⊢
 refine congrArg some ?_
 show KA (KA (KA (KA (KA (KA (KA (KA (KA (KA (KA (KA z 0 [_]) 1 [_]) 2 [_]) 3 [_]) 4 [_]) 5 [_]) 6 [_]) 7 R) 44 N) 82 (bA p.conf cv)) 85 [vv]) 86 [bw]=_
 rw[q _ _ _ 1 rfl rfl,q _ _ _ 2 rfl rfl,q _ _ _ 3 rfl rfl,q _ _ _ 4 rfl rfl,q _ _ _ 5 rfl rfl,q _ _ _ 6 rfl rfl,q _ _ _ 7 rfl rfl]
 rw[lD _ _ _ 0 44 (by simp[e1]),lD _ _ _ 0 82 (by simp[e1,e2]),lD _ _ _ 0 85 (by simp[e1,e2,bA]),lD _ _ _ 0 86 (by simp[e1,e2,bA])]
 refine congrArg (KA z 0) ?_
 simp only[List.append_assoc,List.cons_append,List.nil_append]
section
variable {P:Program} {ops:Array Oper} {S:World→Prop} {o:Oper} {a:Act}
theorem TG (t:TypeId) (parts:Array (Nat × Operand)) (ho:o.op= .build t parts) (hw:Region.wanted o (yielded ops a.tmps)=true) (cells:Array Value) (h:P.built t (parts.map fun (i,x)=>(i,a.eval x)).toList=some cells):YieldsIf P ops S o (.agg cells) a:=
 Or.inl ⟨hw,fun w _=>by unfold execOp;simp only[ho,Sem.run_bind,run_build w t _ cells h,Result.andThen_ok];rfl⟩
theorem uA (ty:TypeId) (x:Operand) (ho:o.op= .load ty x) (b k:Nat) (hx:a.eval x= .pointer (some ⟨b,k,none⟩)) (cs:List Value) (d:TypeDesc) (hc:∀ w,S w→w.rangeAt b k cs)
 (hu:P.underlying ty=some d) (hd:d.isRow=true) (hi:(P.info? ty).map (·.size)=some cs.length) (hw:Region.wanted o (yielded ops a.tmps)=true):YieldsIf P ops S o (.agg cs.toArray) a:=
 Or.inl ⟨hw,fun w hS=>by unfold execOp;simp only[ho,hx,Instr.loadAt,Instr.sureAddr,Sem.run_bind,Sem.run_pure,Result.andThen_ok,run_loadVar_mid w b k ty cs d (hc w hS) hu hd hi]⟩
end
def oI (bit x:Int):Int:=if bit=0 then 0 else x
def oB (bit:Int) (x:Bool):Bool:=if bit=0 then false else x
def oV {α:Type} (bit:Int) (z x:α):α:=if bit=0 then z else x
def I4:Value:= .slice none 0 0
theorem iU (bit:Int) (x:Int) (w:World):Calls prog 127 #[.int .i64 bit,.int .i64 x] w fun e w'=>e= .returned (.int .i64 (oI bit x))∧w=w':=
 (KN bit x w).mono fun e w' ⟨h,h'⟩=>⟨by rw[h];unfold oI;split<;>rfl,h'⟩
theorem onlyB (bit:Int) (x:Bool) (w:World):Calls prog 128 #[.int .i64 bit,.bool x] w fun e w'=>e= .returned (.bool (oB bit x))∧w=w':=
 (fM bit x w).mono fun e w' ⟨h,h'⟩=>⟨by rw[h];unfold oB;split<;>rfl,h'⟩
theorem onlyVs (bit:Int) (A:Option Addr) (n c:Nat) (w:World):Calls prog 132 #[.int .i64 bit,.slice A n c] w fun e w'=>e= .returned (oV bit I4 (.slice A n c))∧w=w':=
 (BK bit A n c w).mono fun e w' ⟨h,h'⟩=>⟨by rw[h];unfold oV I4;split<;>rfl,h'⟩
theorem onlyBs (bit:Int) (A:Option Addr) (n c:Nat) (w:World):Calls prog 133 #[.int .i64 bit,.slice A n c] w fun e w'=>e= .returned (oV bit I4 (.slice A n c))∧w=w':=
 (zK bit A n c w).mono fun e w' ⟨h,h'⟩=>⟨by rw[h];unfold oV I4;split<;>rfl,h'⟩
theorem onlyR (bit:Int) (r:RQ) (ev:Value) (w:World) (hn:r.name.length=32) (he:ev.oneCell'=true):Calls prog 129 #[.int .i64 bit,.agg (U8 r ev).toArray] w fun e w'=>e= .returned (.agg (U8 (oV bit I7 r) (oV bit I4 ev)).toArray)∧U1 [] w w':=
 (MN bit r ev w hn he).mono fun e w' ⟨h,h'⟩=>⟨by rw[h];unfold oV I4;split<;>rfl,h'⟩
theorem onlyA (bit:Int) (r:AN) (ev:Value) (w:World) (hn:r.name.length=32) (he:ev.oneCell'=true):Calls prog 130 #[.int .i64 bit,.agg (x9 r ev).toArray] w fun e w'=>e= .returned (.agg (x9 (oV bit l8 r) (oV bit I4 ev)).toArray)∧U1 [] w w':=
 (JN bit r ev w hn he).mono fun e w' ⟨h,h'⟩=>⟨by rw[h];unfold oV I4;split<;>rfl,h'⟩
theorem onlyC (bit:Int) (c:CF) (A:Option Addr) (n k:Nat) (w:World):Calls prog 131 #[.int .i64 bit,.agg (bA c (.slice A n k)).toArray] w fun e w'=>e= .returned (.agg (bA (oV bit V7 c) (oV bit I4 (.slice A n k))).toArray)∧U1 [] w w':=
 (gM bit c A n k w).mono fun e w' ⟨h,h'⟩=>⟨by rw[h];unfold oV I4;split<;>rfl,h'⟩
def U6 (n m:Int):Int:=bits .and .i64 n m
def PK.cut (p:PK) (n:Int):PK:=
 ⟨p.kind,p.frm,p.dst,oI (U6 n 1) p.num,oI (U6 n 2) p.seq,oI (U6 n 4) p.ballot,oB (U6 n 8) p.ready,oV (U6 n 16) I7 p.req,oV (U6 n 32) l8 p.ans,oV (U6 n 64) V7 p.conf,oV (U6 n 128) [] p.votes,oV (U6 n 256) [] p.bytes⟩
theorem gU {w:World} {F:List Nat} {v:Value} {l:List UInt8} (b:Int) (h:G7 w F v l):G7 w F (oV b I4 v) (oV b [] l):=by
 unfold oV;split
 ·exact G7.nil w F
 ·exact h
theorem wD.cut {w:World} {F:List Nat} {p:PK} {ev av cv vv bw:Value} (h:wD w F p ev av cv vv bw) (n:Int):
 wD w F (p.cut n) (oV (U6 n 16) I4 ev) (oV (U6 n 32) I4 av) (oV (U6 n 64) I4 cv) (oV (U6 n 128) I4 vv) (oV (U6 n 256) I4 bw):=by
 have hz:I7.name.length=32:=by rw[show I7.name=List.replicate 32 0 from rfl,List.length_replicate]
 have hy:l8.name.length=32:=by rw[show l8.name=List.replicate 32 0 from rfl,List.length_replicate]
 refine⟨?_,?_,?_,?_,?_,?_,gU _ h.bs⟩
 ·show (oV (U6 n 16) I7 p.req).name.length=32
  unfold oV;split
  ·exact hz
  ·exact h.rn
 ·show (oV (U6 n 32) l8 p.ans).name.length=32
  unfold oV;split
  ·exact hy
  ·exact h.an
 ·show G7 w F _ (oV (U6 n 16) I7 p.req).env
  unfold oV;split
  ·exact G7.nil w F
  ·exact h.re
 ·show G7 w F _ (oV (U6 n 32) l8 p.ans).env
  unfold oV;split
  ·exact G7.nil w F
  ·exact h.ae
 ·show F8 w F _ (oV (U6 n 64) V7 p.conf).chain
  unfold oV;split
  ·exact F8.nil w F
  ·exact h.cc
 ·show xA w F _ (oV (U6 n 128) [] p.votes)
  unfold oV;split
  ·exact xA.nil w F
  ·exact h.vs
end Go.Proofs.YthfdkonhjpdflaaGreatDoor
