import Derived.Test.YthfdkonhjpdflaaGreatDoorLow3
import Derived.Test.YthfdkonhjpdflaaGreatDoorLow1
import Derived.Laws.Cover1
import Derived.Deep.RegionHeld3
import Derived.Deep.CutBlock
import Derived.Deep.DeepCutAuto
import Derived.BigRegion
import Derived.Outline
import Derived.Lib.Hide
import Derived.Handy
namespace Go.Proofs.YthfdkonhjpdflaaGreatDoor
open Go.RowKit Go.Proofs.Tryz
set_option linter.unusedVariables false
set_option maxRecDepth 100000
set_option maxHeartbeats 1000000
def dV (n lo hi:Int):Bool:=decide (lo≤n) && decide (n≤hi)
theorem eO {n lo hi:Int} (h:lo≤n∧n≤hi):dV n lo hi=true:=by unfold dV;simp[h.1,h.2]
theorem dQ {n lo hi:Int} (h: ¬(lo≤n∧n≤hi)):dV n lo hi=false:=by
 cases e:dV n lo hi with
 |false=>rfl
 |true=>exact absurd (by simpa[dV] using e) h
theorem fI {n lo hi:Int}:dV n lo hi=true↔lo≤n∧n≤hi:=by simp[dV]
def mxI:Int:=9007199254740991
def eP (n:Int):Bool:=dV n 0 2||(dV n 10 13||dV n 20 22)
def og (kind seq:Int):Bool:=dV seq (if kind=5 then -1 else 0) 9007199254740990
def bQ (b:Bool):Int:=if b then 0 else 2
def pz:Nat→Int
 |0=>0|1=>16|2=>32|3=>19|4=>3|5=>3|6=>259|7=>64|8=>9|9=>1024|10=>6|11=>134|12=>70|13=>6|_=>4
def aL (k:Int):Int:=if 0≤k∧k≤14 then pz k.toNat else 0
def d9 (w:World):Prop:=∀ k:Nat,k<15→w.cell? ⟨0,k,none⟩=some (.int .i64 (pz k))
theorem d9.keep {S:List Nat} {w w':World} (h:d9 w) (hk:ag S w w') (hS:0∉S):d9 w':=fun k hk'=>by
 have h1:=h k hk'
 exact (hk.cell (p:=⟨0,k,none⟩) (World.block_lt_of_cell? w _ h1) hS).trans h1
theorem kP (n:Int) (w:World):Calls prog 126 #[.int .i64 n] w fun e w'=>e= .returned (.bool (dV n 0 2))∧w=w':=by
 go_enter func126,ntmps126
 by_cases a:0≤n
 ·by_cases b:n<3
  ·go_wp2
   go_ret
   exact⟨by rw[eO (by omega)];rfl,rfl⟩
  ·go_wp2
   go_ret
   exact⟨by rw[dQ (by omega)];rfl,rfl⟩
 ·go_wp2
  go_ret
  exact⟨by rw[dQ (by omega)];rfl,rfl⟩
theorem iY (n:Int) (w:World):Calls prog 86 #[.int .i64 n] w fun e w'=>e= .returned (.bool (dV n 10 13))∧w=w':=by
 go_enter func86,ntmps86
 by_cases a:10≤n
 ·by_cases b:n<14
  ·go_wp2
   go_ret
   exact⟨by rw[eO (by omega)];rfl,rfl⟩
  ·go_wp2
   go_ret
   exact⟨by rw[dQ (by omega)];rfl,rfl⟩
 ·go_wp2
  go_ret
  exact⟨by rw[dQ (by omega)];rfl,rfl⟩
theorem bJ (n:Int) (w:World):Calls prog 84 #[.int .i64 n] w fun e w'=>e= .returned (.bool (dV n 0 2))∧w=w':=by
 go_enter func84,ntmps84
 by_cases a:0≤n
 ·by_cases b:n<3
  ·go_wp2
   go_ret
   exact⟨by rw[eO (by omega)];rfl,rfl⟩
  ·go_wp2
   go_ret
   exact⟨by rw[dQ (by omega)];rfl,rfl⟩
 ·go_wp2
  go_ret
  exact⟨by rw[dQ (by omega)];rfl,rfl⟩
theorem aX (n:Int) (w:World):Calls prog 63 #[.int .i64 n] w fun e w'=>e= .returned (.bool (dV n 0 9007199254740991))∧w=w':=by
 go_enter func63,ntmps63
 by_cases a:0≤n
 ·by_cases b:n≤9007199254740991
  ·go_wp2
   go_ret
   exact⟨by rw[eO (by omega)];rfl,rfl⟩
  ·go_wp2
   go_ret
   exact⟨by rw[dQ (by omega)];rfl,rfl⟩
 ·go_wp2
  go_ret
  exact⟨by rw[dQ (by omega)];rfl,rfl⟩
theorem bu (n:Int) (w:World):Calls prog 85 #[.int .i64 n] w fun e w'=>e= .returned (.bool (dV n 1 9007199254740991))∧w=w':=by
 go_enter func85,ntmps85
 by_cases a:1≤n
 ·by_cases b:n≤9007199254740991
  ·go_wp2
   go_ret
   exact⟨by rw[eO (by omega)];rfl,rfl⟩
  ·go_wp2
   go_ret
   exact⟨by rw[dQ (by omega)];rfl,rfl⟩
 ·go_wp2
  go_ret
  exact⟨by rw[dQ (by omega)];rfl,rfl⟩
theorem qi (n:Int) (hn: -9223372036854775808≤n) (hn':n≤9223372036854775807) (w:World):Calls prog 61 #[.int .i64 n] w fun e w'=>e= .returned (.bool (eP n))∧w=w':=by
 by_cases a:0≤n∧n≤2
 ·have h:eP n=true:=by unfold eP;rw[eO a];rfl
  have H:=aa h
  have ha:=eO a
  clear h
  go_enter func61,ntmps61
  go_wp2_with fail
  refine (kP n _).mono ?_;rintro e w' ⟨rfl,rfl⟩
  rw[ha]
  go_wp2_with fail
  go_ret
  exact⟨by rw[H.o];rfl,rfl⟩
 ·have ha:=dQ a
  by_cases b:10≤n∧n≤13
  ·have hb:=eO b
   have h:eP n=true:=by unfold eP;rw[ha,hb];rfl
   have H:=aa h
   clear h
   go_enter func61,ntmps61
   go_wp2_with fail
   refine (kP n _).mono ?_;rintro e w' ⟨rfl,rfl⟩
   rw[ha]
   go_wp2_with fail
   refine (iY n _).mono ?_;rintro e w' ⟨rfl,rfl⟩
   rw[hb]
   go_wp2_with fail
   go_ret
   exact⟨by rw[H.o];rfl,rfl⟩
  ·have hb:=dQ b
   have h:eP n=dV (wrap64 (n-20)) 0 2:=by
    unfold eP
    rw[ha,hb]
    by_cases c:20≤n∧n≤22
    ·rw[eO c,eO (by unfold wrap64;omega)];rfl
    ·rw[dQ c,dQ (by unfold wrap64;omega)];rfl
   have H:=aa h
   clear h
   go_enter func61,ntmps61
   go_wp2_with fail
   refine (kP n _).mono ?_;rintro e w' ⟨rfl,rfl⟩
   rw[ha]
   go_wp2_with fail
   refine (iY n _).mono ?_;rintro e w' ⟨rfl,rfl⟩
   rw[hb]
   go_wp2_with fail
   refine (bJ _ _).mono ?_;rintro e w' ⟨rfl,rfl⟩
   go_wp2_with fail
   go_ret
   exact⟨by rw[H.o];rfl,rfl⟩
theorem bC (b:Bool) (w:World):Calls prog 66 #[.bool b] w fun e w'=>e= .returned (.int .i64 (bQ b))∧w=w':=by
 cases b
 all_goals
  go_enter func66,ntmps66
  go_wp2
  go_ret
  exact⟨rfl,rfl⟩
theorem cB (k n:Int) (w:World):Calls prog 64 #[.int .i64 k,.int .i64 n] w fun e w'=>e= .returned (.bool (og k n))∧w=w':=by
 by_cases c:k=5
 ·subst c
  have h:og 5 n=dV n (-1) 9007199254740990:=rfl
  by_cases a: -1≤n
  ·by_cases b:n<9007199254740991
   ·have H:=aa (h.trans (eO ⟨a,by omega⟩))
    clear h
    go_enter func64,ntmps64
    go_wp2
    go_ret
    exact⟨by rw[H.o];rfl,rfl⟩
   ·have H:=aa (h.trans (dQ (by omega)))
    clear h
    go_enter func64,ntmps64
    go_wp2
    go_ret
    exact⟨by rw[H.o];rfl,rfl⟩
  ·have H:=aa (h.trans (dQ (by omega)))
   clear h
   go_enter func64,ntmps64
   go_wp2
   go_ret
   exact⟨by rw[H.o];rfl,rfl⟩
 ·have h:og k n=dV n 0 9007199254740990:=by unfold og;rw[if_neg c]
  by_cases a:0≤n
  ·by_cases b:n<9007199254740991
   ·have H:=aa (h.trans (eO ⟨a,by omega⟩))
    clear h
    go_enter func64,ntmps64
    go_wp2
    go_ret
    exact⟨by rw[H.o];rfl,rfl⟩
   ·have H:=aa (h.trans (dQ (by omega)))
    clear h
    go_enter func64,ntmps64
    go_wp2
    go_ret
    exact⟨by rw[H.o];rfl,rfl⟩
  ·have H:=aa (h.trans (dQ (by omega)))
   clear h
   go_enter func64,ntmps64
   go_wp2
   go_ret
   exact⟨by rw[H.o];rfl,rfl⟩
theorem kM (k:Int) (w:World) (h:d9 w):Calls prog 40 #[.int .i64 k] w fun e w'=>e= .returned (.int .i64 (aL k))∧w=w':=by
 by_cases a:0≤k
 ·by_cases b:k≤14
  ·obtain⟨n,rfl⟩:∃ n:Nat,k=(n:Int):=⟨k.toNat,by omega⟩
   have hc:=h n (by omega)
   have hn15:(n:Int)<15:=by omega
   have H:=aa (show aL (n:Int)=pz n by unfold aL;rw[if_pos ⟨a,b⟩];rfl)
   clear h
   go_enter func40,ntmps40
   go_wp2
   go_ret
   exact⟨by rw[H.o];rfl,rfl⟩
  ·have H:=aa (show aL k=0 by unfold aL;rw[if_neg (by omega)])
   clear h
   go_enter func40,ntmps40
   go_wp2
   go_ret
   exact⟨by rw[H.o];rfl,rfl⟩
 ·have H:=aa (show aL k=0 by unfold aL;rw[if_neg (by omega)])
  clear h
  go_enter func40,ntmps40
  go_wp2
  go_ret
  exact⟨by rw[H.o];rfl,rfl⟩
structure RQ where
 client:Int
 num:Int
 kind:Int
 version:Int
 name:List UInt8
 env:List UInt8
structure AN where
 client:Int
 num:Int
 code:Int
 version:Int
 epoch:Int
 name:List UInt8
 env:List UInt8
structure CF where
 num:Int
 full:Int
 chain:List Int
structure VT where
 ballot:Int
 conf:CF
structure PK where
 kind:Int
 frm:Int
 dst:Int
 num:Int
 seq:Int
 ballot:Int
 ready:Bool
 req:RQ
 ans:AN
 conf:CF
 votes:List VT
 bytes:List UInt8
def aS (w:World) (F:List Nat) (v:Value) (l:List UInt8):Prop:=
 ∃ (A:Option Addr) (c g:Nat),v= .slice A l.length c∧l.length≤c∧c≤maxLen∧dI w A g l∧(l≠[]→g∈F)
theorem aS.keep {S F:List Nat} {w w':World} {v:Value} {l:List UInt8} (h:aS w F v l) (hk:ag S w w') (hS:∀ y∈F,y∉S):aS w' F v l:=by
 obtain⟨A,c,g,h1,h2,h3,h5,h6⟩:=h
 exact⟨A,c,g,h1,h2,h3,h5.keep hk (fun hl=>hS g (h6 hl)),h6⟩
theorem aS.more {F G:List Nat} {w:World} {v:Value} {l:List UInt8} (h:aS w F v l) (hF:∀ y∈F,y∈G):aS w G v l:=by
 obtain⟨A,c,g,h1,h2,h3,h5,h6⟩:=h
 exact⟨A,c,g,h1,h2,h3,h5,fun hl=>hF g (h6 hl)⟩
theorem aS.nil (w:World) (F:List Nat):aS w F (.slice none 0 0) []:=⟨none,0,0,rfl,by simp,by simp[maxLen],dI.nil _ _ _,fun h=>absurd rfl h⟩
def bq (w:World) (F:List Nat) (v:Value) (l:List Int):Prop:=
 ∃ (A:Option Addr) (c g:Nat),v= .slice A l.length c∧l.length≤c∧c≤maxLen∧eG w A g l.length 1 (l.map (Value.int .i64))∧(l≠[]→g∈F)
theorem eG.keepS {S:List Nat} {w w':World} {A:Option Addr} {g n sz:Nat} {xs:List Value} (h:eG w A g n sz xs) (hk:ag S w w') (hS:0<n→g∉S):eG w' A g n sz xs:=by
 refine⟨h.1,fun hn=> ?_⟩
 obtain⟨o,e1,e2,e3⟩:=h.2 hn
 exact⟨o,e1,Nat.lt_of_lt_of_le e2 hk.size,fun j u hu=>(hk.cell (p:=⟨g,o+j,none⟩) e2 (hS hn)).trans (e3 j u hu)⟩
theorem bq.keep {S F:List Nat} {w w':World} {v:Value} {l:List Int} (h:bq w F v l) (hk:ag S w w') (hS:∀ y∈F,y∉S):bq w' F v l:=by
 obtain⟨A,c,g,h1,h2,h3,h5,h6⟩:=h
 exact⟨A,c,g,h1,h2,h3,h5.keepS hk (fun hl=>hS g (h6 (List.length_pos_iff.1 hl))),h6⟩
theorem bq.more {F G:List Nat} {w:World} {v:Value} {l:List Int} (h:bq w F v l) (hF:∀ y∈F,y∈G):bq w G v l:=by
 obtain⟨A,c,g,h1,h2,h3,h5,h6⟩:=h
 exact⟨A,c,g,h1,h2,h3,h5,fun hl=>hF g (h6 hl)⟩
theorem bq.nil (w:World) (F:List Nat):bq w F (.slice none 0 0) []:=⟨none,0,0,rfl,by simp,by simp[maxLen],⟨rfl,fun h=>absurd h (by simp)⟩,fun h=>absurd rfl h⟩
def bE (r:RQ) (ev:Value):List Value:= .int .i64 r.client:: .int .i64 r.num:: .int .i64 r.kind:: .int .i64 r.version::(aT r.name++[ev])
def bK (a:AN) (ev:Value):List Value:= .int .i64 a.client:: .int .i64 a.num:: .int .i64 a.code:: .int .i64 a.version:: .int .i64 a.epoch::(aT a.name++[ev])
def bZ (c:CF) (cv:Value):List Value:=[.int .i64 c.num,.int .i64 c.full,cv]
def gN (v:VT) (cv:Value):List Value:= .int .i64 v.ballot::bZ v.conf cv
def bX:List (VT × Value)→List Value
 |[]=>[]
 |t::r=>gN t.1 t.2++bX r
theorem mD:∀ T:List (VT × Value),(bX T).length=T.length*4
 |[]=>rfl
 |t::r=>by simp[bX,gN,bZ,mD r];omega
def bz (p:PK) (ev av cv vv bw:Value):List Value:=
 .int .i64 p.kind:: .int .i64 p.frm:: .int .i64 p.dst:: .int .i64 p.num:: .int .i64 p.seq:: .int .i64 p.ballot:: .bool p.ready::(bE p.req ev++(bK p.ans av++(bZ p.conf cv++[vv,bw])))
theorem bB {r:RQ} {ev:Value} (h:r.name.length=32):(bE r ev).length=37:=by simp[bE,bi,h]
theorem bL {a:AN} {ev:Value} (h:a.name.length=32):(bK a ev).length=38:=by simp[bK,bi,h]
theorem bA {p:PK} {ev av cv vv bw:Value} (h:p.req.name.length=32) (h':p.ans.name.length=32):(bz p ev av cv vv bw).length=87:=by
 have e1:(bE p.req ev).length=37:=bB h
 have e2:(bK p.ans av).length=38:=bL h'
 unfold bz
 simp only[List.length_cons,List.length_append,e1,e2]
 rfl
theorem mF {l m r:List Value} {k:Nat} (hk:l.length=k):∀ j v,m[j]? =some v→(l++(m++r))[k+j]? =some v:=fun j v hv=>by
 subst hk
 rw[List.getElem?_append_right (by omega),show l.length+j-l.length=j by omega,List.getElem?_append_left (List.getElem?_eq_some_iff.1 hv).1]
 exact hv
theorem je (r:RQ) (ev:Value):∀ j v,(aT r.name)[j]? =some v→(bE r ev).toArray[4+j]? =some v:=fun j v hv=>by
 have:=mF (l:=[.int .i64 r.client,.int .i64 r.num,.int .i64 r.kind,.int .i64 r.version]) (r:=[ev]) rfl j v hv
 simpa[bE] using this
theorem gq {r:RQ} {ev:Value} (h:r.name.length=32):(bE r ev).toArray[36]? =some ev:=by
 have:=mF (l:= .int .i64 r.client:: .int .i64 r.num:: .int .i64 r.kind:: .int .i64 r.version::aT r.name) (m:=[ev]) (r:=[]) (k:=36) (by simp[bi,h]) 0 ev rfl
 simpa[bE] using this
theorem kg (a:AN) (ev:Value):∀ j v,(aT a.name)[j]? =some v→(bK a ev).toArray[5+j]? =some v:=fun j v hv=>by
 have:=mF (l:=[.int .i64 a.client,.int .i64 a.num,.int .i64 a.code,.int .i64 a.version,.int .i64 a.epoch]) (r:=[ev]) rfl j v hv
 simpa[bK] using this
theorem gp {a:AN} {ev:Value} (h:a.name.length=32):(bK a ev).toArray[37]? =some ev:=by
 have:=mF (l:= .int .i64 a.client:: .int .i64 a.num:: .int .i64 a.code:: .int .i64 a.version:: .int .i64 a.epoch::aT a.name) (m:=[ev]) (r:=[]) (k:=37) (by simp[bi,h]) 0 ev rfl
 simpa[bK] using this
theorem lq (A B:Option Addr) (g h c d:Nat) (l m:List UInt8) (w:World) (hl:dI w A g l) (hm:dI w B h m):
 Calls prog 78 #[.slice A l.length c,.slice B m.length d] w fun e w'=>e= .returned (.bool (l==m))∧w=w':=by
 have k1:=jk (P:=prog) w 24 5 9 underlying24 underlying5 underlying9 A g c l hl
 have k2:=jk (P:=prog) w 24 5 9 underlying24 underlying5 underlying9 B h d m hm
 go_enter func78,ntmps78
 go_wp2
 go_ret
 exact⟨by rw[kU,kU];rfl,rfl⟩
end Go.Proofs.YthfdkonhjpdflaaGreatDoor
