import Derived.Test.YthfdkonhjpdflaaGreatDoorLow3
import Derived.Test.YthfdkonhjpdflaaGreatDoorLow1
import Derived.Laws.Cover1
import Derived.Deep.RegionHeld3
import Derived.Deep.CutBlock
import Derived.Deep.DeepCutAuto
import Derived.BigRegion
import Derived.Outline
import Derived.Lib.Hide
import Derived.Handy
namespace Go.Proofs.YthfdkonhjpdflaaGreatDoor
open Go.RowKit Go.Proofs.Tryz
set_option linter.unusedVariables false
set_option maxRecDepth 100000
set_option maxHeartbeats 1000000
def qB (n lo hi:Int):Bool:=decide (lo≤n) && decide (n≤hi)
theorem OB {n lo hi:Int} (h:lo≤n∧n≤hi):qB n lo hi=true:=by unfold qB;simp[h.1,h.2]
theorem eB {n lo hi:Int} (h: ¬(lo≤n∧n≤hi)):qB n lo hi=false:=by
 cases e:qB n lo hi with
 |false=>rfl
 |true=>exact absurd (by simpa[qB] using e) h
theorem EC {n lo hi:Int}:qB n lo hi=true↔lo≤n∧n≤hi:=by simp[qB]
def mxI:Int:=9007199254740991
def WB (n:Int):Bool:=qB n 0 2||(qB n 10 13||qB n 20 22)
def JI (kind seq:Int):Bool:=qB seq (if kind=5 then -1 else 0) 9007199254740990
def O9 (b:Bool):Int:=if b then 0 else 2
def pJ:Nat→Int
 |0=>0|1=>16|2=>32|3=>19|4=>3|5=>3|6=>259|7=>64|8=>9|9=>1024|10=>6|11=>134|12=>70|13=>6|_=>4
def l6 (k:Int):Int:=if 0≤k∧k≤14 then pJ k.toNat else 0
def zB (w:World):Prop:=∀ k:Nat,k<15→w.cell? ⟨0,k,none⟩=some (.int .i64 (pJ k))
theorem zB.keep {S:List Nat} {w w':World} (h:zB w) (hk:U1 S w w') (hS:0∉S):zB w':=fun k hk'=>by
 have h1:=h k hk'
 exact (hk.cell (p:=⟨0,k,none⟩) (World.block_lt_of_cell? w _ h1) hS).trans h1
theorem kG (n:Int) (w:World):Calls prog 126 #[.int .i64 n] w fun e w'=>e= .returned (.bool (qB n 0 2))∧w=w':=by
 go_enter func126,ntmps126
 by_cases a:0≤n
 ·by_cases b:n<3
  ·go_wp2
   go_ret
   exact⟨by rw[OB (by omega)];rfl,rfl⟩
  ·go_wp2
   go_ret
   exact⟨by rw[eB (by omega)];rfl,rfl⟩
 ·go_wp2
  go_ret
  exact⟨by rw[eB (by omega)];rfl,rfl⟩
theorem wE (n:Int) (w:World):Calls prog 86 #[.int .i64 n] w fun e w'=>e= .returned (.bool (qB n 10 13))∧w=w':=by
 go_enter func86,ntmps86
 by_cases a:10≤n
 ·by_cases b:n<14
  ·go_wp2
   go_ret
   exact⟨by rw[OB (by omega)];rfl,rfl⟩
  ·go_wp2
   go_ret
   exact⟨by rw[eB (by omega)];rfl,rfl⟩
 ·go_wp2
  go_ret
  exact⟨by rw[eB (by omega)];rfl,rfl⟩
theorem p9 (n:Int) (w:World):Calls prog 84 #[.int .i64 n] w fun e w'=>e= .returned (.bool (qB n 0 2))∧w=w':=by
 go_enter func84,ntmps84
 by_cases a:0≤n
 ·by_cases b:n<3
  ·go_wp2
   go_ret
   exact⟨by rw[OB (by omega)];rfl,rfl⟩
  ·go_wp2
   go_ret
   exact⟨by rw[eB (by omega)];rfl,rfl⟩
 ·go_wp2
  go_ret
  exact⟨by rw[eB (by omega)];rfl,rfl⟩
theorem o8 (n:Int) (w:World):Calls prog 63 #[.int .i64 n] w fun e w'=>e= .returned (.bool (qB n 0 9007199254740991))∧w=w':=by
 go_enter func63,ntmps63
 by_cases a:0≤n
 ·by_cases b:n≤9007199254740991
  ·go_wp2
   go_ret
   exact⟨by rw[OB (by omega)];rfl,rfl⟩
  ·go_wp2
   go_ret
   exact⟨by rw[eB (by omega)];rfl,rfl⟩
 ·go_wp2
  go_ret
  exact⟨by rw[eB (by omega)];rfl,rfl⟩
theorem I8 (n:Int) (w:World):Calls prog 85 #[.int .i64 n] w fun e w'=>e= .returned (.bool (qB n 1 9007199254740991))∧w=w':=by
 go_enter func85,ntmps85
 by_cases a:1≤n
 ·by_cases b:n≤9007199254740991
  ·go_wp2
   go_ret
   exact⟨by rw[OB (by omega)];rfl,rfl⟩
  ·go_wp2
   go_ret
   exact⟨by rw[eB (by omega)];rfl,rfl⟩
 ·go_wp2
  go_ret
  exact⟨by rw[eB (by omega)];rfl,rfl⟩
theorem QJ (n:Int) (hn: -9223372036854775808≤n) (hn':n≤9223372036854775807) (w:World):Calls prog 61 #[.int .i64 n] w fun e w'=>e= .returned (.bool (WB n))∧w=w':=by
 by_cases a:0≤n∧n≤2
 ·have h:WB n=true:=by unfold WB;rw[OB a];rfl
  have H:=U0 h
  have ha:=OB a
  clear h
  go_enter func61,ntmps61
  go_wp2_with fail
  refine (kG n _).mono ?_;rintro e w' ⟨rfl,rfl⟩
  rw[ha]
  go_wp2_with fail
  go_ret
  exact⟨by rw[H.o];rfl,rfl⟩
 ·have ha:=eB a
  by_cases b:10≤n∧n≤13
  ·have hb:=OB b
   have h:WB n=true:=by unfold WB;rw[ha,hb];rfl
   have H:=U0 h
   clear h
   go_enter func61,ntmps61
   go_wp2_with fail
   refine (kG n _).mono ?_;rintro e w' ⟨rfl,rfl⟩
   rw[ha]
   go_wp2_with fail
   refine (wE n _).mono ?_;rintro e w' ⟨rfl,rfl⟩
   rw[hb]
   go_wp2_with fail
   go_ret
   exact⟨by rw[H.o];rfl,rfl⟩
  ·have hb:=eB b
   have h:WB n=qB (wrap64 (n-20)) 0 2:=by
    unfold WB
    rw[ha,hb]
    by_cases c:20≤n∧n≤22
    ·rw[OB c,OB (by unfold wrap64;omega)];rfl
    ·rw[eB c,eB (by unfold wrap64;omega)];rfl
   have H:=U0 h
   clear h
   go_enter func61,ntmps61
   go_wp2_with fail
   refine (kG n _).mono ?_;rintro e w' ⟨rfl,rfl⟩
   rw[ha]
   go_wp2_with fail
   refine (wE n _).mono ?_;rintro e w' ⟨rfl,rfl⟩
   rw[hb]
   go_wp2_with fail
   refine (p9 _ _).mono ?_;rintro e w' ⟨rfl,rfl⟩
   go_wp2_with fail
   go_ret
   exact⟨by rw[H.o];rfl,rfl⟩
theorem Q8 (b:Bool) (w:World):Calls prog 66 #[.bool b] w fun e w'=>e= .returned (.int .i64 (O9 b))∧w=w':=by
 cases b
 all_goals
  go_enter func66,ntmps66
  go_wp2
  go_ret
  exact⟨rfl,rfl⟩
theorem iA (k n:Int) (w:World):Calls prog 64 #[.int .i64 k,.int .i64 n] w fun e w'=>e= .returned (.bool (JI k n))∧w=w':=by
 by_cases c:k=5
 ·subst c
  have h:JI 5 n=qB n (-1) 9007199254740990:=rfl
  by_cases a: -1≤n
  ·by_cases b:n<9007199254740991
   ·have H:=U0 (h.trans (OB ⟨a,by omega⟩))
    clear h
    go_enter func64,ntmps64
    go_wp2
    go_ret
    exact⟨by rw[H.o];rfl,rfl⟩
   ·have H:=U0 (h.trans (eB (by omega)))
    clear h
    go_enter func64,ntmps64
    go_wp2
    go_ret
    exact⟨by rw[H.o];rfl,rfl⟩
  ·have H:=U0 (h.trans (eB (by omega)))
   clear h
   go_enter func64,ntmps64
   go_wp2
   go_ret
   exact⟨by rw[H.o];rfl,rfl⟩
 ·have h:JI k n=qB n 0 9007199254740990:=by unfold JI;rw[if_neg c]
  by_cases a:0≤n
  ·by_cases b:n<9007199254740991
   ·have H:=U0 (h.trans (OB ⟨a,by omega⟩))
    clear h
    go_enter func64,ntmps64
    go_wp2
    go_ret
    exact⟨by rw[H.o];rfl,rfl⟩
   ·have H:=U0 (h.trans (eB (by omega)))
    clear h
    go_enter func64,ntmps64
    go_wp2
    go_ret
    exact⟨by rw[H.o];rfl,rfl⟩
  ·have H:=U0 (h.trans (eB (by omega)))
   clear h
   go_enter func64,ntmps64
   go_wp2
   go_ret
   exact⟨by rw[H.o];rfl,rfl⟩
theorem jG (k:Int) (w:World) (h:zB w):Calls prog 40 #[.int .i64 k] w fun e w'=>e= .returned (.int .i64 (l6 k))∧w=w':=by
 by_cases a:0≤k
 ·by_cases b:k≤14
  ·obtain⟨n,rfl⟩:∃ n:Nat,k=(n:Int):=⟨k.toNat,by omega⟩
   have hc:=h n (by omega)
   have hn15:(n:Int)<15:=by omega
   have H:=U0 (show l6 (n:Int)=pJ n by unfold l6;rw[if_pos ⟨a,b⟩];rfl)
   clear h
   go_enter func40,ntmps40
   go_wp2
   go_ret
   exact⟨by rw[H.o];rfl,rfl⟩
  ·have H:=U0 (show l6 k=0 by unfold l6;rw[if_neg (by omega)])
   clear h
   go_enter func40,ntmps40
   go_wp2
   go_ret
   exact⟨by rw[H.o];rfl,rfl⟩
 ·have H:=U0 (show l6 k=0 by unfold l6;rw[if_neg (by omega)])
  clear h
  go_enter func40,ntmps40
  go_wp2
  go_ret
  exact⟨by rw[H.o];rfl,rfl⟩
structure RQ where
 client:Int
 num:Int
 kind:Int
 version:Int
 name:List UInt8
 env:List UInt8
structure AN where
 client:Int
 num:Int
 code:Int
 version:Int
 epoch:Int
 name:List UInt8
 env:List UInt8
structure CF where
 num:Int
 full:Int
 chain:List Int
structure VT where
 ballot:Int
 conf:CF
structure PK where
 kind:Int
 frm:Int
 dst:Int
 num:Int
 seq:Int
 ballot:Int
 ready:Bool
 req:RQ
 ans:AN
 conf:CF
 votes:List VT
 bytes:List UInt8
def G7 (w:World) (F:List Nat) (v:Value) (l:List UInt8):Prop:=
 ∃ (A:Option Addr) (c g:Nat),v= .slice A l.length c∧l.length≤c∧c≤maxLen∧QA w A g l∧(l≠[]→g∈F)
theorem G7.keep {S F:List Nat} {w w':World} {v:Value} {l:List UInt8} (h:G7 w F v l) (hk:U1 S w w') (hS:∀ y∈F,y∉S):G7 w' F v l:=by
 obtain⟨A,c,g,h1,h2,h3,h5,h6⟩:=h
 exact⟨A,c,g,h1,h2,h3,h5.keep hk (fun hl=>hS g (h6 hl)),h6⟩
theorem G7.more {F G:List Nat} {w:World} {v:Value} {l:List UInt8} (h:G7 w F v l) (hF:∀ y∈F,y∈G):G7 w G v l:=by
 obtain⟨A,c,g,h1,h2,h3,h5,h6⟩:=h
 exact⟨A,c,g,h1,h2,h3,h5,fun hl=>hF g (h6 hl)⟩
theorem G7.nil (w:World) (F:List Nat):G7 w F (.slice none 0 0) []:=⟨none,0,0,rfl,by simp,by simp[maxLen],QA.nil _ _ _,fun h=>absurd rfl h⟩
def F8 (w:World) (F:List Nat) (v:Value) (l:List Int):Prop:=
 ∃ (A:Option Addr) (c g:Nat),v= .slice A l.length c∧l.length≤c∧c≤maxLen∧MB w A g l.length 1 (l.map (Value.int .i64))∧(l≠[]→g∈F)
theorem MB.keepS {S:List Nat} {w w':World} {A:Option Addr} {g n sz:Nat} {xs:List Value} (h:MB w A g n sz xs) (hk:U1 S w w') (hS:0<n→g∉S):MB w' A g n sz xs:=by
 refine⟨h.1,fun hn=> ?_⟩
 obtain⟨o,e1,e2,e3⟩:=h.2 hn
 exact⟨o,e1,Nat.lt_of_lt_of_le e2 hk.size,fun j u hu=>(hk.cell (p:=⟨g,o+j,none⟩) e2 (hS hn)).trans (e3 j u hu)⟩
theorem F8.keep {S F:List Nat} {w w':World} {v:Value} {l:List Int} (h:F8 w F v l) (hk:U1 S w w') (hS:∀ y∈F,y∉S):F8 w' F v l:=by
 obtain⟨A,c,g,h1,h2,h3,h5,h6⟩:=h
 exact⟨A,c,g,h1,h2,h3,h5.keepS hk (fun hl=>hS g (h6 (List.length_pos_iff.1 hl))),h6⟩
theorem F8.more {F G:List Nat} {w:World} {v:Value} {l:List Int} (h:F8 w F v l) (hF:∀ y∈F,y∈G):F8 w G v l:=by
 obtain⟨A,c,g,h1,h2,h3,h5,h6⟩:=h
 exact⟨A,c,g,h1,h2,h3,h5,fun hl=>hF g (h6 hl)⟩
theorem F8.nil (w:World) (F:List Nat):F8 w F (.slice none 0 0) []:=⟨none,0,0,rfl,by simp,by simp[maxLen],⟨rfl,fun h=>absurd h (by simp)⟩,fun h=>absurd rfl h⟩
def U8 (r:RQ) (ev:Value):List Value:= .int .i64 r.client:: .int .i64 r.num:: .int .i64 r.kind:: .int .i64 r.version::(U7 r.name++[ev])
def x9 (a:AN) (ev:Value):List Value:= .int .i64 a.client:: .int .i64 a.num:: .int .i64 a.code:: .int .i64 a.version:: .int .i64 a.epoch::(U7 a.name++[ev])
def bA (c:CF) (cv:Value):List Value:=[.int .i64 c.num,.int .i64 c.full,cv]
def oD (v:VT) (cv:Value):List Value:= .int .i64 v.ballot::bA v.conf cv
def Z9:List (VT × Value)→List Value
 |[]=>[]
 |t::r=>oD t.1 t.2++Z9 r
theorem sH:∀ T:List (VT × Value),(Z9 T).length=T.length*4
 |[]=>rfl
 |t::r=>by simp[Z9,oD,bA,sH r];omega
def q8 (p:PK) (ev av cv vv bw:Value):List Value:=
 .int .i64 p.kind:: .int .i64 p.frm:: .int .i64 p.dst:: .int .i64 p.num:: .int .i64 p.seq:: .int .i64 p.ballot:: .bool p.ready::(U8 p.req ev++(x9 p.ans av++(bA p.conf cv++[vv,bw])))
theorem O8 {r:RQ} {ev:Value} (h:r.name.length=32):(U8 r ev).length=37:=by simp[U8,A8,h]
theorem y9 {a:AN} {ev:Value} (h:a.name.length=32):(x9 a ev).length=38:=by simp[x9,A8,h]
theorem G8 {p:PK} {ev av cv vv bw:Value} (h:p.req.name.length=32) (h':p.ans.name.length=32):(q8 p ev av cv vv bw).length=87:=by
 have e1:(U8 p.req ev).length=37:=O8 h
 have e2:(x9 p.ans av).length=38:=y9 h'
 unfold q8
 simp only[List.length_cons,List.length_append,e1,e2]
 rfl
theorem uH {l m r:List Value} {k:Nat} (hk:l.length=k):∀ j v,m[j]? =some v→(l++(m++r))[k+j]? =some v:=fun j v hv=>by
 subst hk
 rw[List.getElem?_append_right (by omega),show l.length+j-l.length=j by omega,List.getElem?_append_left (List.getElem?_eq_some_iff.1 hv).1]
 exact hv
theorem IE (r:RQ) (ev:Value):∀ j v,(U7 r.name)[j]? =some v→(U8 r ev).toArray[4+j]? =some v:=fun j v hv=>by
 have:=uH (l:=[.int .i64 r.client,.int .i64 r.num,.int .i64 r.kind,.int .i64 r.version]) (r:=[ev]) rfl j v hv
 simpa[U8] using this
theorem WC {r:RQ} {ev:Value} (h:r.name.length=32):(U8 r ev).toArray[36]? =some ev:=by
 have:=uH (l:= .int .i64 r.client:: .int .i64 r.num:: .int .i64 r.kind:: .int .i64 r.version::U7 r.name) (m:=[ev]) (r:=[]) (k:=36) (by simp[A8,h]) 0 ev rfl
 simpa[U8] using this
theorem UF (a:AN) (ev:Value):∀ j v,(U7 a.name)[j]? =some v→(x9 a ev).toArray[5+j]? =some v:=fun j v hv=>by
 have:=uH (l:=[.int .i64 a.client,.int .i64 a.num,.int .i64 a.code,.int .i64 a.version,.int .i64 a.epoch]) (r:=[ev]) rfl j v hv
 simpa[x9] using this
theorem VC {a:AN} {ev:Value} (h:a.name.length=32):(x9 a ev).toArray[37]? =some ev:=by
 have:=uH (l:= .int .i64 a.client:: .int .i64 a.num:: .int .i64 a.code:: .int .i64 a.version:: .int .i64 a.epoch::U7 a.name) (m:=[ev]) (r:=[]) (k:=37) (by simp[A8,h]) 0 ev rfl
 simpa[x9] using this
theorem BG (A B:Option Addr) (g h c d:Nat) (l m:List UInt8) (w:World) (hl:QA w A g l) (hm:QA w B h m):
 Calls prog 78 #[.slice A l.length c,.slice B m.length d] w fun e w'=>e= .returned (.bool (l==m))∧w=w':=by
 have k1:=PE (P:=prog) w 24 5 9 underlying24 underlying5 underlying9 A g c l hl
 have k2:=PE (P:=prog) w 24 5 9 underlying24 underlying5 underlying9 B h d m hm
 go_enter func78,ntmps78
 go_wp2
 go_ret
 exact⟨by rw[qG,qG];rfl,rfl⟩
end Go.Proofs.YthfdkonhjpdflaaGreatDoor
