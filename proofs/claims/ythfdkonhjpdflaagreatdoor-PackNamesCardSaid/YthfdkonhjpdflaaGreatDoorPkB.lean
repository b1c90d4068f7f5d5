import Derived.Test.YthfdkonhjpdflaaGreatDoorPk3
import Derived.BigQuiet
namespace Go.Proofs.YthfdkonhjpdflaaGreatDoor
open Go.RowKit Go.Proofs.Tryz
set_option linter.unusedVariables false
set_option maxRecDepth 100000
set_option maxHeartbeats 4000000
theorem rM {l m:List Int} {k:Nat} {a b:Int} (ha:l[k]? =some a) (hb:m[k]? =some b) (h:l.take k=m.take k) (e:a=b):l.take (k+1)=m.take (k+1):=by
 rw[List.take_add_one,List.take_add_one,ha,hb,h,e]
theorem NW {l m:List Int} {k:Nat} {a b:Int} (ha:l[k]? =some a) (hb:m[k]? =some b) (e:a≠b): ¬l=m:=fun h=>by
 subst h;rw[ha] at hb;injection hb with hb;exact e hb
theorem tV (F G:List Nat) (l m:List Int) (v u:Value) (w:World) (h:F8 w F v l) (h':F8 w G u m):
 Calls prog 136 #[v,u] w fun e w'=>e= .returned (.bool (decide (l=m)))∧U1 [] w w':=by
 obtain⟨A,c,g,rfl,_,hc,hA,_⟩:=h
 obtain⟨B,d,k,rfl,_,hd,hB,_⟩:=h'
 by_cases hlen:l.length=m.length
 ·have hmx:l.length≤9223372036854775807:=by unfold maxLen at hc;omega
  rw[←hlen] at hB ⊢
  have HA:=U0 (U2 hA (U2 hB hlen))
  clear hA hB hlen
  go_enter func136,ntmps136
  go_wp2
  go_loopw [5,13] (fun _ v13 wx=>∃ i:Nat,i≤l.length∧v13= .int .i64 (i:Int)∧l.take i=m.take i∧U1 [] w wx) (fun _ v13 _=>l.length-(intOf v13).toNat)
  case atStart=>exact⟨0,by omega,rfl,rfl,U1.refl _ _⟩
  case round=>
   obtain⟨i,hi,rfl,ht,hk⟩:=hrel
   by_cases hlt:i<l.length
   ·have hlt':(i:Int)<(l.length:Int):=by omega
    obtain⟨a,ha⟩:∃ a,l[i]? =some a:=⟨_,List.getElem?_eq_getElem hlt⟩
    obtain⟨b,hb⟩:∃ a,m[i]? =some a:=⟨_,List.getElem?_eq_getElem (by have:=HA.o.2.2;omega)⟩
    obtain⟨o,rfl,hgl,hcA⟩:=HA.o.1.2 (by omega)
    obtain⟨p,rfl,hkl,hcB⟩:=HA.o.2.1.2 (by omega)
    have y0:=(hk.cell (p:=⟨g,o+i,none⟩) hgl (by simp)).trans (hcA i (.int .i64 a) (by rw[List.getElem?_map,ha];rfl))
    have z0:=(hk.cell (p:=⟨k,p+i,none⟩) hkl (by simp)).trans (hcB i (.int .i64 b) (by rw[List.getElem?_map,hb];rfl))
    have hw1:IntKind.i64.wrap ((i:Int)+1)=(i:Int)+1:=Z8 _ (by omega) (by omega)
    have HR:=U0 (U2 ht (U2 hk (U2 ha hb)))
    have hne:a≠b→ ¬l=m:=NW ha hb
    clear ht hk hcA hcB ha hb
    by_cases hab:a=b
    ·subst hab
     clear hne
     go_upto_region 6 with fail
     go_quiet (fail)
     have HK:=U0 (HR.o.2.1.then ((U1.refl [] wr).drewN nq) (by simp))
     clear y0 z0
     go_wp2_with fail
     go_roundw
     case rel=>exact⟨i+1,by omega,by go_num,rM HR.o.2.2.1 HR.o.2.2.2 HR.o.1 rfl,HK.o⟩
     case measure=>simp[intOf];omega
    ·have hn:=hne hab
     have hb1:(a !=b)=true:=by simpa using hab
     have HD:=U0 (show decide (l=m)=false by simp[hn])
     clear hn hab hne
     go_upto_region 6 with fail
     go_quiet (fail)
     have HK:=U0 (HR.o.2.1.then ((U1.refl [] wr).drewN nq) (by simp))
     clear y0 z0
     go_wp2_with fail
     go_ret
     exact⟨by rw[HD.o];rfl,HK.o⟩
   ·obtain rfl:i=l.length:=by omega
    have heq:l=m:=by rw[List.take_length,HA.o.2.2,List.take_length] at ht;exact ht
    have HD:=U0 (show decide (l=m)=true by simp[heq])
    have HK:=U0 hk
    clear heq ht hk
    go_wp2_with fail
    go_ret
    exact⟨by rw[HD.o];rfl,HK.o⟩
 ·have HD:=U0 (show decide (l=m)=false by
   refine decide_eq_false (fun h=>hlen ?_)
   rw[h])
  have hb1:((l.length:Int) !=(m.length:Int))=true:=by simp;omega
  clear hA hB hlen
  go_enter func136,ntmps136
  go_wp2
  go_ret
  exact⟨by rw[HD.o];rfl,U1.refl _ _⟩
def CF.same (c d:CF):Bool:=(c.num==d.num) && ((c.full==d.full) && decide (c.chain=d.chain))
def VT.same (v u:VT):Bool:=(v.ballot==u.ballot) && v.conf.same u.conf
theorem CF.same_iff (c d:CF):c.same d=true↔c=d:=by
 obtain⟨a,b,l⟩:=c
 obtain⟨a',b',l'⟩:=d
 simp[CF.same]
theorem VT.same_iff (c d:VT):c.same d=true↔c=d:=by
 obtain⟨a,l⟩:=c
 obtain⟨a',l'⟩:=d
 simp[VT.same,CF.same_iff]
theorem fI (F G:List Nat) (c d:CF) (cv dv:Value) (w:World) (hc:F8 w F cv c.chain) (hd:F8 w G dv d.chain):
 Calls prog 75 #[.agg (bA c cv).toArray,.agg (bA d dv).toArray] w fun e w'=>e= .returned (.bool (c.same d))∧U1 [] w w':=by
 obtain⟨r1,r2,kk⟩:=l5.two w 31 (bA c cv).toArray (bA d dv).toArray
 obtain⟨cn,cf,cl⟩:=c
 obtain⟨dn,df,dl⟩:=d
 unfold bA at r1 r2 kk ⊢
 dsimp only at r1 r2 kk hc hd ⊢
 have hc2:=hc.keep kk (by simp)
 have hd2:=hd.keep kk (by simp)
 obtain⟨A,cc,g,rfl,_⟩:=id hc
 obtain⟨B,dc,h,rfl,_⟩:=id hd
 have HE:=U0 (tV F G cl dl _ _ _ hc2 hd2)
 have HK:=U0 kk
 clear r1 r2 kk hc2 hd2 hc hd
 by_cases h1:cn=dn
 ·subst h1
  by_cases h2:cf=df
  ·subst h2
   have HS:=U0 (show CF.same ⟨cn,cf,cl⟩ ⟨cn,cf,dl⟩=decide (cl=dl) by simp[CF.same])
   go_enter func75,ntmps75
   go_wp2_with fail
   refine HE.o.mono ?_
   rintro e w' ⟨rfl,k⟩
   have HK2:=U0 (HK.o.then k (by simp))
   clear k
   go_wp2_with fail
   go_ret
   exact⟨by rw[HS.o];rfl,HK2.o⟩
  ·have HS:=U0 (show CF.same ⟨cn,cf,cl⟩ ⟨cn,df,dl⟩=false by simp[CF.same,h2])
   have t2:(cf==df)=false:=by simpa using h2
   clear h2
   go_enter func75,ntmps75
   go_wp2_with fail
   go_ret
   exact⟨by rw[HS.o];rfl,HK.o⟩
 ·have HS:=U0 (show CF.same ⟨cn,cf,cl⟩ ⟨dn,df,dl⟩=false by simp[CF.same,h1])
  have t1:(cn==dn)=false:=by simpa using h1
  clear h1
  go_enter func75,ntmps75
  go_wp2_with fail
  go_ret
  exact⟨by rw[HS.o];rfl,HK.o⟩
theorem qM (F G:List Nat) (c d:VT) (cv dv:Value) (w:World) (hc:F8 w F cv c.conf.chain) (hd:F8 w G dv d.conf.chain):
 Calls prog 77 #[.agg (oD c cv).toArray,.agg (oD d dv).toArray] w fun e w'=>e= .returned (.bool (c.same d))∧U1 [] w w':=by
 obtain⟨r1,r2,kk⟩:=l5.two w 69 (oD c cv).toArray (oD d dv).toArray
 have hc2:=hc.keep kk (by simp)
 have hd2:=hd.keep kk (by simp)
 obtain⟨A,cc,g,rfl,_⟩:=id hc
 obtain⟨B,dc,h,rfl,_⟩:=id hd
 have HE:=U0 (fI F G c.conf d.conf _ _ _ hc2 hd2)
 have HK:=U0 kk
 clear r1 r2 kk hc2 hd2 hc hd
 obtain⟨cb,cn,cf,cl⟩:=c
 obtain⟨db,dn,df,dl⟩:=d
 unfold oD bA at HE HK ⊢
 dsimp only at HE HK ⊢
 by_cases h1:cb=db
 ·subst h1
  have HS:=U0 (show VT.same ⟨cb,cn,cf,cl⟩ ⟨cb,dn,df,dl⟩=CF.same ⟨cn,cf,cl⟩ ⟨dn,df,dl⟩ by simp[VT.same])
  go_enter func77,ntmps77
  go_wp2_with fail
  refine HE.o.mono ?_
  rintro e w' ⟨rfl,k⟩
  have HK2:=U0 (HK.o.then k (by simp))
  clear k
  go_wp2_with fail
  go_ret
  exact⟨by rw[HS.o];rfl,HK2.o⟩
 ·have HS:=U0 (show VT.same ⟨cb,cn,cf,cl⟩ ⟨db,dn,df,dl⟩=false by simp[VT.same,h1])
  have t1:(cb==db)=false:=by simpa using h1
  clear h1
  go_enter func77,ntmps77
  go_wp2_with fail
  go_ret
  exact⟨by rw[HS.o];rfl,HK.o⟩
def xA (w:World) (F:List Nat) (v:Value) (l:List VT):Prop:=
 ∃ (A:Option Addr) (c g:Nat) (T:List (VT × Value)),v= .slice A l.length c∧l.length≤c∧c≤maxLen∧T.map (·.1)=l∧MB w A g l.length 4 (Z9 T)∧(∀ t∈T,F8 w F t.2 t.1.conf.chain)∧(l≠[]→g∈F)
theorem xA.keep {S F:List Nat} {w w':World} {v:Value} {l:List VT} (h:xA w F v l) (hk:U1 S w w') (hS:∀ y∈F,y∉S):xA w' F v l:=by
 obtain⟨A,c,g,T,h1,h2,h3,h4,h5,h6,h7⟩:=h
 exact⟨A,c,g,T,h1,h2,h3,h4,h5.keepS hk (fun hl=>hS g (h7 (List.length_pos_iff.1 hl))),fun t ht=>(h6 t ht).keep hk hS,h7⟩
theorem xA.nil (w:World) (F:List Nat):xA w F (.slice none 0 0) []:=⟨none,0,0,[],rfl,by simp,by simp[maxLen],rfl,⟨rfl,fun h=>absurd h (by simp)⟩,by simp,fun h=>absurd rfl h⟩
theorem zI:∀ (T:List (VT × Value)) (i:Nat) (t:VT × Value),T[i]? =some t→∀ j u,(oD t.1 t.2)[j]? =some u→(Z9 T)[i*4+j]? =some u
 |[],i,t,h,j,u,hu=>by simp at h
 |a::r,0,t,h,j,u,hu=>by
  simp at h
  subst h
  have hj:j<(oD a.1 a.2).length:=(List.getElem?_eq_some_iff.1 hu).1
  show (oD a.1 a.2++Z9 r)[0*4+j]? =some u
  rw[show 0*4+j=j by omega,List.getElem?_append_left hj]
  exact hu
 |a::r,i+1,t,h,j,u,hu=>by
  have:=zI r i t (by simpa using h) j u hu
  show (oD a.1 a.2++Z9 r)[(i+1)*4+j]? =some u
  rw[List.getElem?_append_right (by simp[oD,bA];omega),show (i+1)*4+j-(oD a.1 a.2).length=i*4+j by simp[oD,bA];omega]
  exact this
theorem xA.at {w:World} {F:List Nat} {A:Option Addr} {n c:Nat} {l:List VT} (h:xA w F (.slice A n c) l) {i:Nat} {x:VT} (hx:l[i]? =some x):
 ∃ g o cv,A=some ⟨g,o,none⟩∧g<w.heap.size∧g∈F∧F8 w F cv x.conf.chain∧w.cell? ⟨g,o+i*4,none⟩=some (.int .i64 x.ballot)∧w.cell? ⟨g,o+i*4+1,none⟩=some (.int .i64 x.conf.num)∧w.cell? ⟨g,o+i*4+2,none⟩=some (.int .i64 x.conf.full)∧w.cell? ⟨g,o+i*4+3,none⟩=some cv:=by
 obtain⟨A',c',g,T,h1,h2,h3,h4,h5,h6,h7⟩:=h
 injection h1 with ha hb hc
 subst ha
 have hi:i<l.length:=(List.getElem?_eq_some_iff.1 hx).1
 obtain⟨o,rfl,hgl,hcell⟩:=h5.2 (by omega)
 rw[←h4,List.getElem?_map] at hx
 cases ht:T[i]? with
 |none=>rw[ht] at hx;cases hx
 |some t=>
  rw[ht] at hx
  simp at hx
  subst hx
  have hf:=zI T i t ht
  have hg:g∈F:=h7 (by rintro rfl;simp at hi)
  refine⟨g,o,t.2,rfl,hgl,hg,h6 t (List.mem_of_getElem? ht),?_,?_,?_,?_⟩
  ·exact hcell _ _ (hf 0 _ rfl)
  ·exact hcell _ _ (hf 1 _ rfl)
  ·exact hcell _ _ (hf 2 _ rfl)
  ·exact hcell _ _ (hf 3 _ rfl)
def xH:List VT→List VT→Bool
 |[],[]=>true
 |a::l,b::m=>a.same b && xH l m
 |[],_::_=>false
 |_::_,[]=>false
theorem vJ:∀ l m:List VT,xH l m=true↔l=m
 |[],[]=>by simp[xH]
 |a::l,b::m=>by simp[xH,VT.same_iff,vJ l m]
 |[],_::_=>by simp[xH]
 |_::_,[]=>by simp[xH]
theorem LP {l m:List VT} (h: ¬l=m):xH l m=false:=by
 cases e:xH l m with
 |false=>rfl
 |true=>exact absurd ((vJ l m).1 e) h
theorem KP {l m:List VT} {k:Nat} {a b:VT} (ha:l[k]? =some a) (hb:m[k]? =some b) (h:l.take k=m.take k) (e:a=b):l.take (k+1)=m.take (k+1):=by
 rw[List.take_add_one,List.take_add_one,ha,hb,h,e]
theorem JU {l m:List VT} {k:Nat} {a b:VT} (ha:l[k]? =some a) (hb:m[k]? =some b) (e:a≠b): ¬l=m:=fun h=>by
 subst h;rw[ha] at hb;injection hb with hb;exact e hb
theorem gN (F G:List Nat) (l m:List VT) (v u:Value) (w:World) (h:xA w F v l) (h':xA w G u m):
 Calls prog 76 #[v,u,.func (.func 77) #[] #[]] w fun e w'=>e= .returned (.bool (xH l m))∧U1 [] w w':=by
 obtain⟨A,c,gA,TA,rfl,_,hc,_⟩:=id h
 obtain⟨B,d,gB,TB,rfl,_,hd,_⟩:=id h'
 by_cases hlen:l.length=m.length
 ·have hmx:l.length≤9223372036854775807:=by unfold maxLen at hc;omega
  have HA:=U0 (U2 h (U2 h' hlen))
  rw[←hlen]
  clear h h' hlen
  go_enter func76,ntmps76
  go_wp2
  go_loopw [7,8,9,17] (fun _ _ _ v17 wx=>∃ i:Nat,i≤l.length∧v17= .int .i64 (i:Int)∧l.take i=m.take i∧U1 [] w wx) (fun _ _ _ v17 _=>l.length-(intOf v17).toNat)
  case atStart=>exact⟨0,by omega,rfl,rfl,U1.refl _ _⟩
  case round=>
   obtain⟨i,hi,rfl,ht,hk⟩:=hrel
   by_cases hlt:i<l.length
   ·have hlt':(i:Int)<(l.length:Int):=by omega
    obtain⟨a,ha⟩:∃ a,l[i]? =some a:=⟨_,List.getElem?_eq_getElem hlt⟩
    obtain⟨b,hb⟩:∃ a,m[i]? =some a:=⟨_,List.getElem?_eq_getElem (by have:=HA.o.2.2;omega)⟩
    obtain⟨g,o,cv,rfl,hgl,_,hcv,x0,x1,x2,x3⟩:=(HA.o.1.keep hk (by simp)).at ha
    obtain⟨k,p,dv,rfl,hkl,_,hdv,y0,y1,y2,y3⟩:=(HA.o.2.1.keep hk (by simp)).at hb
    have hw1:IntKind.i64.wrap ((i:Int)+1)=(i:Int)+1:=Z8 _ (by omega) (by omega)
    have hne:a≠b→ ¬l=m:=JU ha hb
    have HR:=U0 (U2 ht (U2 hk (U2 ha (U2 hb (U2 hcv (U2 hdv hne))))))
    clear ht hk ha hb hcv hdv hne
    obtain⟨ab,an,af,al⟩:=a
    obtain⟨bb,bn,bf,bl⟩:=b
    dsimp only at x0 x1 x2 x3 y0 y1 y2 y3
    obtain⟨CA,cc,cg,rfl,_⟩:=id HR.o.2.2.2.2.1
    obtain⟨DA,dc,dg,rfl,_⟩:=id HR.o.2.2.2.2.2.1
    dsimp only at x3 y3
    go_upto_region 6 with fail
    have r1:=l5.new wr 69 #[.int .i64 ab,.int .i64 an,.int .i64 af,.slice CA al.length cc]
    have k1:=(U1.refl [] wr).alloc (.cells #[.int .i64 ab,.int .i64 an,.int .i64 af,.slice CA al.length cc] 69)
    obtain⟨w1,hw1e⟩:∃ w1,wr.alloc (.cells #[.int .i64 ab,.int .i64 an,.int .i64 af,.slice CA al.length cc] 69)=w1:=⟨_,rfl⟩
    rw[hw1e] at r1 k1 ⊢
    clear hw1e
    have ek:=fun o=>k1.cell (p:=⟨k,o,none⟩) hkl (by simp)
    rw[←ek] at y0 y1 y2 y3
    go_upto_region 7 with fail
    have r2:=l5.new w1 69 #[.int .i64 bb,.int .i64 bn,.int .i64 bf,.slice DA bl.length dc]
    have k2:=(U1.refl [] w1).alloc (.cells #[.int .i64 bb,.int .i64 bn,.int .i64 bf,.slice DA bl.length dc] 69)
    have r12:=k2.row r1 (by simp)
    obtain⟨w2,hw2e⟩:∃ w2,w1.alloc (.cells #[.int .i64 bb,.int .i64 bn,.int .i64 bf,.slice DA bl.length dc] 69)=w2:=⟨_,rfl⟩
    rw[hw2e] at r2 r12 k2 ⊢
    clear hw2e
    have p0:w2.cell? ⟨wr.heap.size,0,none⟩=some (.int .i64 ab):=r12.cell 0
    have p1:w2.cell? ⟨wr.heap.size,1,none⟩=some (.int .i64 an):=r12.cell 1
    have p2:w2.cell? ⟨wr.heap.size,2,none⟩=some (.int .i64 af):=r12.cell 2
    have p3:w2.cell? ⟨wr.heap.size,3,none⟩=some (.slice CA al.length cc):=r12.cell 3
    have q0:w2.cell? ⟨w1.heap.size,0,none⟩=some (.int .i64 bb):=r2.cell 0
    have q1:w2.cell? ⟨w1.heap.size,1,none⟩=some (.int .i64 bn):=r2.cell 1
    have q2:w2.cell? ⟨w1.heap.size,2,none⟩=some (.int .i64 bf):=r2.cell 2
    have q3:w2.cell? ⟨w1.heap.size,3,none⟩=some (.slice DA bl.length dc):=r2.cell 3
    have kk:=k1.then k2 (by simp)
    have HC:=U0 (qM F G ⟨ab,an,af,al⟩ ⟨bb,bn,bf,bl⟩ _ _ w2 (HR.o.2.2.2.2.1.keep kk (by simp)) (HR.o.2.2.2.2.2.1.keep kk (by simp)))
    have HK:=U0 (HR.o.2.1.then kk (by simp))
    clear x0 x1 x2 x3 y0 y1 y2 y3 ek k1 r1 r2 r12 k2 kk
    by_cases hab:VT.same ⟨ab,an,af,al⟩ ⟨bb,bn,bf,bl⟩=true
    ·have heq:=(VT.same_iff _ _).1 hab
     rw[hab] at HC
     go_wp2_with fail
     refine HC.o.mono ?_
     rintro e w' ⟨rfl,k3⟩
     have HK3:=U0 (HK.o.then k3 (by simp))
     have HQ:=U0 heq
     clear k3 heq hab p0 p1 p2 p3 q0 q1 q2 q3
     go_wp2_with fail
     go_roundw
     case rel=>exact⟨i+1,by omega,by go_num,KP HR.o.2.2.1 HR.o.2.2.2.1 HR.o.1 HQ.o,HK3.o⟩
     case measure=>simp[intOf];omega
    ·have hf:VT.same ⟨ab,an,af,al⟩ ⟨bb,bn,bf,bl⟩=false:=by simpa using hab
     have HD:=U0 (LP (HR.o.2.2.2.2.2.2 (fun h=>hab ((VT.same_iff _ _).2 h))))
     rw[hf] at HC
     clear hab hf
     go_wp2_with fail
     refine HC.o.mono ?_
     rintro e w' ⟨rfl,k3⟩
     have HK3:=U0 (HK.o.then k3 (by simp))
     clear k3 p0 p1 p2 p3 q0 q1 q2 q3
     go_wp2_with fail
     go_ret
     exact⟨by rw[HD.o];rfl,HK3.o⟩
   ·obtain rfl:i=l.length:=by omega
    have heq:l=m:=by rw[List.take_length,HA.o.2.2,List.take_length] at ht;exact ht
    have HD:=U0 ((vJ l m).2 heq)
    have HK:=U0 hk
    clear heq ht hk
    go_wp2_with fail
    go_ret
    exact⟨by rw[HD.o];rfl,HK.o⟩
 ·have HD:=U0 (LP (l:=l) (m:=m) (fun h=>hlen (by rw[h])))
  have hb1:((l.length:Int) !=(m.length:Int))=true:=by simp;omega
  clear h h' hlen
  go_enter func76,ntmps76
  go_wp2
  go_ret
  exact⟨by rw[HD.o];rfl,U1.refl _ _⟩
end Go.Proofs.YthfdkonhjpdflaaGreatDoor
