import Derived.Test.YthfdkonhjpdflaaGreatDoorPk28
namespace Go.Proofs.YthfdkonhjpdflaaGreatDoor
open Go.RowKit Go.Proofs.Tryz
set_option linter.unusedVariables false
set_option maxRecDepth 100000
set_option linter.unusedSimpArgs false
set_option maxHeartbeats 16000000
theorem YS (l:List UInt8):be (l.take 1)≤255:=by
 have h:=VS (l.take 1)
 have h1:(l.take 1).length≤1:=by rw[List.length_take];omega
 have h2:256^(l.take 1).length≤256^1:=Nat.pow_le_pow_right (by omega) h1
 omega
theorem bD (r:RS):0≤(r.num 1).1∧(r.num 1).1≤255:=by
 unfold RS.num
 split
 ·split
  ·split
   ·simp
   ·refine⟨by simp,?_⟩
    show ((be (r.take 1):Nat):Int)≤255
    have h:be (r.take 1)≤255:=by
     unfold RS.take
     split
     ·exact YS _
     ·exact Nat.zero_le _
    omega
  ·simp
 ·simp
def jE:Nat→RS→List Int × RS
 |0,r=>([],r)
 |k+1,r=>((jE k r).1++[((jE k r).2.num 1).1],((jE k r).2.num 1).2)
theorem YH:∀ (k:Nat) (r:RS),(jE k r).1.length=k
 |0,r=>rfl
 |k+1,r=>by simp[jE,YH k r]
def nV (n:Int):Nat:=(if n<5 then n else 5).toNat
def WQ (r:RS):RS:=(r.count 9007199254740991).2
def XQ (r:RS):RS:=((WQ r).num 1).2
def YQ (r:RS):RS:=((XQ r).num 1).2
def XW (r:RS):Nat:=nV ((XQ r).num 1).1
def OO (r:RS):CF:=⟨(r.count 9007199254740991).1,((WQ r).num 1).1,(jE (XW r) (YQ r)).1⟩
def xI (r:RS):RS:=(jE (XW r) (YQ r)).2
def dA (b:List UInt8):CF × Int:=(eL (zA (xI ⟨b,0⟩).end_ (OO ⟨b,0⟩).ok) (OO ⟨b,0⟩) V7,zA (xI ⟨b,0⟩).end_ (OO ⟨b,0⟩).ok)
theorem cfL_eL (E:Int) (q:CF) (ev:Value):eL E (bA q ev) (bA V7 I4)=bA (eL E q V7) (eL E ev I4):=by unfold eL;split<;>rfl
theorem eL_cfV {E:Int} {w:World} {G:List Nat} {q:CF} {ev:Value} (h:F8 w G ev q.chain):F8 w G (eL E ev I4) (eL E q V7).chain:=by
 unfold eL
 split
 ·exact h
 ·exact F8.nil w G
theorem OJ:(prog.info? 3).map (fun i=>(i.zero,i.size,i.bytes))=some (some (.int .i64 0),1,8):=by kernel_rfl
def mV (w0 w:World) (p g tb:Nat) (r:RS) (nm fl:Int) (Z:List Value) (i:Nat):Prop:=
 ∃ A c,dJ w0 w p g tb (jE i r).2 31 (bA ⟨nm,fl,[]⟩ (.slice A i c)) Z∧qA w 3 1 (.slice A i c) i ((jE i r).1.map (Value.int .i64))∧∀ y∈Z6 (.slice A i c),tb<y
theorem dJ.far {w0 w w':World} {p g tb:Nat} {r:RS} {T:TypeId} {L Z:List Value} {S:List Nat} (h:dJ w0 w p g tb r T L Z) (hk:U1 S w w') (hS:∀ x∈S,tb<x):dJ w0 w' p g tb r T L Z:=
 ⟨h.rd.keep hk (fun hm=>by have:=hS p hm;have:=h.hi;omega) (fun hne hm=>by have:=hS g hm;have:=h.gl hne;omega),h.lo,h.hi,h.gl,h.len,hk.row h.row (fun hm=>by have:=hS tb hm;omega),hk.row h.res (fun hm=>by have:=hS _ hm;have:=h.lo;have:=h.hi;omega),h.kp.then hk (fun x hx=> .inr (by have:=hS x hx;have:=h.lo;have:=h.hi;omega))⟩
theorem mV.step {w0 w5 w6:World} {p g tb i c c6:Nat} {A A6:Option Addr} {r:RS} {nm fl y:Int} {Z:List Value} (h5:dJ w0 w5 p g tb ((jE i r).2.num 1).2 31 (bA ⟨nm,fl,[]⟩ (.slice A i c)) Z) (hH:∀ x∈Z6 (.slice A i c),tb<x)
 (k6:U1 (Z6 (.slice A i c)) w5 w6) (ho:qA w6 3 1 (.slice A6 (i+1) c6) (i+1) ((jE i r).1.map (Value.int .i64)++[.int .i64 y])) (hy:((jE i r).2.num 1).1=y) (hl:∀ x∈Z6 (.slice A6 (i+1) c6),x∈Z6 (.slice A i c)∨w5.heap.size≤x):
 mV w0 (w6.setCell ⟨tb,2,none⟩ (.slice A6 (i+1) c6)) p g tb r nm fl Z (i+1):=by
 have h6:=h5.far k6 hH
 have hgt:∀ x∈Z6 (.slice A6 (i+1) c6),tb<x:=fun x hx=>by
  rcases hl x hx with h|h
  ·exact hH x h
  ·have:=h5.row.lt;omega
 refine⟨A6,c6,h6.set 2 _ (by simp[bA]),?_,hgt⟩
 have e:(jE (i+1) r).1.map (Value.int .i64)=(jE i r).1.map (Value.int .i64)++[.int .i64 y]:=by rw[jE,List.map_append,hy];rfl
 rw[e]
 exact ho.keep (xC w6 tb 2 _) (fun x hx=>by have:=hgt x hx;simp;omega)
theorem ZI (F:List Nat) (b:List UInt8) (v:Value) (w:World) (h:G7 w F v b) (hb:b.length≤1000000):
 Calls prog 34 #[v] w fun e w'=>∃ ev G,e= .returned (.tuple #[.agg (bA (dA b).1 ev).toArray,.int .i64 (dA b).2])∧F8 w' G ev (dA b).1.chain∧I9 w w' G∧U1 [] w w':=by
 obtain⟨Z,hZ⟩:∃ Z,bA V7 I4=Z:=⟨_,rfl⟩
 have hZ0:Z=bA ⟨0,0,[]⟩ I4:=by rw[←hZ];rfl
 have zv:=kJ
 have zl:Z.length=3:=by rw[←hZ];rfl
 have zo:∀ u∈Z,u.oneCell'=true:=by rw[←hZ];exact MC _ rfl
 rw[hZ] at zv
 obtain⟨r0,hr0⟩:∃ r,RS.mk b 0=r:=⟨_,rfl⟩
 obtain⟨x1,hx1⟩:∃ x,(r0.count 9007199254740991).1=x:=⟨_,rfl⟩
 obtain⟨r1,hr1⟩:∃ x,(r0.count 9007199254740991).2=x:=⟨_,rfl⟩
 have S1:V5 ((r1.l≠[]→r0.l≠[])∧r1.l.length≤r0.l.length):=U0 (by rw[←hr1];exact⟨W9,RS.count_short _ _⟩)
 obtain⟨x2,hx2⟩:∃ x,(r1.num 1).1=x:=⟨_,rfl⟩
 obtain⟨r2,hr2⟩:∃ x,(r1.num 1).2=x:=⟨_,rfl⟩
 have S2:V5 ((r2.l≠[]→r1.l≠[])∧r2.l.length≤r1.l.length):=U0 (by rw[←hr2];exact⟨nA,U9 _ _⟩)
 obtain⟨x3,hx3⟩:∃ x,(r2.num 1).1=x:=⟨_,rfl⟩
 obtain⟨r3,hr3⟩:∃ x,(r2.num 1).2=x:=⟨_,rfl⟩
 have S3:V5 ((r3.l≠[]→r2.l≠[])∧r3.l.length≤r2.l.length):=U0 (by rw[←hr3];exact⟨nA,U9 _ _⟩)
 have hx3r:0≤x3∧x3≤255:=by rw[←hx3];exact bD _
 obtain⟨K,hK⟩:∃ K,nV x3=K:=⟨_,rfl⟩
 have hK5:K≤5:=by rw[←hK];unfold nV;split<;>omega
 have e1:WQ ⟨b,0⟩=r1:=by unfold WQ;rw[hr0];exact hr1
 have e2:XQ ⟨b,0⟩=r2:=by unfold XQ;rw[e1];exact hr2
 have e3:YQ ⟨b,0⟩=r3:=by unfold YQ;rw[e2];exact hr3
 have en:XW ⟨b,0⟩=K:=by unfold XW;rw[e2,hx3];exact hK
 have eq:OO ⟨b,0⟩=⟨x1,x2,(jE K r3).1⟩:=by unfold OO;rw[e1,e3,en,hr0,hx1,hx2]
 have ee:xI ⟨b,0⟩=(jE K r3).2:=by unfold xI;rw[e3,en]
 have HE:=U0 (show dA b=(eL (zA (jE K r3).2.end_ (CF.ok ⟨x1,x2,(jE K r3).1⟩)) ⟨x1,x2,(jE K r3).1⟩ V7,zA (jE K r3).2.end_ (CF.ok ⟨x1,x2,(jE K r3).1⟩)) by unfold dA;rw[eq,ee])
 have hrl:r0.l.length≤1000000:=by rw[←hr0];exact hb
 have HX:=U0 (U2 hr0 (U2 hrl (U2 (U2 hx1 hr1) (U2 (U2 hx2 hr2) (U2 (U2 hx3 hr3) hK)))))
 have HV:=U0 (U2 h hb)
 have HZ:=U0 (U2 zv (U2 zl (U2 zo (U2 hZ hZ0))))
 clear e1 e2 e3 en eq ee h hb zv zl zo hZ hZ0 hrl hr0 hx1 hr1 hx2 hr2 hx3 hr3 hK
 have kA:=(U1.refl [] w).alloc (.cells Z.toArray 31)
 have rA:=l5.new w 31 Z.toArray
 obtain⟨wA,hwA⟩:∃ wA,w.alloc (.cells Z.toArray 31)=wA:=⟨_,rfl⟩
 rw[hwA] at kA rA
 have HA:=U0 (U2 hwA (U2 kA (U2 rA (HV.o.1.keep kA (by simp)))))
 clear kA rA hwA
 go_enter func34,ntmps34
 go_upto_region 2 with (first
  |(with_reducible refine F5 _ _ rfl 31 rfl _ HZ.o.1 HA.o.1 ?_)
  |(go_at_call 93;refine (MF F b v _ HA.o.2.2.2 HV.o.2).mono ?_;rintro e w1 ⟨p,g,rfl,d1,d2,d3,d4⟩;rw[HX.o.1] at d1;have D1:=U0 (U2 d1 (U2 d2 (U2 d3 d4)));clear d1 d2 d3 d4))
 have P0:V5 (dJ w (w1.alloc (.cells Z.toArray 31)) p g w1.heap.size r0 31 (bA ⟨0,0,[]⟩ I4) Z):=U0 (by
  have kB:=(U1.refl [] w1).alloc (.cells Z.toArray 31)
  have h1:=HA.o.2.2.1.lt
  have h2:=D1.o.1.lt
  have h3:=D1.o.2.1
  have h4:=HA.o.2.1.size
  refine⟨D1.o.1.keep kB (by simp) (by simp),by omega,h2,fun hne=>⟨?_,D1.o.1.gl hne⟩,HX.o.2.1,?_,kB.row (D1.o.2.2.2.row HA.o.2.2.1 (by simp)) (by simp),(HA.o.2.1.then D1.o.2.2.2 (by simp)).then kB (by simp)⟩
  ·have:=D1.o.2.2.1 (by rw[show b=r0.l by rw[←HX.o.1]];exact hne);omega
  ·rw[←HZ.o.2.2.2.2];exact l5.new _ _ _)
 go_upto_region 3 with (first
  |(with_reducible refine F5 _ _ rfl 31 rfl _ HZ.o.1 rfl ?_))
 obtain⟨tb,htb⟩:∃ tb,w1.heap.size=tb:=⟨_,rfl⟩
 obtain⟨v0,hv0⟩:∃ v0,w1.alloc (.cells Z.toArray 31)=v0:=⟨_,rfl⟩
 rw[htb,hv0] at P0
 rw[htb,hv0]
 clear htb hv0 D1
 go_upto_region 4 with (first
  |(go_at_call 102;refine (TC p g r0 9007199254740991 _ P0.o.rd).mono ?_;intro e u1 hq;unfold dC at hq;rw[HX.o.2.2.1.1,HX.o.2.2.1.2] at hq;obtain⟨rfl,hr,hk⟩:=hq;have Q:=U0 (P0.o.read hr hk S1.o.1 S1.o.2);have y:u1.cell? ⟨tb,0,none⟩=some (.int .i64 0):=(Q.o.row.cell 0).trans rfl;have y2:=Q.o.row.free 0;clear hr hk))
 have P1:=U0 (Q.o.set 0 (.int .i64 x1) (L':=bA ⟨x1,0,[]⟩ I4) (by simp[bA]))
 obtain⟨v1,hv⟩:∃ v,u1.setCell ⟨tb,0,none⟩ (.int .i64 x1)=v:=⟨_,rfl⟩
 rw[hv] at P1 ⊢
 clear hv y y2 Q P0 S1
 go_upto_region 5 with (first
  |(go_at_call 94;refine (OC p g r1 1 _ P1.o.rd).mono ?_;intro e u2 hq;unfold FC at hq;rw[HX.o.2.2.2.1.1,HX.o.2.2.2.1.2] at hq;obtain⟨rfl,hr,hk⟩:=hq;have Q:=U0 (P1.o.read hr hk S2.o.1 S2.o.2);have y:u2.cell? ⟨tb,1,none⟩=some (.int .i64 0):=(Q.o.row.cell 1).trans rfl;have y2:=Q.o.row.free 1;clear hr hk))
 have P2:=U0 (Q.o.set 1 (.int .i64 x2) (L':=bA ⟨x1,x2,[]⟩ I4) (by simp[bA]))
 obtain⟨v2,hv⟩:∃ v,u2.setCell ⟨tb,1,none⟩ (.int .i64 x2)=v:=⟨_,rfl⟩
 rw[hv] at P2 ⊢
 clear hv y y2 Q P1 S2
 go_cut [16,17] (fun v16 v17 wx=>v16= .int .i64 (K:Int)∧v17= .int .i64 0∧dJ w wx p g tb r3 31 (bA ⟨x1,x2,[]⟩ I4) Z)
 case first=>
  have hcs:(x3≤5∧x3=(K:Int))∨(¬x3≤5∧5=(K:Int)):=by
   have hk:=HX.o.2.2.2.2.2
   unfold nV at hk
   split at hk<;>omega
  rcases hcs with⟨h5,hxk⟩|⟨h5,hxk⟩
  all_goals
   have HXK:=U0 hxk
   clear hxk
   go_wp2_with (first
    |(go_at_call 94;refine (OC p g r2 1 _ P2.o.rd).mono ?_;intro e u3 hq;unfold FC at hq;rw[HX.o.2.2.2.2.1.1,HX.o.2.2.2.2.1.2] at hq;obtain⟨rfl,hr,hk⟩:=hq;have Q:=U0 (P2.o.read hr hk S3.o.1 S3.o.2);clear hr hk))
   go_meet
   exact⟨by rw[←HXK.o],rfl,Q.o⟩
 case rest=>
  obtain⟨rfl,rfl,P3⟩:=hcut
  generalize wc=v3 at*
  have P3:=U0 P3
  obtain⟨i0,hi0,hz0,hz1,hz2⟩:=info_parts OJ
  have HI:=U0 (U2 hi0 (U2 hz0 (U2 hz1 hz2)))
  clear hi0 hz0 hz1 hz2
  go_wp2_with fail
  go_loopw [17] (fun v17 wx=>∃ i:Nat,i≤K∧v17= .int .i64 (i:Int)∧mV w wx p g tb r3 x1 x2 Z i) (fun v17 _=>K-(intOf v17).toNat)
  case atStart=>exact⟨0,by omega,rfl,none,0,P3.o,qA.nil _ _ _,by simp[d9]⟩
  case round=>
   obtain⟨i,hi,rfl,A,c,hP,hO,hH⟩:=hrel
   by_cases hlt:i<K
   ·have hlt':(i:Int)<(K:Int):=by omega
    have hn0:(0:Int)≤(i:Int):=by omega
    have hw1:IntKind.i64.wrap ((i:Int)+1)=(i:Int)+1:=Z8 _ (by omega) (by omega)
    have c2:wr.drew.cell? ⟨tb,2,none⟩=some (.slice A i c):=(hP.row.cell 2).trans rfl
    have hPd:dJ w wr.drew p g tb (jE i r3).2 31 (bA ⟨x1,x2,[]⟩ (.slice A i c)) Z:=hP.over ((U1.refl [] wr).drew)
    obtain⟨y,hy⟩:∃ y,((jE i r3).2.num 1).1=y:=⟨_,rfl⟩
    have HP:=U0 (U2 hPd (U2 (hO.keep ((U1.refl [] wr).drew) (by simp)) (U2 hH hy)))
    clear hP hO hH hPd hy
    go_upto_region 7 with fail
    go_region_law (first
     |(go_simp;go_at_call 94;refine (OC p g _ 1 _ HP.o.1.rd).mono ?_;intro e u4 hq;unfold FC at hq;rw[HP.o.2.2.2] at hq;obtain⟨rfl,hr,hk⟩:=hq;have Q:=U0 (HP.o.1.read hr hk nA (U9 _ _));have O4:=U0 (HP.o.2.1.keep hk (fun x hx=>by have:=HP.o.2.2.1 x hx;have:=Q.o.hi;simp;omega));have c3:u4.cell? ⟨tb,2,none⟩=some (.slice A i c):=(Q.o.row.cell 2).trans rfl;have c3a:(u4.alloc (.cells #[.int .i64 y] 3)).cell? ⟨tb,2,none⟩=some (.slice A i c):=(((U1.refl [] u4).alloc (.cells #[.int .i64 y] 3)).cell (p:=⟨tb,2,none⟩) Q.o.row.lt (by simp)).trans c3;have Q5:=U0 (Q.o.over ((U1.refl [] u4).alloc (.cells #[.int .i64 y] 3)));have O5:=U0 (O4.o.keep ((U1.refl [] u4).alloc (.cells #[.int .i64 y] 3)) (by simp));clear hr hk)
     |(refine oC _ rfl (.tmp 20) (.tmp 23) 29 rfl 3 i0 (.int .i64 0) 1 8 underlying29 HI.o.1 HI.o.2.1 HI.o.2.2.1 HI.o.2.2.2 rfl (by decide) (.slice A i c) i ((jE i r3).1.map (Value.int .i64)) rfl O5.o (some ⟨u4.heap.size,0,none⟩) u4.heap.size 1 1 [.int .i64 y] rfl (qE u4 3 (.int .i64 y)) (by intro u hu;simp at hu;subst hu;rfl) (by omega) (by unfold maxLen;omega) ?_;intro A6 c6 w6 hown6 hkb6 hloc6;have c4:w6.cell? ⟨tb,2,none⟩=some (.slice A i c):=(hkb6.cell (p:=⟨tb,2,none⟩) Q5.o.row.lt (fun hm=>Nat.lt_irrefl _ (HP.o.2.2.1 _ hm))).trans c3a;have f4:=(hkb6.row Q5.o.row (fun hm=>Nat.lt_irrefl _ (HP.o.2.2.1 _ hm))).free 2))
    all_goals
     have HT:=U0 (mV.step Q5.o HP.o.2.2.1 hkb6 hown6 HP.o.2.2.2 hloc6)
     clear hkb6 hown6 hloc6 c2 c3 c3a c4 f4
     go_wp2_with fail
     go_roundw
     case rel=>exact⟨i+1,by omega,by go_num,HT.o⟩
     case measure=>simp[intOf];omega
   ·obtain rfl:i=K:=by omega
    have hiv:F8 wr (Z6 (.slice A i c)) (.slice A i c) (jE i r3).1:=by
     obtain⟨A3,c3,e3,h31,h32,h33,h34⟩:=hO.form
     injection e3 with e3a e3b e3c
     subst e3a e3c
     obtain⟨g3,hg3⟩:=EA (.slice A i c)
     have hl:=YH i r3
     refine⟨A,c,g3,by rw[hl],by rw[hl];exact h31,h32,by rw[hl];exact h34 g3 hg3,fun hne=> ?_⟩
     obtain⟨o,hA,_⟩:=(h34 g3 hg3).2 (by have:=List.length_pos_iff.2 hne;omega)
     rw[hA];simp[V8]
    have HQ:=U0 (U2 hiv (U2 hH (fun y hy=>hO.lt y hy)))
    have P6:=U0 hP
    clear hiv hP hO hH
    have hxo:∀ u∈bA ⟨x1,x2,(jE i r3).1⟩ (.slice A i c),u.oneCell'=true:=MC _ rfl
    obtain⟨XE,hXE⟩:∃ XE,zA (jE i r3).2.end_ (CF.ok ⟨x1,x2,(jE i r3).1⟩)=XE:=⟨_,rfl⟩
    obtain⟨XL,hXL⟩:∃ XL,eL XE (bA ⟨x1,x2,(jE i r3).1⟩ (.slice A i c)) Z=XL:=⟨_,rfl⟩
    have hLl:XL.length=3:=by rw[←hXL];unfold eL;split;rfl;exact HZ.o.2.1
    have hLo:∀ u∈XL,u.oneCell'=true:=by rw[←hXL];unfold eL;split;exact hxo;exact HZ.o.2.2.1
    have HXL:=U0 (U2 hXL hXE)
    have HL:=U0 (U2 hLl hLo)
    clear hxo hXL hXE hLl hLo
    have rs:∀ wx,l5 wx w.heap.size 31 Z.toArray→l5 (wx.setCells w.heap.size 0 XL) w.heap.size 31 XL.toArray:=fun wx hh=>by
     have:=hh.setL (vs:=XL) (o:=0)
     rw[F7 (by rw[U4,HL.o.1,HZ.o.2.1])] at this
     exact this
    have ht:∀ wx,l5 wx w.heap.size 31 Z.toArray→wx.there w.heap.size 0 XL.toArray.size:=fun wx hh=>hh.there (by simp only[U4];have h1:=HL.o.1;have h2:=HZ.o.2.1;omega)
    have hJ:(prog.info? 31).map (·.size)=some XL.toArray.size:=by rw[U4,HL.o.1];exact S9
    have HS:=U0 (U2 rs (U2 ht hJ))
    have HO2:=U0 (all_oneCell_toArray HL.o.2)
    clear rs ht hJ
    go_wp2_with (first
     |(refine wpList_load_mid rfl 31 (.tmp 5) rfl tb 0 rfl _ _ P6.o.row.rangeAll underlying31 rfl S9 ?_)
     |(go_at_call 112;refine (yK (Z6 (.slice A i c)) p g (jE i r3).2 ⟨x1,x2,(jE i r3).1⟩ (.slice A i c) _ P6.o.rd HQ.o.1).mono ?_;rintro e w9 ⟨rfl,k9⟩;rw[HXL.o.2,HZ.o.2.2.2.1,HXL.o.1];have P9:=U0 (P6.o.over k9);have K9:=U0 k9;clear k9)
     |(refine wpList_store_mid rfl 31 (.tmp 2) (.tmp 30) rfl w.heap.size 0 XL.toArray rfl rfl (HS.o.2.1 _ P9.o.res) HS.o.2.2 HO2.o ?_))
    refine bodyPost_ret (U5 rfl _ _ w.heap.size 31 _ (0,0) _ rfl (HS.o.1 _ P9.o.res) underlying31 rfl HS.o.2.2) rfl ?_
    have ks:=(U1.refl [w.heap.size] w9).setL (vs:=XL) (g:=w.heap.size) (o:=0) (by simp)
    have hlo:=P9.o.lo
    have hhi:=P9.o.hi
    refine⟨eL XE (.slice A i c) I4,Z6 (.slice A i c),?_,?_,fun y hy=>⟨?_,?_⟩,P9.o.kp.setL (.inr (Nat.le_refl _))⟩
    ·have h1:XL=bA (eL XE ⟨x1,x2,(jE i r3).1⟩ V7) (eL XE (.slice A i c) I4):=by rw[←HXL.o.1,←HZ.o.2.2.2.1];exact cfL_eL XE _ _
     rw[HE.o,HXL.o.2,←h1]
     rfl
    ·rw[HE.o,HXL.o.2]
     exact eL_cfV ((HQ.o.1.keep K9.o (by simp)).keep ks (fun y hy=>by have:=HQ.o.2.1 y hy;simp;omega))
    ·have:=HQ.o.2.1 y hy;omega
    ·have h1:=HQ.o.2.2 y hy;have h2:=K9.o.size;have h3:=ks.size;omega
end Go.Proofs.YthfdkonhjpdflaaGreatDoor
