import Derived.Test.YthfdkonhjpdflaaGreatDoorGR2
import Derived.Test.YthfdkonhjpdflaaGreatDoorRCB
namespace Go.Proofs.YthfdkonhjpdflaaGreatDoor
open Go.RowKit Go.Proofs.Tryz
set_option linter.unusedVariables false
set_option maxRecDepth 100000
set_option linter.unusedSimpArgs false
set_option maxHeartbeats 16000000
theorem YD.far {w0 w w':World} {p g tb:Nat} {r:RS} {T:TypeId} {L Z:List Value} {S:List Nat} (h:YD w0 w p g tb r T L Z) (hk:U1 S w w') (hS:∀ x∈S,tb<x):YD w0 w' p g tb r T L Z:=
 ⟨h.rd.keep hk (fun hm=>by have:=hS p hm;have:=h.hi;omega) (fun hne hm=>by have:=hS g hm;have:=h.gl hne;omega),h.lo,h.hi,h.gl,h.len,hk.row h.row (fun hm=>by have:=hS tb hm;omega),hk.row h.res (fun hm=>by have:=hS _ hm;have:=h.lo;have:=h.hi;omega),h.kp.then hk (fun x hx=> .inr (by have:=hS x hx;have:=h.lo;have:=h.hi;omega))⟩
def YP (w0 w:World) (p g tb:Nat) (r:RS) (nm fl:Int) (Z:List Value) (i:Nat):Prop:=
 ∃ A c,YD w0 w p g tb (jE i r).2 31 (bA ⟨nm,fl,[]⟩ (.slice A i c)) Z∧qA w 3 1 (.slice A i c) i ((jE i r).1.map (Value.int .i64))∧∀ y∈Z6 (.slice A i c),tb<y
theorem YP.step {w0 w5 w6:World} {p g tb i c c6:Nat} {A A6:Option Addr} {r:RS} {nm fl y:Int} {Z:List Value} (h5:YD w0 w5 p g tb ((jE i r).2.num 1).2 31 (bA ⟨nm,fl,[]⟩ (.slice A i c)) Z) (hH:∀ x∈Z6 (.slice A i c),tb<x)
 (k6:U1 (Z6 (.slice A i c)) w5 w6) (ho:qA w6 3 1 (.slice A6 (i+1) c6) (i+1) ((jE i r).1.map (Value.int .i64)++[.int .i64 y])) (hy:((jE i r).2.num 1).1=y) (hl:∀ x∈Z6 (.slice A6 (i+1) c6),x∈Z6 (.slice A i c)∨w5.heap.size≤x):
 YP w0 (w6.setCell ⟨tb,2,none⟩ (.slice A6 (i+1) c6)) p g tb r nm fl Z (i+1):=by
 have h6:=h5.far k6 hH
 have hgt:∀ x∈Z6 (.slice A6 (i+1) c6),tb<x:=fun x hx=>by
  rcases hl x hx with h|h
  ·exact hH x h
  ·have:=h5.row.lt;omega
 refine⟨A6,c6,h6.set 2 _ (by simp[bA]),?_,hgt⟩
 have e:(jE (i+1) r).1.map (Value.int .i64)=(jE i r).1.map (Value.int .i64)++[.int .i64 y]:=by rw[jE,List.map_append,hy];rfl
 rw[e]
 exact ho.keep (xC w6 tb 2 _) (fun x hx=>by have:=hgt x hx;simp;omega)
theorem OQ (x1 x2:Int):prog.built 31 [(0,.int .i64 x1),(1,.int .i64 x2)]=some (bA ⟨x1,x2,[]⟩ I4).toArray:=by kernel_rfl
theorem zO:prog.built 31 []=some (bA V7 I4).toArray:=by kernel_rfl
theorem lF (F:List Nat) (b:List UInt8) (v:Value) (w:World) (h:G7 w F v b) (hb:b.length≤1000000):
 Calls prog 35 #[v] w fun e w'=>∃ ev G,e= .returned (.tuple #[.agg (bA (dA b).1 ev).toArray,.int .i64 (dA b).2])∧F8 w' G ev (dA b).1.chain∧I9 w w' G∧U1 [] w w':=by
 obtain⟨Z,hZ⟩:∃ Z,bA V7 I4=Z:=⟨_,rfl⟩
 have zv:=kJ
 have zl:Z.length=3:=by rw[←hZ];rfl
 have zo:∀ u∈Z,u.oneCell'=true:=by rw[←hZ];exact MC _ rfl
 have b0:=zO
 rw[hZ] at zv b0
 obtain⟨r0,hr0⟩:∃ r,RS.mk b 0=r:=⟨_,rfl⟩
 obtain⟨x1,hx1⟩:∃ x,(r0.count 9007199254740991).1=x:=⟨_,rfl⟩
 obtain⟨r1,hr1⟩:∃ x,(r0.count 9007199254740991).2=x:=⟨_,rfl⟩
 have S1:V5 ((r1.l≠[]→r0.l≠[])∧r1.l.length≤r0.l.length):=U0 (by rw[←hr1];exact⟨W9,RS.count_short _ _⟩)
 obtain⟨x2,hx2⟩:∃ x,(r1.num 1).1=x:=⟨_,rfl⟩
 obtain⟨r2,hr2⟩:∃ x,(r1.num 1).2=x:=⟨_,rfl⟩
 have S2:V5 ((r2.l≠[]→r1.l≠[])∧r2.l.length≤r1.l.length):=U0 (by rw[←hr2];exact⟨nA,U9 _ _⟩)
 obtain⟨x3,hx3⟩:∃ x,(r2.num 1).1=x:=⟨_,rfl⟩
 obtain⟨r3,hr3⟩:∃ x,(r2.num 1).2=x:=⟨_,rfl⟩
 have S3:V5 ((r3.l≠[]→r2.l≠[])∧r3.l.length≤r2.l.length):=U0 (by rw[←hr3];exact⟨nA,U9 _ _⟩)
 have hx3r:0≤x3∧x3≤255:=by rw[←hx3];exact bD _
 obtain⟨K,hK⟩:∃ K,nV x3=K:=⟨_,rfl⟩
 have hK5:K≤5:=by rw[←hK];unfold nV;split<;>omega
 have e1:WQ ⟨b,0⟩=r1:=by unfold WQ;rw[hr0];exact hr1
 have e2:XQ ⟨b,0⟩=r2:=by unfold XQ;rw[e1];exact hr2
 have e3:YQ ⟨b,0⟩=r3:=by unfold YQ;rw[e2];exact hr3
 have en:XW ⟨b,0⟩=K:=by unfold XW;rw[e2,hx3];exact hK
 have eq:OO ⟨b,0⟩=⟨x1,x2,(jE K r3).1⟩:=by unfold OO;rw[e1,e3,en,hr0,hx1,hx2]
 have ee:xI ⟨b,0⟩=(jE K r3).2:=by unfold xI;rw[e3,en]
 have HE:=U0 (show dA b=(eL (zA (jE K r3).2.end_ (CF.ok ⟨x1,x2,(jE K r3).1⟩)) ⟨x1,x2,(jE K r3).1⟩ V7,zA (jE K r3).2.end_ (CF.ok ⟨x1,x2,(jE K r3).1⟩)) by unfold dA;rw[eq,ee])
 have hrl:r0.l.length≤1000000:=by rw[←hr0];exact hb
 have X1:=U0 (U2 hx1 hr1)
 have X2:=U0 (U2 hx2 hr2)
 have X3:=U0 (U2 hx3 hr3)
 have hKn:∀ i:Nat,(i<K→(i:Int)<x3∧(i:Int)<5)∧(i=K→ ¬(i:Int)<x3∨(i:Int)<x3∧ ¬(i:Int)<5):=by
  intro i
  unfold nV at hK
  split at hK<;>omega
 have HK:=U0 (U2 hKn hK5)
 have HZ:=U0 (U2 zv (U2 zl (U2 zo (U2 hZ (U2 b0 (U2 (all_oneCell_toArray zo) (show (prog.info? 31).map (·.size)=some Z.toArray.size by rw[U4,zl];exact S9)))))))
 clear e1 e2 e3 en eq ee zv zl zo b0 hx1 hr1 hx2 hr2 hx3 hr3 hK hKn hK5 hx3r
 have kA:=(U1.refl [] w).alloc (.cells Z.toArray 31)
 have rA:=l5.new w 31 Z.toArray
 obtain⟨wA,hwA⟩:∃ wA,w.alloc (.cells Z.toArray 31)=wA:=⟨_,rfl⟩
 rw[hwA] at kA rA
 have hA:=h.keep kA (by simp)
 obtain⟨A0,c0,g0,rfl,h2,h3,h4,h5⟩:=hA
 have HA:=U0 (U2 hwA (U2 kA (U2 rA (U2 h4 (U2 hb (U2 hr0 (U2 hrl hZ)))))))
 clear kA rA hwA h2 h3 h4 h5 h hb hr0 hrl hZ
 go_enter func35,ntmps35
 go_upto_region 2 with (first
  |(with_reducible refine F5 _ _ rfl 31 rfl _ HZ.o.1 HA.o.1 ?_)
  |(go_at_call 98;refine (bH A0 g0 c0 b.length b _ rfl HA.o.2.2.2.1 (by have:=HA.o.2.2.2.2.1;omega)).mono ?_;rintro e w1 ⟨p,g,rfl,d1,d2,d3,d4⟩;rw[HA.o.2.2.2.2.2.1] at d1;have P0:V5 (YN w w1 p g r0 31 Z):=U0 ⟨d1,by have:=HA.o.2.2.1.lt;omega,fun hne=>by have:=d3 (by rw[show b=r0.l by rw[←HA.o.2.2.2.2.2.1]];exact hne);have:=HA.o.2.2.1.lt;omega,HA.o.2.2.2.2.2.2.1,d4.row HA.o.2.2.1 (by simp),HA.o.2.1.then d4 (by simp)⟩;clear d1 d2 d3 d4))
 go_upto_region 3 with (first
  |(go_at_call 107;with_reducible refine Calls.mono (vB p g r0 9007199254740991 _ P0.o.rd (by have:=P0.o.len;omega)) ?_;intro e u1 hq;unfold jB at hq;rw[X1.o.1,X1.o.2] at hq;obtain⟨rfl,hr,hk⟩:=hq;have P1:=U0 (P0.o.read hr hk S1.o.1 S1.o.2);clear hr hk)
  |(go_at_call 106;with_reducible refine Calls.mono (jC p g r1 1 _ P1.o.rd (by have:=P1.o.len;omega)) ?_;intro e u2 hq;unfold ZB at hq;rw[X2.o.1,X2.o.2] at hq;obtain⟨rfl,hr,hk⟩:=hq;have P2:=U0 (P1.o.read hr hk S2.o.1 S2.o.2);clear hr hk;obtain⟨tb,htb⟩:∃ b,u2.heap.size=b:=⟨_,rfl⟩;obtain⟨uB,huB⟩:∃ W,u2.alloc (.cells Z.toArray 31)=W:=⟨_,rfl⟩;have PB:V5 (YD w uB p g tb r2 31 Z Z):=U0 (by rw[←huB,←htb];exact P2.o.box Z);have HB:=U0 (U2 huB htb);clear huB htb;(try dsimp only);rename_i hK;refine hK _ _ ?_;clear hK;refine LA _ rfl 31 _ rfl (bA ⟨x1,x2,[]⟩ I4).toArray (by simp only[List.map_toArray,List.map_cons,List.map_nil];go_simp;exact OQ x1 x2) ?_)
  |(with_reducible refine F5 _ _ rfl 31 rfl _ HZ.o.1 HB.o.1 ?_;rw[HB.o.2])
  |(refine wpList_store_mid rfl 31 (.tmp 5) (.tmp 14) rfl tb 0 (bA ⟨x1,x2,[]⟩ I4).toArray rfl rfl (PB.o.row.there (by rw[U4,U4,HZ.o.2.1];exact Nat.le_refl _)) S9 (all_oneCell_toArray (MC _ rfl)) ?_))
 have PC:V5 (YD w (uB.setCells tb 0 (bA ⟨x1,x2,[]⟩ I4)) p g tb r2 31 (bA ⟨x1,x2,[]⟩ I4) Z):=U0 (PB.o.setL 0 (bA ⟨x1,x2,[]⟩ I4) (F7 (by rw[U4,HZ.o.2.1];rfl)))
 obtain⟨uC,huC⟩:∃ W,uB.setCells tb 0 (bA ⟨x1,x2,[]⟩ I4)=W:=⟨_,rfl⟩
 rw[huC] at PC
 rw[huC]
 simp only[Act.put]
 clear huC PB HB P0 P1 P2 S1 S2 X1 X2
 obtain⟨i0,hi0,hz0,hz1,hz2⟩:=info_parts OJ
 have HI:=U0 (U2 hi0 (U2 hz0 (U2 hz1 hz2)))
 clear hi0 hz0 hz1 hz2
 go_wp2_with (first
  |(go_at_call 106;refine (jC p g r2 1 _ PC.o.rd (by have:=PC.o.len;omega)).mono ?_;intro e u3 hq;unfold ZB at hq;rw[X3.o.1,X3.o.2] at hq;obtain⟨rfl,hr,hk⟩:=hq;have P3:=U0 (PC.o.read hr hk S3.o.1 S3.o.2);clear hr hk))
 clear PC S3 X3
 go_loopw [7] (fun v7 wx=>∃ i:Nat,i≤K∧v7= .int .i64 (i:Int)∧YP w wx p g tb r3 x1 x2 Z i) (fun v7 _=>K-(intOf v7).toNat)
 case atStart=>exact⟨0,by omega,rfl,none,0,P3.o,qA.nil _ _ _,by simp[d9]⟩
 case round=>
  obtain⟨i,hi,rfl,A,c,hP,hO,hH⟩:=hrel
  by_cases hlt:i<K
  ·have⟨hlt1,hlt2⟩:=(HK.o.1 i).1 hlt
   have hn0:(0:Int)≤(i:Int):=by omega
   have hw1:IntKind.i64.wrap ((i:Int)+1)=(i:Int)+1:=Z8 _ (by omega) (by omega)
   have c2:wr.drew.cell? ⟨tb,2,none⟩=some (.slice A i c):=(hP.row.cell 2).trans rfl
   have hPd:YD w wr.drew p g tb (jE i r3).2 31 (bA ⟨x1,x2,[]⟩ (.slice A i c)) Z:=hP.over ((U1.refl [] wr).drew)
   obtain⟨y,hy⟩:∃ y,((jE i r3).2.num 1).1=y:=⟨_,rfl⟩
   have HP:=U0 (U2 hPd (U2 (hO.keep ((U1.refl [] wr).drew) (by simp)) (U2 hH hy)))
   clear hP hO hH hPd hy
   go_upto_region 7 with fail
   go_region_law (first
    |(go_simp;go_at_call 106;refine (jC p g _ 1 _ HP.o.1.rd (by have:=HP.o.1.len;omega)).mono ?_;intro e u4 hq;unfold ZB at hq;rw[HP.o.2.2.2] at hq;obtain⟨rfl,hr,hk⟩:=hq;have Q:=U0 (HP.o.1.read hr hk nA (U9 _ _));have O4:=U0 (HP.o.2.1.keep hk (fun x hx=>by have:=HP.o.2.2.1 x hx;have:=Q.o.hi;simp;omega));have c3:u4.cell? ⟨tb,2,none⟩=some (.slice A i c):=(Q.o.row.cell 2).trans rfl;have c3a:(u4.alloc (.cells #[.int .i64 y] 3)).cell? ⟨tb,2,none⟩=some (.slice A i c):=(((U1.refl [] u4).alloc (.cells #[.int .i64 y] 3)).cell (p:=⟨tb,2,none⟩) Q.o.row.lt (by simp)).trans c3;have Q5:=U0 (Q.o.over ((U1.refl [] u4).alloc (.cells #[.int .i64 y] 3)));have O5:=U0 (O4.o.keep ((U1.refl [] u4).alloc (.cells #[.int .i64 y] 3)) (by simp));clear hr hk)
    |(refine oC _ rfl (.tmp 27) (.tmp 30) 29 rfl 3 i0 (.int .i64 0) 1 8 underlying29 HI.o.1 HI.o.2.1 HI.o.2.2.1 HI.o.2.2.2 rfl (by decide) (.slice A i c) i ((jE i r3).1.map (Value.int .i64)) rfl O5.o (some ⟨u4.heap.size,0,none⟩) u4.heap.size 1 1 [.int .i64 y] rfl (qE u4 3 (.int .i64 y)) (by intro u hu;simp at hu;subst hu;rfl) (by omega) (by unfold maxLen;omega) ?_;intro A6 c6 w6 hown6 hkb6 hloc6;have c4:w6.cell? ⟨tb,2,none⟩=some (.slice A i c):=(hkb6.cell (p:=⟨tb,2,none⟩) Q5.o.row.lt (fun hm=>Nat.lt_irrefl _ (HP.o.2.2.1 _ hm))).trans c3a;have f4:=(hkb6.row Q5.o.row (fun hm=>Nat.lt_irrefl _ (HP.o.2.2.1 _ hm))).free 2))
   all_goals
    have HT:=U0 (YP.step Q5.o HP.o.2.2.1 hkb6 hown6 HP.o.2.2.2 hloc6)
    clear hkb6 hown6 hloc6 c2 c3 c3a c4 f4
    go_wp2_with fail
    go_roundw
    case rel=>exact⟨i+1,by omega,by go_num,HT.o⟩
    case measure=>simp[intOf];omega
  ·obtain rfl:i=K:=by omega
   have hend:=(HK.o.1 i).2 rfl
   have hiv:F8 wr (Z6 (.slice A i c)) (.slice A i c) (jE i r3).1:=by
    obtain⟨A3,c3,e3,h31,h32,h33,h34⟩:=hO.form
    injection e3 with e3a e3b e3c
    subst e3a e3c
    obtain⟨g3,hg3⟩:=EA (.slice A i c)
    have hl:=YH i r3
    refine⟨A,c,g3,by rw[hl],by rw[hl];exact h31,h32,by rw[hl];exact h34 g3 hg3,fun hne=> ?_⟩
    obtain⟨o,hA,_⟩:=(h34 g3 hg3).2 (by have:=List.length_pos_iff.2 hne;omega)
    rw[hA];simp[V8]
   have B7:=U0 (U2 hH (fun y hy=>hO.lt y hy))
   have P6:=U0 hP
   clear hP hO hH
   obtain⟨q,hqq⟩:∃ q,CF.mk x1 x2 (jE i r3).1=q:=⟨_,rfl⟩
   obtain⟨L6,hL6⟩:∃ l,bA ⟨x1,x2,[]⟩ (.slice A i c)=l:=⟨_,rfl⟩
   have hq:V5 (F8 wr (Z6 (.slice A i c)) (.slice A i c) q.chain):=U0 (by rw[←hqq];exact hiv)
   have hLq:bA q (.slice A i c)=L6:=by rw[←hqq];exact hL6
   have HCk:V5 (Calls prog 83 #[.agg L6.toArray] wr fun e w'=>e= .returned (.int .i64 (O9 q.ok))∧U1 [] wr w'):=U0 (by rw[←hLq];exact eF (Z6 (.slice A i c)) q _ _ hq.o)
   have HY:V5 (L6.length=3∧(∀ u∈L6,u.oneCell'=true)∧(prog.info? 31).map (·.size)=some L6.length):=U0 (by rw[←hL6];exact⟨rfl,MC _ rfl,S9⟩)
   have HLq:=U0 hLq
   rw[hL6] at P6
   rw[hqq] at HE
   have HJ:(prog.info? 31).map (·.size)=some L6.toArray.size:=by rw[U4];exact HY.o.2.2
   have HO:=U0 (U2 HJ (all_oneCell_toArray HY.o.2.1))
   clear HJ hL6 hLq hqq hiv
   obtain⟨R,hR⟩:∃ R,(jE i r3).2=R:=⟨_,rfl⟩
   rw[hR] at P6 HE
   have bad:∀ (c1:Int) (wx:World),U1 [] wr wx→c1≠0→zA R.end_ q.ok=c1→∃ ev G,Ending.returned (.tuple #[.agg Z.toArray,.int .i64 c1])= .returned (.tuple #[.agg (bA (dA b).1 ev).toArray,.int .i64 (dA b).2])∧F8 (wx.setCells w.heap.size 0 Z) G ev (dA b).1.chain∧I9 w (wx.setCells w.heap.size 0 Z) G∧U1 [] w (wx.setCells w.heap.size 0 Z):=by
    intro c1 wx hk hc he
    rw[HE.o,he]
    unfold eL
    rw[if_neg hc]
    refine⟨I4,[],by rw[HA.o.2.2.2.2.2.2.2],F8.nil _ _,by simp[I9],(P6.o.kp.then hk (by simp)).setL (.inr (Nat.le_refl _))⟩
   have rsZ:∀ wx,l5 wx w.heap.size 31 Z.toArray→l5 (wx.setCells w.heap.size 0 Z) w.heap.size 31 Z.toArray:=fun wx hh=>by
    have:=hh.setL (vs:=Z) (o:=0)
    rw[F7 (by rw[U4])] at this
    exact this
   have rsL:∀ wx,l5 wx w.heap.size 31 Z.toArray→l5 (wx.setCells w.heap.size 0 L6) w.heap.size 31 L6.toArray:=fun wx hh=>by
    have:=hh.setL (vs:=L6) (o:=0)
    rw[F7 (by rw[U4,HY.o.1,HZ.o.2.1])] at this
    exact this
   have HR:=U0 (U2 rsZ (U2 rsL bad))
   clear rsZ rsL bad hR
   have hb0:∀ w,(Instr.build 31 #[]).run prog w= .ok (.agg Z.toArray) w:=fun w=>run_build w 31 #[] _ HZ.o.2.2.2.2.1
   by_cases he:R.e=0
   ·have he':(R.e !=0)=false:=by simp[he]
    by_cases hl:R.end_=0
    ·have hl':(R.end_ !=0)=false:=by simp[hl]
     cases hok:q.ok
     ·have HP:=U0 (show zA R.end_ q.ok=4 by rw[hl,hok];rfl)
      have HK2:=U0 hok
      clear he hl hok
      rcases hend with hc1|⟨hc1,hc2⟩
      all_goals
       go_wp2_with (first
        |(go_at_call 110;refine (p8 p g R _ P6.o.rd).mono ?_;rintro e wy ⟨rfl,rfl⟩)
        |(go_at_call 101;refine (SC p g R _ P6.o.rd).mono ?_;rintro e wy ⟨rfl,rfl⟩)
        |(refine j5 31 (.tmp 5) rfl tb 0 rfl _ _ P6.o.row.rangeAll underlying31 rfl HY.o.2.2 ?_ ?_;·rfl)
        |(go_at_call 83;refine HCk.o.mono ?_;rintro e w9 ⟨rfl,k9⟩;rw[HK2.o];have P9:=U0 (P6.o.over k9);have K9:=U0 k9;clear k9)
        |(refine wpList_store_mid rfl 31 (.tmp 2) (.tmp 47) rfl w.heap.size 0 Z.toArray rfl (by rw[←HA.o.2.2.2.2.2.2.2];rfl) (P9.o.res.there (by omega)) HZ.o.2.2.2.2.2.2 HZ.o.2.2.2.2.2.1 ?_))
       refine bodyPost_ret (U5 rfl _ _ w.heap.size 31 _ (0,0) _ rfl (HR.o.1 _ P9.o.res) underlying31 rfl HZ.o.2.2.2.2.2.2) rfl ?_
       exact HR.o.2.2 _ _ K9.o (by decide) HP.o
     ·have HP:=U0 (show zA R.end_ q.ok=0 by rw[hl,hok];rfl)
      have HK2:=U0 hok
      clear he hl hok
      rcases hend with hc1|⟨hc1,hc2⟩
      all_goals
       go_wp2_with (first
        |(go_at_call 110;refine (p8 p g R _ P6.o.rd).mono ?_;rintro e wy ⟨rfl,rfl⟩)
        |(go_at_call 101;refine (SC p g R _ P6.o.rd).mono ?_;rintro e wy ⟨rfl,rfl⟩)
        |(refine j5 31 (.tmp 5) rfl tb 0 rfl _ _ P6.o.row.rangeAll underlying31 rfl HY.o.2.2 ?_ ?_;·rfl)
        |(go_at_call 83;refine HCk.o.mono ?_;rintro e w9 ⟨rfl,k9⟩;rw[HK2.o];have P9:=U0 (P6.o.over k9);have K9:=U0 k9;clear k9)
        |(refine wpList_load_mid rfl 31 (.tmp 5) rfl tb 0 rfl _ _ P9.o.row.rangeAll underlying31 rfl HY.o.2.2 ?_)
        |(refine wpList_store_mid rfl 31 (.tmp 2) (.tmp 48) rfl w.heap.size 0 L6.toArray rfl rfl (P9.o.res.there (by rw[U4,U4,HY.o.1,HZ.o.2.1];exact Nat.le_refl _)) HO.o.1 HO.o.2 ?_))
       refine bodyPost_ret (U5 rfl _ _ w.heap.size 31 _ (0,0) _ rfl (HR.o.2.1 _ P9.o.res) underlying31 rfl HO.o.1) rfl ?_
       have ks:=(U1.refl [w.heap.size] w9).setL (vs:=L6) (g:=w.heap.size) (o:=0) (by simp)
       have hlo:=P9.o.lo
       have hhi:=P9.o.hi
       rw[HE.o,HP.o]
       refine⟨.slice A i c,Z6 (.slice A i c),by rw[←HLq.o];rfl,(hq.o.keep K9.o (by simp)).keep ks (fun y hy=>by have:=B7.o.1 y hy;simp;omega),fun y hy=>⟨by have:=B7.o.1 y hy;omega,?_⟩,P9.o.kp.setL (.inr (Nat.le_refl _))⟩
       have h1:=B7.o.2 y hy;have h2:=K9.o.size;have h3:=ks.size;omega
    ·have HP:=U0 (show zA R.end_ q.ok=4 by unfold zA;rw[if_neg hl];unfold RS.end_ at hl ⊢;rw[if_pos he] at hl ⊢;split at hl<;>simp_all)
     have hl':(R.end_ !=0)=true:=by simp[hl]
     clear he hl
     rcases hend with hc1|⟨hc1,hc2⟩
     all_goals
      go_wp2_with (first
       |(go_at_call 110;refine (p8 p g R _ P6.o.rd).mono ?_;rintro e wy ⟨rfl,rfl⟩)
       |(go_at_call 101;refine (SC p g R _ P6.o.rd).mono ?_;rintro e wy ⟨rfl,rfl⟩)
       |(refine wpList_store_mid rfl 31 (.tmp 2) (.tmp 47) rfl w.heap.size 0 Z.toArray rfl (by rw[←HA.o.2.2.2.2.2.2.2];rfl) (P6.o.res.there (by omega)) HZ.o.2.2.2.2.2.2 HZ.o.2.2.2.2.2.1 ?_))
      refine bodyPost_ret (U5 rfl _ _ w.heap.size 31 _ (0,0) _ rfl (HR.o.1 _ P6.o.res) underlying31 rfl HZ.o.2.2.2.2.2.2) rfl ?_
      exact HR.o.2.2 _ _ (U1.refl _ _) (by decide) HP.o
   ·have HP:=U0 (show zA R.end_ q.ok=R.e by unfold zA RS.end_;rw[if_neg he,if_neg he])
    have HC:=U0 he
    have he':(R.e !=0)=true:=by simp[he]
    clear he
    rcases hend with hc1|⟨hc1,hc2⟩
    all_goals
     go_wp2_with (first
      |(go_at_call 110;refine (p8 p g R _ P6.o.rd).mono ?_;rintro e wy ⟨rfl,rfl⟩)
      |(refine wpList_store_mid rfl 31 (.tmp 2) (.tmp 36) rfl w.heap.size 0 Z.toArray rfl (by rw[←HA.o.2.2.2.2.2.2.2];rfl) (P6.o.res.there (by omega)) HZ.o.2.2.2.2.2.2 HZ.o.2.2.2.2.2.1 ?_))
     refine bodyPost_ret (U5 rfl _ _ w.heap.size 31 _ (0,0) _ rfl (HR.o.1 _ P6.o.res) underlying31 rfl HZ.o.2.2.2.2.2.2) rfl ?_
     exact HR.o.2.2 _ _ (U1.refl _ _) HC.o HP.o
theorem QQ (x1:Int):prog.built 69 [(0,.int .i64 x1)]=some (oD ⟨x1,V7⟩ I4).toArray:=by kernel_rfl
theorem xQ:(prog.info? 69).bind (·.zero)=some (.agg (oD ⟨0,V7⟩ I4).toArray):=by kernel_rfl
theorem AB:(prog.info? 69).map (·.size)=some 4:=by kernel_rfl
theorem uF (v:VT) {cv:Value} (h:cv.oneCell'=true):∀ u∈oD v cv,u.oneCell'=true:=by
 intro u hu
 simp only[oD,bA,List.mem_cons,List.not_mem_nil,or_false] at hu
 rcases hu with rfl|rfl|rfl|rfl<;>first|rfl|exact h
def uI (r:RS):VT × RS × Int:=
 (⟨(r.count 9007199254740991).1,(yB (r.count 9007199254740991).2 0).1⟩,(yB (r.count 9007199254740991).2 0).2.1,R8 (yB (r.count 9007199254740991).2 0).2.2 (yB (r.count 9007199254740991).2 0).2.1.e)
theorem QW {r r1 r2:RS} {x1:Int} {t:List UInt8} (h1:r.count 9007199254740991=(x1,r1)) (h2:r1.text 2048=(t,r2)) (he:r2.e≠0):uI r=(⟨x1,V7⟩,r2,r2.e):=by
 unfold uI yB R8
 rw[h1]
 dsimp only
 rw[h2]
 simp[he]
theorem MU {r r1 r2:RS} {x1:Int} {t:List UInt8} (h1:r.count 9007199254740991=(x1,r1)) (h2:r1.text 2048=(t,r2)) (he:r2.e=0):uI r=(⟨x1,(dA t).1⟩,r2,(dA t).2):=by
 unfold uI yB R8
 rw[h1]
 dsimp only
 rw[h2]
 simp only[he,if_true]
 split<;>simp_all
structure qO (w0 w:World) (p g tb:Nat) (r:RS) (X Z:List Value):Prop where
 rd:YA w p g r
 lo:p<w0.heap.size
 gl:r.l≠[]→g<w0.heap.size
 hi:w0.heap.size<tb
 row:l5 w tb 69 X.toArray
 res:l5 w w0.heap.size 69 Z.toArray
 kp:U1 [p] w0 w
theorem qO.read {w0 w w':World} {p g tb:Nat} {r r':RS} {X Z:List Value} (h:qO w0 w p g tb r X Z) (hr:YA w' p g r') (hk:U1 [p] w w') (hl:r'.l≠[]→r.l≠[]):qO w0 w' p g tb r' X Z:=
 ⟨hr,h.lo,fun hne=>h.gl (hl hne),h.hi,hk.row h.row (by have:=h.hi;have:=h.lo;simp;omega),hk.row h.res (by have:=h.lo;simp;omega),h.kp.then hk (fun x hx=> .inl hx)⟩
theorem qO.over {w0 w w':World} {p g tb:Nat} {r:RS} {X Z:List Value} (h:qO w0 w p g tb r X Z) (hk:U1 [] w w'):qO w0 w' p g tb r X Z:=
 ⟨h.rd.keep hk (by simp) (by simp),h.lo,h.gl,h.hi,hk.row h.row (by simp),hk.row h.res (by simp),h.kp.then hk (by simp)⟩
theorem qO.put {w0 w w':World} {p g tb:Nat} {r:RS} {X X' Z:List Value} (h:qO w0 w p g tb r X Z) (hk:U1 [tb] w w') (hrow:l5 w' tb 69 X'.toArray):qO w0 w' p g tb r X' Z:=
 ⟨h.rd.keep hk (by have:=h.hi;have:=h.lo;simp;omega) (fun hne=>by have:=h.gl hne;have:=h.hi;simp;omega),h.lo,h.gl,h.hi,hrow,hk.row h.res (by have:=h.hi;simp;omega),h.kp.then hk (fun x hx=> .inr (by simp at hx;have:=h.hi;omega))⟩
theorem qO.far {w0 w w':World} {p g tb tc:Nat} {r:RS} {X Z:List Value} (h:qO w0 w p g tb r X Z) (hk:U1 [tc] w w') (hc:tb<tc):qO w0 w' p g tb r X Z:=
 ⟨h.rd.keep hk (by have:=h.hi;have:=h.lo;simp;omega) (fun hne=>by have:=h.gl hne;have:=h.hi;simp;omega),h.lo,h.gl,h.hi,hk.row h.row (by simp;omega),hk.row h.res (by have:=h.hi;simp;omega),h.kp.then hk (fun x hx=> .inr (by simp at hx;have:=h.hi;omega))⟩
theorem qO.setL {w0 w:World} {p g tb:Nat} {r:RS} {X X' Z:List Value} (h:qO w0 w p g tb r X Z) (k:Nat) (us:List Value) (he:KA X.toArray k us=X'.toArray):qO w0 (w.setCells tb k us) p g tb r X' Z:=
 h.put ((U1.refl [tb] w).setL (.inl (by simp))) (by rw[←he];exact h.row.setL)
theorem nS (p g:Nat) (r:RS) (w:World) (hr:YA w p g r) (hb:r.l.length≤1000000):
 Calls prog 148 #[.pointer (some ⟨p,0,none⟩)] w fun e w'=>∃ cv G,e= .returned (.tuple #[.agg (oD (uI r).1 cv).toArray,.int .i64 (uI r).2.2])∧F8 w' G cv (uI r).1.conf.chain∧I9 w w' G∧YA w' p g (uI r).2.1∧U1 [p] w w':=by
 obtain⟨x1,r1,h1⟩:∃ x r1,r.count 9007199254740991=(x,r1):=⟨_,_,rfl⟩
 obtain⟨t,r2,h2⟩:∃ t r2,r1.text 2048=(t,r2):=⟨_,_,rfl⟩
 have s1:(r1.l≠[]→r.l≠[])∧r1.l.length≤r.l.length:=by rw[show r1=(r.count 9007199254740991).2 by rw[h1]];exact⟨W9,RS.count_short _ _⟩
 have s2:(r2.l≠[]→r1.l≠[])∧r2.l.length≤r1.l.length∧t.length≤r1.l.length:=by rw[show r2=(r1.text 2048).2 by rw[h2],show t=(r1.text 2048).1 by rw[h2]];exact⟨cB,zC _ _,tF _ _⟩
 have hD:= @QW r r1 r2 x1 t h1 h2
 have hD2:= @MU r r1 r2 x1 t h1 h2
 have HD:=U0 (U2 hD hD2)
 obtain⟨Z,hZ⟩:∃ Z,oD ⟨0,V7⟩ I4=Z:=⟨_,rfl⟩
 have zv:=xQ
 have zl:Z.length=4:=by rw[←hZ];rfl
 rw[hZ] at zv
 have hpl:=hr.lt
 have hgl:r.l≠[]→g<w.heap.size:=fun hne=>hr.gl hne
 have kA:=(U1.refl [] w).alloc (.cells Z.toArray 69)
 have rA:=l5.new w 69 Z.toArray
 obtain⟨wA,hwA⟩:∃ wA,w.alloc (.cells Z.toArray 69)=wA:=⟨_,rfl⟩
 rw[hwA] at kA rA
 have HA:=U0 (U2 hwA (U2 kA (U2 rA (U2 (hr.keep kA (by simp) (by simp)) (U2 zv (U2 zl hb))))))
 have HX:=U0 (U2 h1 (U2 h2 (U2 s1 (U2 s2 hgl))))
 clear kA rA hwA hr zv zl hZ h1 h2 s1 s2 hD hD2 hgl hb
 go_enter func148,ntmps148
 go_upto_region 2 with (first
  |(with_reducible refine F5 _ _ rfl 69 rfl _ HA.o.2.2.2.2.1 HA.o.1 ?_)
  |(go_at_call 107;refine (vB p g r 9007199254740991 _ HA.o.2.2.2.1 (by have:=HA.o.2.2.2.2.2.2;omega)).mono ?_;intro e u1 hq;unfold jB at hq;rw[HX.o.1] at hq;obtain⟨rfl,hr1,hk1⟩:=hq;obtain⟨tb,htb⟩:∃ b,u1.heap.size=b:=⟨_,rfl⟩;obtain⟨uB,huB⟩:∃ W,u1.alloc (.cells Z.toArray 69)=W:=⟨_,rfl⟩;have HB:=U0 (U2 huB (U2 htb (U2 hr1 hk1)));clear huB htb hr1 hk1;(try dsimp only);rename_i hK;refine hK _ _ ?_;clear hK;refine LA _ rfl 69 _ rfl (oD ⟨x1,V7⟩ I4).toArray (by simp only[List.map_toArray,List.map_cons,List.map_nil];go_simp;exact QQ x1) ?_)
  |(with_reducible refine F5 _ _ rfl 69 rfl _ HA.o.2.2.2.2.1 HB.o.1 ?_;rw[HB.o.2.1])
  |(refine wpList_store_mid rfl 69 (.tmp 4) (.tmp 10) rfl tb 0 (oD ⟨x1,V7⟩ I4).toArray rfl rfl ((show l5 uB tb 69 Z.toArray from HB.o.2.1▸HB.o.1▸l5.new _ _ _).there (by rw[U4,U4,HA.o.2.2.2.2.2.1];exact Nat.le_refl _)) AB (all_oneCell_toArray (uF _ rfl)) ?_))
 have PC:V5 (qO w (uB.setCells tb 0 (oD ⟨x1,V7⟩ I4)) p g tb r1 (oD ⟨x1,V7⟩ I4) Z):=U0 (by
  have kB:U1 [] u1 uB:=HB.o.1▸(U1.refl [] u1).alloc _
  have rB:l5 uB tb 69 Z.toArray:=HB.o.2.1▸HB.o.1▸l5.new _ _ _
  have h1:=HA.o.2.2.1.lt
  have h2:=HB.o.2.2.2.size
  have h3:=HB.o.2.1
  have hb0:qO w uB p g tb r1 Z Z:=⟨HB.o.2.2.1.keep kB (by simp) (by simp),hpl,fun hne=>HX.o.2.2.2.2 (HX.o.2.2.1.1 hne),by omega,rB,kB.row (HB.o.2.2.2.row HA.o.2.2.1 (by simp;omega)) (by simp),(HA.o.2.1.more (by simp)).then (HB.o.2.2.2.then kB (by simp)) (fun x hx=> .inl hx)⟩
  exact hb0.setL 0 _ (F7 (by rw[U4,HA.o.2.2.2.2.2.1];rfl)))
 obtain⟨uC,huC⟩:∃ W,uB.setCells tb 0 (oD ⟨x1,V7⟩ I4)=W:=⟨_,rfl⟩
 rw[huC] at PC
 rw[huC]
 simp only[Act.put]
 clear huC HB
 go_upto_region 3 with (first
  |(go_at_call 109;refine (uE p g r1 2048 _ PC.o.rd (by have:=HX.o.2.2.1.2;have:=HA.o.2.2.2.2.2.2;omega)).mono ?_;intro e u2 hq;unfold GD at hq;rw[HX.o.2.1] at hq;obtain⟨ue,rfl,hfr,hr,hk⟩:=hq;obtain⟨A6,c6,G6,rfl,hb6,hn6⟩:=hfr.gives;have P2:=U0 (PC.o.read hr hk HX.o.2.2.2.1.1);have B6:=U0 (U2 hb6 (U2 hn6 (show t.length≤1000000 by have:=HX.o.2.2.2.1.2.2;have:=HX.o.2.2.1.2;have:=HA.o.2.2.2.2.2.2;omega)));clear hr hk hfr hb6 hn6))
 clear PC
 by_cases he:r2.e=0
 ·have hv:=HD.o.2 he
  have HV:=U0 hv
  have he':(r2.e !=0)=false:=by simp[he]
  clear he hv
  go_upto_region 6 with (first
   |(go_at_call 110;refine (p8 p g r2 _ P2.o.rd).mono ?_;rintro e wy ⟨rfl,rfl⟩)
   |(go_at_call 35;refine (lF G6 t _ _ B6.o.1 B6.o.2.2).mono ?_;rintro e u3 ⟨cv,G,rfl,i3,n3,k3⟩;obtain⟨C,hC⟩:∃ C,bA (dA t).1 cv=C:=⟨_,rfl⟩;rw[hC];obtain⟨tc,htc⟩:∃ b,u3.heap.size=b:=⟨_,rfl⟩;obtain⟨u4,hu4⟩:∃ W,u3.alloc (.cells (bA V7 I4).toArray 31)=W:=⟨_,rfl⟩;have k4:U1 [] u3 u4:=hu4▸(U1.refl [] u3).alloc _;have r4:l5 u4 tc 31 (bA V7 I4).toArray:=htc▸hu4▸l5.new _ _ _;have HU:=U0 (U2 hu4 htc);have HC:=U0 (show C.length=3∧(∀ u∈C,u.oneCell'=true) by rw[←hC];obtain⟨A9,c9,g9,rfl,_⟩:=id i3;exact⟨rfl,MC _ rfl⟩);have H3:=U0 (U2 i3 (U2 n3 (U2 k3 (U2 k4 (U2 r4 hC)))));clear i3 n3 k3 hC htc hu4 k4 r4)
   |(with_reducible refine F5 _ _ rfl 31 rfl _ kJ HU.o.1 ?_;rw[HU.o.2])
   |(refine wpList_store_mid rfl 31 (.tmp 6) (.tmp 22) rfl tc 0 C.toArray rfl rfl (H3.o.2.2.2.2.1.there (by rw[U4,HC.o.1];exact Nat.le_refl _)) (by rw[U4,HC.o.1];exact S9) (all_oneCell_toArray HC.o.2) ?_))
  have P4:=(P2.o.over H3.o.2.2.1).over H3.o.2.2.2.1
  have htb:tb<tc:=by have:=(P2.o.over H3.o.2.2.1).row.lt;have:=HU.o.2;omega
  have k5:U1 [tc] u4 (u4.setCells tc 0 C):=(U1.refl [tc] u4).setL (.inl (by simp))
  have P5:=P4.far k5 htb
  have r5:l5 (u4.setCells tc 0 C) tc 31 C.toArray:=by
   have:=H3.o.2.2.2.2.1.setL (vs:=C) (o:=0)
   rw[F7 (by rw[U4,HC.o.1];rfl)] at this
   exact this
  have ep:KA (oD ⟨x1,V7⟩ I4).toArray 1 C=(oD ⟨x1,(dA t).1⟩ cv).toArray:=by rw[←H3.o.2.2.2.2.2];rfl
  have HT2:=U0 (P5.row.there (o:=1) (n:=C.toArray.size) (by rw[U4,U4,HC.o.1];exact Nat.le_refl _))
  have P6:=P5.setL 1 C ep
  obtain⟨X6,hX6⟩:∃ X,oD ⟨x1,(dA t).1⟩ cv=X:=⟨_,rfl⟩
  have hcv:cv.oneCell'=true:=by obtain⟨A9,c9,g9,rfl,_⟩:=id H3.o.1;rfl
  have hxl:X6.length=4∧(∀ u∈X6,u.oneCell'=true):=by rw[←hX6];exact⟨rfl,uF _ hcv⟩
  rw[hX6] at P6
  have rs:∀ wx,l5 wx w.heap.size 69 Z.toArray→l5 (wx.setCells w.heap.size 0 X6) w.heap.size 69 X6.toArray:=fun wx hh=>by
   have:=hh.setL (vs:=X6) (o:=0)
   rw[F7 (by rw[U4,HA.o.2.2.2.2.2.1,hxl.1])] at this
   exact this
  have k6:U1 [tb] (u4.setCells tc 0 C) ((u4.setCells tc 0 C).setCells tb 1 C):=(U1.refl [tb] _).setL (.inl (by simp))
  have k7:U1 [w.heap.size] ((u4.setCells tc 0 C).setCells tb 1 C) (((u4.setCells tc 0 C).setCells tb 1 C).setCells w.heap.size 0 X6):=(U1.refl [w.heap.size] _).setL (.inl (by simp))
  have HT:V5 (∃ cv G,Ending.returned (.tuple #[.agg X6.toArray,.int .i64 (dA t).2])= .returned (.tuple #[.agg (oD (uI r).1 cv).toArray,.int .i64 (uI r).2.2])∧F8 (((u4.setCells tc 0 C).setCells tb 1 C).setCells w.heap.size 0 X6) G cv (uI r).1.conf.chain∧I9 w (((u4.setCells tc 0 C).setCells tb 1 C).setCells w.heap.size 0 X6) G∧YA (((u4.setCells tc 0 C).setCells tb 1 C).setCells w.heap.size 0 X6) p g (uI r).2.1∧U1 [p] w (((u4.setCells tc 0 C).setCells tb 1 C).setCells w.heap.size 0 X6)):=U0 (by
   have hG:∀ y∈G,w.heap.size<y∧tb<y∧y<tc:=fun y hy=>by
    have h1:=H3.o.2.1 y hy
    have h2:=P2.o.row.lt
    have h3:=P2.o.hi
    have h4:=HU.o.2
    omega
   rw[HV.o]
   refine⟨cv,G,by rw[←hX6],(((H3.o.1.keep H3.o.2.2.2.1 (by simp)).keep k5 (fun y hy=>by have:=hG y hy;simp;omega)).keep k6 (fun y hy=>by have:=hG y hy;simp;omega)).keep k7 (fun y hy=>by have:=hG y hy;simp;omega),fun y hy=>⟨by have:=hG y hy;omega,?_⟩,P6.rd.keep k7 (by simp;omega) (fun hne=>by have:=P6.gl hne;simp;omega),P6.kp.setL (.inr (Nat.le_refl _))⟩
   have h1:=hG y hy;have h2:=HU.o.2;have h3:=H3.o.2.2.2.1.size;have h4:=k5.size;have h5:=k6.size;have h6:=k7.size
   omega)
  have HP:=U0 (U2 P6 (U2 r5 (U2 hxl rs)))
  clear P4 k5 P5 r5 ep P6 hX6 hcv hxl rs k6 k7 htb
  go_wp2_with (first
   |(refine wpList_load_mid rfl 31 (.tmp 6) rfl tc 0 rfl _ _ HP.o.2.1.rangeAll underlying31 rfl (by rw[HC.o.1];exact S9) ?_)
   |(refine wpList_store_mid rfl 31 (.tmp 25) (.tmp 24) rfl tb 1 C.toArray rfl rfl (HT2.o) (by rw[U4,HC.o.1];exact S9) (all_oneCell_toArray HC.o.2) ?_)
   |(refine wpList_load_mid rfl 69 (.tmp 4) rfl tb 0 rfl _ _ HP.o.1.row.rangeAll underlying69 rfl (by rw[HP.o.2.2.1.1];exact AB) ?_)
   |(refine wpList_store_mid rfl 69 (.tmp 2) (.tmp 26) rfl w.heap.size 0 X6.toArray rfl rfl (HP.o.1.res.there (by rw[U4,U4,HP.o.2.2.1.1,HA.o.2.2.2.2.2.1];exact Nat.le_refl _)) (by rw[U4,HP.o.2.2.1.1];exact AB) (all_oneCell_toArray HP.o.2.2.1.2) ?_))
  refine bodyPost_ret (U5 rfl _ _ w.heap.size 69 _ (0,0) _ rfl (HP.o.2.2.2 _ HP.o.1.res) underlying69 rfl (by rw[U4,HP.o.2.2.1.1];exact AB)) rfl ?_
  exact HT.o
 ·have hv:=HD.o.1 he
  have HV:=U0 hv
  have he':(r2.e !=0)=true:=by simp[he]
  clear he hv
  have rs:∀ wx,l5 wx w.heap.size 69 Z.toArray→l5 (wx.setCells w.heap.size 0 (oD ⟨x1,V7⟩ I4)) w.heap.size 69 (oD ⟨x1,V7⟩ I4).toArray:=fun wx hh=>by
   have:=hh.setL (vs:=oD ⟨x1,V7⟩ I4) (o:=0)
   rw[F7 (by rw[U4,HA.o.2.2.2.2.2.1];rfl)] at this
   exact this
  have HS:=U0 rs
  clear rs
  have Pd:=U0 (P2.o.over ((U1.refl [] u2).drew))
  go_upto_region 4 with (first
   |(go_at_call 110;refine (p8 p g r2 _ P2.o.rd).mono ?_;rintro e wy ⟨rfl,rfl⟩))
  have hres:=HS.o _ Pd.o.res
  have HT:V5 (∃ cv G,Ending.returned (.tuple #[.agg (oD ⟨x1,V7⟩ I4).toArray,.int .i64 r2.e])= .returned (.tuple #[.agg (oD (uI r).1 cv).toArray,.int .i64 (uI r).2.2])∧F8 (u2.drew.setCells w.heap.size 0 (oD ⟨x1,V7⟩ I4)) G cv (uI r).1.conf.chain∧I9 w (u2.drew.setCells w.heap.size 0 (oD ⟨x1,V7⟩ I4)) G∧YA (u2.drew.setCells w.heap.size 0 (oD ⟨x1,V7⟩ I4)) p g (uI r).2.1∧U1 [p] w (u2.drew.setCells w.heap.size 0 (oD ⟨x1,V7⟩ I4))):=U0 (by
   have ks:=(U1.refl [w.heap.size] u2.drew).setL (vs:=oD ⟨x1,V7⟩ I4) (g:=w.heap.size) (o:=0) (by simp)
   rw[HV.o]
   exact⟨I4,[],rfl,F8.nil _ _,by simp[I9],Pd.o.rd.keep ks (by simp;omega) (fun hne=>by have:=Pd.o.gl hne;simp;omega),Pd.o.kp.setL (.inr (Nat.le_refl _))⟩)
  clear hres
  refine wp_region_held_drew (S:=fun _=>True) (by kernel_rfl) trivial (fun _=> ?_)
  refine wpAnyH_ready (rs:=[0,1]) (by kernel_rfl) (by simp) ?_
  refine AllReadyH.cons (o:=⟨_,_,_,_,_,_⟩) rfl (fun K hK=> ?_) (q9 rfl (fun K hK=> ?_))
  ·refine Z7 rfl 69 (.tmp 4) rfl tb 0 rfl (oD ⟨x1,V7⟩ I4) _ Pd.o.row.rangeAll underlying69 rfl AB ?_
   refine hK.out _ _ trivial (fun _=> ?_)
   clear hK K
   try simp only[Act.put,F3,U3,V3]
   refine wpAnyH_ready (rs:=[1]) (by kernel_rfl) (by simp) ?_
   refine q9 rfl (fun K hK=> ?_)
   go_simp
   refine hK.out _ _ trivial (fun _=> ?_)
   clear hK K
   try simp only[Act.put,F3,U3,V3]
   refine wpAnyH_ready (rs:=[2]) (by kernel_rfl) (by simp) ?_
   refine q9 rfl (fun K hK=> ?_)
   go_simp
   refine (p8 p g r2 _ Pd.o.rd).mono ?_
   rintro e wy ⟨rfl,rfl⟩
   go_wp2_with fail
   refine hK.out _ _ trivial (fun _=> ?_)
   clear hK K
   try simp only[Act.put,F3,U3,V3]
   refine wpAnyH_ready (rs:=[3]) (by kernel_rfl) (by simp) ?_
   refine q9 rfl (fun K hK=> ?_)
   refine I6 rfl 69 (.tmp 2) (.tmp 16) rfl w.heap.size 0 (oD ⟨x1,V7⟩ I4).toArray rfl rfl (Pd.o.res.there (by rw[U4,U4,HA.o.2.2.2.2.2.1];exact Nat.le_refl _)) AB (all_oneCell_toArray (uF _ rfl)) ?_
   refine hK.out _ _ trivial (fun _=> ?_)
   clear hK K
   try simp only[Act.put,F3,U3,V3]
   refine wpAnyH_ready (rs:=[4]) (by kernel_rfl) (by simp) ?_
   refine q9 rfl (fun K hK=> ?_)
   go_simp
   refine hK.out _ _ trivial (fun _=> ?_)
   clear hK K
   try simp only[Act.put,F3,U3,V3]
   refine wpAnyH_done (by kernel_rfl) ?_ _
   go_wp2_with fail
   refine bodyPost_ret (U5 rfl _ _ w.heap.size 69 _ (0,0) _ rfl (HS.o _ Pd.o.res) underlying69 rfl AB) rfl ?_
   exact HT.o
  ·go_simp
   refine hK.out _ _ trivial (fun _=> ?_)
   clear hK K
   try simp only[Act.put,F3,U3,V3]
   refine wpAnyH_ready (rs:=[0,2]) (by kernel_rfl) (by simp) ?_
   refine AllReadyH.cons (o:=⟨_,_,_,_,_,_⟩) rfl (fun K hK=> ?_) (q9 rfl (fun K hK=> ?_))
   ·refine Z7 rfl 69 (.tmp 4) rfl tb 0 rfl (oD ⟨x1,V7⟩ I4) _ Pd.o.row.rangeAll underlying69 rfl AB ?_
    refine hK.out _ _ trivial (fun _=> ?_)
    clear hK K
    try simp only[Act.put,F3,U3,V3]
    refine wpAnyH_ready (rs:=[2]) (by kernel_rfl) (by simp) ?_
    refine q9 rfl (fun K hK=> ?_)
    go_simp
    refine (p8 p g r2 _ Pd.o.rd).mono ?_
    rintro e wy ⟨rfl,rfl⟩
    go_wp2_with fail
    refine hK.out _ _ trivial (fun _=> ?_)
    clear hK K
    try simp only[Act.put,F3,U3,V3]
    refine wpAnyH_ready (rs:=[3]) (by kernel_rfl) (by simp) ?_
    refine q9 rfl (fun K hK=> ?_)
    refine I6 rfl 69 (.tmp 2) (.tmp 16) rfl w.heap.size 0 (oD ⟨x1,V7⟩ I4).toArray rfl rfl (Pd.o.res.there (by rw[U4,U4,HA.o.2.2.2.2.2.1];exact Nat.le_refl _)) AB (all_oneCell_toArray (uF _ rfl)) ?_
    refine hK.out _ _ trivial (fun _=> ?_)
    clear hK K
    try simp only[Act.put,F3,U3,V3]
    refine wpAnyH_ready (rs:=[4]) (by kernel_rfl) (by simp) ?_
    refine q9 rfl (fun K hK=> ?_)
    go_simp
    refine hK.out _ _ trivial (fun _=> ?_)
    clear hK K
    try simp only[Act.put,F3,U3,V3]
    refine wpAnyH_done (by kernel_rfl) ?_ _
    go_wp2_with fail
    refine bodyPost_ret (U5 rfl _ _ w.heap.size 69 _ (0,0) _ rfl (HS.o _ Pd.o.res) underlying69 rfl AB) rfl ?_
    exact HT.o
   ·go_simp
    refine (p8 p g r2 _ Pd.o.rd).mono ?_
    rintro e wy ⟨rfl,rfl⟩
    go_wp2_with fail
    refine hK.out _ _ trivial (fun _=> ?_)
    clear hK K
    try simp only[Act.put,F3,U3,V3]
    refine wpAnyH_ready (rs:=[0]) (by kernel_rfl) (by simp) ?_
    refine q9 rfl (fun K hK=> ?_)
    refine Z7 rfl 69 (.tmp 4) rfl tb 0 rfl (oD ⟨x1,V7⟩ I4) _ Pd.o.row.rangeAll underlying69 rfl AB ?_
    refine hK.out _ _ trivial (fun _=> ?_)
    clear hK K
    try simp only[Act.put,F3,U3,V3]
    refine wpAnyH_ready (rs:=[3]) (by kernel_rfl) (by simp) ?_
    refine q9 rfl (fun K hK=> ?_)
    refine I6 rfl 69 (.tmp 2) (.tmp 16) rfl w.heap.size 0 (oD ⟨x1,V7⟩ I4).toArray rfl rfl (Pd.o.res.there (by rw[U4,U4,HA.o.2.2.2.2.2.1];exact Nat.le_refl _)) AB (all_oneCell_toArray (uF _ rfl)) ?_
    refine hK.out _ _ trivial (fun _=> ?_)
    clear hK K
    try simp only[Act.put,F3,U3,V3]
    refine wpAnyH_ready (rs:=[4]) (by kernel_rfl) (by simp) ?_
    refine q9 rfl (fun K hK=> ?_)
    go_simp
    refine hK.out _ _ trivial (fun _=> ?_)
    clear hK K
    try simp only[Act.put,F3,U3,V3]
    refine wpAnyH_done (by kernel_rfl) ?_ _
    go_wp2_with fail
    refine bodyPost_ret (U5 rfl _ _ w.heap.size 69 _ (0,0) _ rfl (HS.o _ Pd.o.res) underlying69 rfl AB) rfl ?_
    exact HT.o
end Go.Proofs.YthfdkonhjpdflaaGreatDoor
