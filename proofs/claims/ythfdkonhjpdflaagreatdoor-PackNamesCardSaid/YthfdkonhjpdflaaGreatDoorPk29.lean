import Derived.Test.YthfdkonhjpdflaaGreatDoorPk28
namespace Go.Proofs.YthfdkonhjpdflaaGreatDoor
open Go.RowKit Go.Proofs.Tryz
set_option linter.unusedVariables false
set_option maxRecDepth 100000
set_option linter.unusedSimpArgs false
set_option maxHeartbeats 16000000
theorem Ap (l:List UInt8):be (l.take 1)≤255:=by
 have h:=Ao (l.take 1)
 have h1:(l.take 1).length≤1:=by rw[List.length_take];omega
 have h2:256^(l.take 1).length≤256^1:=Nat.pow_le_pow_right (by omega) h1
 omega
theorem gD (r:RS):0≤(r.num 1).1∧(r.num 1).1≤255:=by
 unfold RS.num
 split
 ·split
  ·split
   ·simp
   ·refine⟨by simp,?_⟩
    show ((be (r.take 1):Nat):Int)≤255
    have h:be (r.take 1)≤255:=by
     unfold RS.take
     split
     ·exact Ap _
     ·exact Nat.zero_le _
    omega
  ·simp
 ·simp
def iO:Nat→RS→List Int × RS
 |0,r=>([],r)
 |k+1,r=>((iO k r).1++[((iO k r).2.num 1).1],((iO k r).2.num 1).2)
theorem nC:∀ (k:Nat) (r:RS),(iO k r).1.length=k
 |0,r=>rfl
 |k+1,r=>by simp[iO,nC k r]
def Cq (n:Int):Nat:=(if n<5 then n else 5).toNat
def yU (r:RS):RS:=(r.count 9007199254740991).2
def yV (r:RS):RS:=((yU r).num 1).2
def yX (r:RS):RS:=((yV r).num 1).2
def DT (r:RS):Nat:=Cq ((yV r).num 1).1
def wO (r:RS):CF:=⟨(r.count 9007199254740991).1,((yU r).num 1).1,(iO (DT r) (yX r)).1⟩
def nS (r:RS):RS:=(iO (DT r) (yX r)).2
def cz (b:List UInt8):CF × Int:=(eL (dm (nS ⟨b,0⟩).end_ (wO ⟨b,0⟩).ok) (wO ⟨b,0⟩) aW,dm (nS ⟨b,0⟩).end_ (wO ⟨b,0⟩).ok)
theorem cfL_eL (E:Int) (q:CF) (ev:Value):eL E (bZ q ev) (bZ aW ay)=bZ (eL E q aW) (eL E ev ay):=by unfold eL;split<;>rfl
theorem eL_cfV {E:Int} {w:World} {G:List Nat} {q:CF} {ev:Value} (h:bq w G ev q.chain):bq w G (eL E ev ay) (eL E q aW).chain:=by
 unfold eL
 split
 ·exact h
 ·exact bq.nil w G
theorem qh:(prog.info? 3).map (fun i=>(i.zero,i.size,i.bytes))=some (some (.int .i64 0),1,8):=by kernel_rfl
def Co (w0 w:World) (p g tb:Nat) (r:RS) (nm fl:Int) (Z:List Value) (i:Nat):Prop:=
 ∃ A c,oN w0 w p g tb (iO i r).2 31 (bZ ⟨nm,fl,[]⟩ (.slice A i c)) Z∧cZ w 3 1 (.slice A i c) i ((iO i r).1.map (Value.int .i64))∧∀ y∈aP (.slice A i c),tb<y
theorem oN.far {w0 w w':World} {p g tb:Nat} {r:RS} {T:TypeId} {L Z:List Value} {S:List Nat} (h:oN w0 w p g tb r T L Z) (hk:ag S w w') (hS:∀ x∈S,tb<x):oN w0 w' p g tb r T L Z:=
 ⟨h.rd.keep hk (fun hm=>by have:=hS p hm;have:=h.hi;omega) (fun hne hm=>by have:=hS g hm;have:=h.gl hne;omega),h.lo,h.hi,h.gl,h.len,hk.row h.row (fun hm=>by have:=hS tb hm;omega),hk.row h.res (fun hm=>by have:=hS _ hm;have:=h.lo;have:=h.hi;omega),h.kp.then hk (fun x hx=> .inr (by have:=hS x hx;have:=h.lo;have:=h.hi;omega))⟩
theorem Co.step {w0 w5 w6:World} {p g tb i c c6:Nat} {A A6:Option Addr} {r:RS} {nm fl y:Int} {Z:List Value} (h5:oN w0 w5 p g tb ((iO i r).2.num 1).2 31 (bZ ⟨nm,fl,[]⟩ (.slice A i c)) Z) (hH:∀ x∈aP (.slice A i c),tb<x)
 (k6:ag (aP (.slice A i c)) w5 w6) (ho:cZ w6 3 1 (.slice A6 (i+1) c6) (i+1) ((iO i r).1.map (Value.int .i64)++[.int .i64 y])) (hy:((iO i r).2.num 1).1=y) (hl:∀ x∈aP (.slice A6 (i+1) c6),x∈aP (.slice A i c)∨w5.heap.size≤x):
 Co w0 (w6.setCell ⟨tb,2,none⟩ (.slice A6 (i+1) c6)) p g tb r nm fl Z (i+1):=by
 have h6:=h5.far k6 hH
 have hgt:∀ x∈aP (.slice A6 (i+1) c6),tb<x:=fun x hx=>by
  rcases hl x hx with h|h
  ·exact hH x h
  ·have:=h5.row.lt;omega
 refine⟨A6,c6,h6.set 2 _ (by simp[bZ]),?_,hgt⟩
 have e:(iO (i+1) r).1.map (Value.int .i64)=(iO i r).1.map (Value.int .i64)++[.int .i64 y]:=by rw[iO,List.map_append,hy];rfl
 rw[e]
 exact ho.keep (fE w6 tb 2 _) (fun x hx=>by have:=hgt x hx;simp;omega)
theorem oJ (F:List Nat) (b:List UInt8) (v:Value) (w:World) (h:aS w F v b) (hb:b.length≤1000000):
 Calls prog 34 #[v] w fun e w'=>∃ ev G,e= .returned (.tuple #[.agg (bZ (cz b).1 ev).toArray,.int .i64 (cz b).2])∧bq w' G ev (cz b).1.chain∧bP w w' G∧ag [] w w':=by
 obtain⟨Z,hZ⟩:∃ Z,bZ aW ay=Z:=⟨_,rfl⟩
 have hZ0:Z=bZ ⟨0,0,[]⟩ ay:=by rw[←hZ];rfl
 have zv:=oW
 have zl:Z.length=3:=by rw[←hZ];rfl
 have zo:∀ u∈Z,u.oneCell'=true:=by rw[←hZ];exact fM _ rfl
 rw[hZ] at zv
 obtain⟨r0,hr0⟩:∃ r,RS.mk b 0=r:=⟨_,rfl⟩
 obtain⟨x1,hx1⟩:∃ x,(r0.count 9007199254740991).1=x:=⟨_,rfl⟩
 obtain⟨r1,hr1⟩:∃ x,(r0.count 9007199254740991).2=x:=⟨_,rfl⟩
 have S1:aH ((r1.l≠[]→r0.l≠[])∧r1.l.length≤r0.l.length):=aa (by rw[←hr1];exact⟨bW,RS.count_short _ _⟩)
 obtain⟨x2,hx2⟩:∃ x,(r1.num 1).1=x:=⟨_,rfl⟩
 obtain⟨r2,hr2⟩:∃ x,(r1.num 1).2=x:=⟨_,rfl⟩
 have S2:aH ((r2.l≠[]→r1.l≠[])∧r2.l.length≤r1.l.length):=aa (by rw[←hr2];exact⟨cO,bV _ _⟩)
 obtain⟨x3,hx3⟩:∃ x,(r2.num 1).1=x:=⟨_,rfl⟩
 obtain⟨r3,hr3⟩:∃ x,(r2.num 1).2=x:=⟨_,rfl⟩
 have S3:aH ((r3.l≠[]→r2.l≠[])∧r3.l.length≤r2.l.length):=aa (by rw[←hr3];exact⟨cO,bV _ _⟩)
 have hx3r:0≤x3∧x3≤255:=by rw[←hx3];exact gD _
 obtain⟨K,hK⟩:∃ K,Cq x3=K:=⟨_,rfl⟩
 have hK5:K≤5:=by rw[←hK];unfold Cq;split<;>omega
 have e1:yU ⟨b,0⟩=r1:=by unfold yU;rw[hr0];exact hr1
 have e2:yV ⟨b,0⟩=r2:=by unfold yV;rw[e1];exact hr2
 have e3:yX ⟨b,0⟩=r3:=by unfold yX;rw[e2];exact hr3
 have en:DT ⟨b,0⟩=K:=by unfold DT;rw[e2,hx3];exact hK
 have eq:wO ⟨b,0⟩=⟨x1,x2,(iO K r3).1⟩:=by unfold wO;rw[e1,e3,en,hr0,hx1,hx2]
 have ee:nS ⟨b,0⟩=(iO K r3).2:=by unfold nS;rw[e3,en]
 have HE:=aa (show cz b=(eL (dm (iO K r3).2.end_ (CF.ok ⟨x1,x2,(iO K r3).1⟩)) ⟨x1,x2,(iO K r3).1⟩ aW,dm (iO K r3).2.end_ (CF.ok ⟨x1,x2,(iO K r3).1⟩)) by unfold cz;rw[eq,ee])
 have hrl:r0.l.length≤1000000:=by rw[←hr0];exact hb
 have HX:=aa (ah hr0 (ah hrl (ah (ah hx1 hr1) (ah (ah hx2 hr2) (ah (ah hx3 hr3) hK)))))
 have HV:=aa (ah h hb)
 have HZ:=aa (ah zv (ah zl (ah zo (ah hZ hZ0))))
 clear e1 e2 e3 en eq ee h hb zv zl zo hZ hZ0 hrl hr0 hx1 hr1 hx2 hr2 hx3 hr3 hK
 have kA:=(ag.refl [] w).alloc (.cells Z.toArray 31)
 have rA:=aC.new w 31 Z.toArray
 obtain⟨wA,hwA⟩:∃ wA,w.alloc (.cells Z.toArray 31)=wA:=⟨_,rfl⟩
 rw[hwA] at kA rA
 have HA:=aa (ah hwA (ah kA (ah rA (HV.o.1.keep kA (by simp)))))
 clear kA rA hwA
 go_enter func34,ntmps34
 go_upto_region 2 with (first
  |(with_reducible refine aD _ _ rfl 31 rfl _ HZ.o.1 HA.o.1 ?_)
  |(go_at_call 93;refine (jX F b v _ HA.o.2.2.2 HV.o.2).mono ?_;rintro e w1 ⟨p,g,rfl,d1,d2,d3,d4⟩;rw[HX.o.1] at d1;have D1:=aa (ah d1 (ah d2 (ah d3 d4)));clear d1 d2 d3 d4))
 have P0:aH (oN w (w1.alloc (.cells Z.toArray 31)) p g w1.heap.size r0 31 (bZ ⟨0,0,[]⟩ ay) Z):=aa (by
  have kB:=(ag.refl [] w1).alloc (.cells Z.toArray 31)
  have h1:=HA.o.2.2.1.lt
  have h2:=D1.o.1.lt
  have h3:=D1.o.2.1
  have h4:=HA.o.2.1.size
  refine⟨D1.o.1.keep kB (by simp) (by simp),by omega,h2,fun hne=>⟨?_,D1.o.1.gl hne⟩,HX.o.2.1,?_,kB.row (D1.o.2.2.2.row HA.o.2.2.1 (by simp)) (by simp),(HA.o.2.1.then D1.o.2.2.2 (by simp)).then kB (by simp)⟩
  ·have:=D1.o.2.2.1 (by rw[show b=r0.l by rw[←HX.o.1]];exact hne);omega
  ·rw[←HZ.o.2.2.2.2];exact aC.new _ _ _)
 go_upto_region 3 with (first
  |(with_reducible refine aD _ _ rfl 31 rfl _ HZ.o.1 rfl ?_))
 obtain⟨tb,htb⟩:∃ tb,w1.heap.size=tb:=⟨_,rfl⟩
 obtain⟨v0,hv0⟩:∃ v0,w1.alloc (.cells Z.toArray 31)=v0:=⟨_,rfl⟩
 rw[htb,hv0] at P0
 rw[htb,hv0]
 clear htb hv0 D1
 go_upto_region 4 with (first
  |(go_at_call 102;refine (fZ p g r0 9007199254740991 _ P0.o.rd).mono ?_;intro e u1 hq;unfold eZ at hq;rw[HX.o.2.2.1.1,HX.o.2.2.1.2] at hq;obtain⟨rfl,hr,hk⟩:=hq;have Q:=aa (P0.o.read hr hk S1.o.1 S1.o.2);have y:u1.cell? ⟨tb,0,none⟩=some (.int .i64 0):=(Q.o.row.cell 0).trans rfl;have y2:=Q.o.row.free 0;clear hr hk))
 have P1:=aa (Q.o.set 0 (.int .i64 x1) (L':=bZ ⟨x1,0,[]⟩ ay) (by simp[bZ]))
 obtain⟨v1,hv⟩:∃ v,u1.setCell ⟨tb,0,none⟩ (.int .i64 x1)=v:=⟨_,rfl⟩
 rw[hv] at P1 ⊢
 clear hv y y2 Q P0 S1
 go_upto_region 5 with (first
  |(go_at_call 94;refine (fP p g r1 1 _ P1.o.rd).mono ?_;intro e u2 hq;unfold fJ at hq;rw[HX.o.2.2.2.1.1,HX.o.2.2.2.1.2] at hq;obtain⟨rfl,hr,hk⟩:=hq;have Q:=aa (P1.o.read hr hk S2.o.1 S2.o.2);have y:u2.cell? ⟨tb,1,none⟩=some (.int .i64 0):=(Q.o.row.cell 1).trans rfl;have y2:=Q.o.row.free 1;clear hr hk))
 have P2:=aa (Q.o.set 1 (.int .i64 x2) (L':=bZ ⟨x1,x2,[]⟩ ay) (by simp[bZ]))
 obtain⟨v2,hv⟩:∃ v,u2.setCell ⟨tb,1,none⟩ (.int .i64 x2)=v:=⟨_,rfl⟩
 rw[hv] at P2 ⊢
 clear hv y y2 Q P1 S2
 go_cut [16,17] (fun v16 v17 wx=>v16= .int .i64 (K:Int)∧v17= .int .i64 0∧oN w wx p g tb r3 31 (bZ ⟨x1,x2,[]⟩ ay) Z)
 case first=>
  have hcs:(x3≤5∧x3=(K:Int))∨(¬x3≤5∧5=(K:Int)):=by
   have hk:=HX.o.2.2.2.2.2
   unfold Cq at hk
   split at hk<;>omega
  rcases hcs with⟨h5,hxk⟩|⟨h5,hxk⟩
  all_goals
   have HXK:=aa hxk
   clear hxk
   go_wp2_with (first
    |(go_at_call 94;refine (fP p g r2 1 _ P2.o.rd).mono ?_;intro e u3 hq;unfold fJ at hq;rw[HX.o.2.2.2.2.1.1,HX.o.2.2.2.2.1.2] at hq;obtain⟨rfl,hr,hk⟩:=hq;have Q:=aa (P2.o.read hr hk S3.o.1 S3.o.2);clear hr hk))
   go_meet
   exact⟨by rw[←HXK.o],rfl,Q.o⟩
 case rest=>
  obtain⟨rfl,rfl,P3⟩:=hcut
  generalize wc=v3 at*
  have P3:=aa P3
  obtain⟨i0,hi0,hz0,hz1,hz2⟩:=info_parts qh
  have HI:=aa (ah hi0 (ah hz0 (ah hz1 hz2)))
  clear hi0 hz0 hz1 hz2
  go_wp2_with fail
  go_loopw [17] (fun v17 wx=>∃ i:Nat,i≤K∧v17= .int .i64 (i:Int)∧Co w wx p g tb r3 x1 x2 Z i) (fun v17 _=>K-(intOf v17).toNat)
  case atStart=>exact⟨0,by omega,rfl,none,0,P3.o,cZ.nil _ _ _,by simp[bI]⟩
  case round=>
   obtain⟨i,hi,rfl,A,c,hP,hO,hH⟩:=hrel
   by_cases hlt:i<K
   ·have hlt':(i:Int)<(K:Int):=by omega
    have hn0:(0:Int)≤(i:Int):=by omega
    have hw1:IntKind.i64.wrap ((i:Int)+1)=(i:Int)+1:=bH _ (by omega) (by omega)
    have c2:wr.drew.cell? ⟨tb,2,none⟩=some (.slice A i c):=(hP.row.cell 2).trans rfl
    have hPd:oN w wr.drew p g tb (iO i r3).2 31 (bZ ⟨x1,x2,[]⟩ (.slice A i c)) Z:=hP.over ((ag.refl [] wr).drew)
    obtain⟨y,hy⟩:∃ y,((iO i r3).2.num 1).1=y:=⟨_,rfl⟩
    have HP:=aa (ah hPd (ah (hO.keep ((ag.refl [] wr).drew) (by simp)) (ah hH hy)))
    clear hP hO hH hPd hy
    go_upto_region 7 with fail
    go_region_law (first
     |(go_simp;go_at_call 94;refine (fP p g _ 1 _ HP.o.1.rd).mono ?_;intro e u4 hq;unfold fJ at hq;rw[HP.o.2.2.2] at hq;obtain⟨rfl,hr,hk⟩:=hq;have Q:=aa (HP.o.1.read hr hk cO (bV _ _));have O4:=aa (HP.o.2.1.keep hk (fun x hx=>by have:=HP.o.2.2.1 x hx;have:=Q.o.hi;simp;omega));have c3:u4.cell? ⟨tb,2,none⟩=some (.slice A i c):=(Q.o.row.cell 2).trans rfl;have c3a:(u4.alloc (.cells #[.int .i64 y] 3)).cell? ⟨tb,2,none⟩=some (.slice A i c):=(((ag.refl [] u4).alloc (.cells #[.int .i64 y] 3)).cell (p:=⟨tb,2,none⟩) Q.o.row.lt (by simp)).trans c3;have Q5:=aa (Q.o.over ((ag.refl [] u4).alloc (.cells #[.int .i64 y] 3)));have O5:=aa (O4.o.keep ((ag.refl [] u4).alloc (.cells #[.int .i64 y] 3)) (by simp));clear hr hk)
     |(refine fA _ rfl (.tmp 20) (.tmp 23) 29 rfl 3 i0 (.int .i64 0) 1 8 underlying29 HI.o.1 HI.o.2.1 HI.o.2.2.1 HI.o.2.2.2 rfl (by decide) (.slice A i c) i ((iO i r3).1.map (Value.int .i64)) rfl O5.o (some ⟨u4.heap.size,0,none⟩) u4.heap.size 1 1 [.int .i64 y] rfl (iT u4 3 (.int .i64 y)) (by intro u hu;simp at hu;subst hu;rfl) (by omega) (by unfold maxLen;omega) ?_;intro A6 c6 w6 hown6 hkb6 hloc6;have c4:w6.cell? ⟨tb,2,none⟩=some (.slice A i c):=(hkb6.cell (p:=⟨tb,2,none⟩) Q5.o.row.lt (fun hm=>Nat.lt_irrefl _ (HP.o.2.2.1 _ hm))).trans c3a;have f4:=(hkb6.row Q5.o.row (fun hm=>Nat.lt_irrefl _ (HP.o.2.2.1 _ hm))).free 2))
    all_goals
     have HT:=aa (Co.step Q5.o HP.o.2.2.1 hkb6 hown6 HP.o.2.2.2 hloc6)
     clear hkb6 hown6 hloc6 c2 c3 c3a c4 f4
     go_wp2_with fail
     go_roundw
     case rel=>exact⟨i+1,by omega,by go_num,HT.o⟩
     case measure=>simp[intOf];omega
   ·obtain rfl:i=K:=by omega
    have hiv:bq wr (aP (.slice A i c)) (.slice A i c) (iO i r3).1:=by
     obtain⟨A3,c3,e3,h31,h32,h33,h34⟩:=hO.form
     injection e3 with e3a e3b e3c
     subst e3a e3c
     obtain⟨g3,hg3⟩:=dA (.slice A i c)
     have hl:=nC i r3
     refine⟨A,c,g3,by rw[hl],by rw[hl];exact h31,h32,by rw[hl];exact h34 g3 hg3,fun hne=> ?_⟩
     obtain⟨o,hA,_⟩:=(h34 g3 hg3).2 (by have:=List.length_pos_iff.2 hne;omega)
     rw[hA];simp[bF]
    have HQ:=aa (ah hiv (ah hH (fun y hy=>hO.lt y hy)))
    have P6:=aa hP
    clear hiv hP hO hH
    have hxo:∀ u∈bZ ⟨x1,x2,(iO i r3).1⟩ (.slice A i c),u.oneCell'=true:=fM _ rfl
    obtain⟨XE,hXE⟩:∃ XE,dm (iO i r3).2.end_ (CF.ok ⟨x1,x2,(iO i r3).1⟩)=XE:=⟨_,rfl⟩
    obtain⟨XL,hXL⟩:∃ XL,eL XE (bZ ⟨x1,x2,(iO i r3).1⟩ (.slice A i c)) Z=XL:=⟨_,rfl⟩
    have hLl:XL.length=3:=by rw[←hXL];unfold eL;split;rfl;exact HZ.o.2.1
    have hLo:∀ u∈XL,u.oneCell'=true:=by rw[←hXL];unfold eL;split;exact hxo;exact HZ.o.2.2.1
    have HXL:=aa (ah hXL hXE)
    have HL:=aa (ah hLl hLo)
    clear hxo hXL hXE hLl hLo
    have rs:∀ wx,aC wx w.heap.size 31 Z.toArray→aC (wx.setCells w.heap.size 0 XL) w.heap.size 31 XL.toArray:=fun wx hh=>by
     have:=hh.setL (vs:=XL) (o:=0)
     rw[aR (by rw[az,HL.o.1,HZ.o.2.1])] at this
     exact this
    have ht:∀ wx,aC wx w.heap.size 31 Z.toArray→wx.there w.heap.size 0 XL.toArray.size:=fun wx hh=>hh.there (by simp only[az];have h1:=HL.o.1;have h2:=HZ.o.2.1;omega)
    have hJ:(prog.info? 31).map (·.size)=some XL.toArray.size:=by rw[az,HL.o.1];exact bS
    have HS:=aa (ah rs (ah ht hJ))
    have HO2:=aa (all_oneCell_toArray HL.o.2)
    clear rs ht hJ
    go_wp2_with (first
     |(refine wpList_load_mid rfl 31 (.tmp 5) rfl tb 0 rfl _ _ P6.o.row.rangeAll underlying31 rfl bS ?_)
     |(go_at_call 112;refine (qW (aP (.slice A i c)) p g (iO i r3).2 ⟨x1,x2,(iO i r3).1⟩ (.slice A i c) _ P6.o.rd HQ.o.1).mono ?_;rintro e w9 ⟨rfl,k9⟩;rw[HXL.o.2,HZ.o.2.2.2.1,HXL.o.1];have P9:=aa (P6.o.over k9);have K9:=aa k9;clear k9)
     |(refine wpList_store_mid rfl 31 (.tmp 2) (.tmp 30) rfl w.heap.size 0 XL.toArray rfl rfl (HS.o.2.1 _ P9.o.res) HS.o.2.2 HO2.o ?_))
    refine bodyPost_ret (aG rfl _ _ w.heap.size 31 _ (0,0) _ rfl (HS.o.1 _ P9.o.res) underlying31 rfl HS.o.2.2) rfl ?_
    have ks:=(ag.refl [w.heap.size] w9).setL (vs:=XL) (g:=w.heap.size) (o:=0) (by simp)
    have hlo:=P9.o.lo
    have hhi:=P9.o.hi
    refine⟨eL XE (.slice A i c) ay,aP (.slice A i c),?_,?_,fun y hy=>⟨?_,?_⟩,P9.o.kp.setL (.inr (Nat.le_refl _))⟩
    ·have h1:XL=bZ (eL XE ⟨x1,x2,(iO i r3).1⟩ aW) (eL XE (.slice A i c) ay):=by rw[←HXL.o.1,←HZ.o.2.2.2.1];exact cfL_eL XE _ _
     rw[HE.o,HXL.o.2,←h1]
     rfl
    ·rw[HE.o,HXL.o.2]
     exact eL_cfV ((HQ.o.1.keep K9.o (by simp)).keep ks (fun y hy=>by have:=HQ.o.2.1 y hy;simp;omega))
    ·have:=HQ.o.2.1 y hy;omega
    ·have h1:=HQ.o.2.2 y hy;have h2:=K9.o.size;have h3:=ks.size;omega
end Go.Proofs.YthfdkonhjpdflaaGreatDoor
