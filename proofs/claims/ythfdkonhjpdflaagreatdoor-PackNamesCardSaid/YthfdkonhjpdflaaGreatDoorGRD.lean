import Derived.Test.YthfdkonhjpdflaaGreatDoorGR7b
import Derived.Test.YthfdkonhjpdflaaGreatDoorGR7c
import Derived.Test.YthfdkonhjpdflaaGreatDoorRC15
namespace Go.Proofs.YthfdkonhjpdflaaGreatDoor
open Go.RowKit Go.Proofs.Tryz
set_option linter.unusedVariables false
set_option maxRecDepth 100000
set_option linter.unusedSimpArgs false
set_option maxHeartbeats 16000000
theorem eT (b:List UInt8) (p g:Nat) (w:World) (hr:YA w p g (XC b).2.1) (he:vF b=0) (hl:(XC b).2.1.l.length≤1000000):
 Calls prog 100 #[.pointer (some ⟨p,0,none⟩),.agg (q8 (XC b).1 I4 I4 I4 I4 I4).toArray] w (vE (OE (l6 (TD b).kind) (XC b)) p g w):=by
 obtain⟨h1,h2⟩:=hd_in he
 have hp:=(hdE_no he).1
 obtain⟨hk,hv⟩:=kR b
 have e:XC b=((XC b).1,(XC b).2.1,0):=by rw[←hp]
 obtain⟨q,hq⟩:∃ q,(XC b).1=q:=⟨_,rfl⟩
 obtain⟨r,hr0⟩:∃ r,(XC b).2.1=r:=⟨_,rfl⟩
 rw[hq] at hk hv e
 rw[hr0] at hr hl e
 rw[e,←hk]
 rw[←hk] at h1 h2
 show Calls _ _ #[_,.agg (q8 q I4 I4 I4 I4 I4).toArray] w (vE (OE (l6 q.kind) (q,r,0)) p g w)
 obtain h|h|h|h|h|h:(q.kind=1∨q.kind=3)∨q.kind=2∨(q.kind=7∨q.kind=12)∨q.kind=6∨q.kind=11∨(q.kind=4∨q.kind=5∨q.kind=8∨q.kind=9∨q.kind=10∨q.kind=13∨q.kind=14):=by omega
 ·exact bodyRq p g q r w h hv hr hl
 ·exact bodyAn p g q r w h hv hr hl
 ·exact bodyCf p g q r w h hv hr hl
 ·exact bodyBs p g q r w h hv hr hl
 ·exact bodyVs p g q r w h hv hr hl
 ·exact bodyNo p g q r w h hv hr hl
theorem PH {h:Int} {s:SF} {n:Nat} (hs:s.2.1.l.length≤n):(f1 h s).2.1.l.length≤n∧(f2 h s).2.1.l.length≤n∧(f3 h s).2.1.l.length≤n∧(f4 h s).2.1.l.length≤n:=by
 refine⟨?_,?_,?_,?_⟩
 ·unfold f1;split
  ·exact hs
  ·exact Nat.le_trans (RS.count_short _ _) hs
 ·unfold f2;split
  ·exact hs
  ·exact Nat.le_trans (RS.count_short _ _) hs
 ·unfold f3;split
  ·exact hs
  ·exact Nat.le_trans (RS.count_short _ _) hs
 ·unfold f4;split
  ·exact hs
  ·exact Nat.le_trans (U9 _ _) hs
theorem mR (b:List UInt8):(XC b).2.1.l.length≤b.length:=by
 unfold XC
 refine (PH (PH (PH (PH ?_).1).2.1).2.2.1).2.2.2
 exact Nat.le_trans (U9 _ _) (Nat.le_trans (U9 _ _) (U9 _ _))
theorem nP (F:List Nat) (b:List UInt8) (v:Value) (w:World) (h:G7 w F v b) (hb:b.length≤1000000):
 Calls prog 29 #[v] w fun e w'=>∃ X G,e= .returned (.tuple #[.agg X.toArray,.int .i64 (AA b).2])∧iB w' G ((AA b).1,X)∧I9 w w' G∧U1 [] w w':=by
 obtain⟨Z,hZ⟩:∃ Z,q8 G9 I4 I4 I4 I4 I4=Z:=⟨_,rfl⟩
 have zv:=KE
 have zl:=IC
 have zo:=mM
 rw[hZ] at zv zl zo
 have kA:=(U1.refl [] w).alloc (.cells Z.toArray 34)
 have rA:=l5.new w 34 Z.toArray
 obtain⟨wA,hwA⟩:∃ wA,w.alloc (.cells Z.toArray 34)=wA:=⟨_,rfl⟩
 rw[hwA] at kA rA
 have hA:=h.keep kA (by simp)
 obtain⟨A,c,g0,rfl,h2,h3,h4,h5⟩:=hA
 have HA:=U0 (U2 hwA (U2 kA (U2 rA (U2 h4 (U2 hb (U2 zv (U2 zl (U2 hZ zo))))))))
 clear kA rA hwA h2 h3 h4 h5 h zv zl zo hZ
 go_enter func29,ntmps29
 go_upto_region 3 with (first
  |(with_reducible refine F5 _ _ rfl 34 rfl _ HA.o.2.2.2.2.2.1 HA.o.1 ?_)
  |(go_at_call 98;refine (bH A g0 c b.length b _ rfl HA.o.2.2.2.1 (by have:=HA.o.2.2.2.2.1;omega)).mono ?_;rintro e w1 ⟨p,g,rfl,d1,d2,d3,d4⟩;have D1:=U0 (U2 d1 (U2 d2 (U2 d3 d4)));clear d1 d2 d3 d4)
  |(go_at_call 99;refine (nR p g b _ D1.o.1 HA.o.2.2.2.2.1).mono ?_;rintro e w2 ⟨q,rfl,n1,n2,n3,k2⟩;obtain⟨X,hX⟩:∃ X,q8 q I4 I4 I4 I4 I4=X:=⟨_,rfl⟩;have xl:X.length=87:=(hX▸G8 n1 n2);have xo:∀ u∈X,u.oneCell'=true:=(hX▸yA rfl rfl rfl rfl rfl);rw[hX];obtain⟨tb,htb⟩:∃ b,w2.heap.size=b:=⟨_,rfl⟩;obtain⟨w3,hw3⟩:∃ W,w2.alloc (.cells Z.toArray 34)=W:=⟨_,rfl⟩;have k3:U1 [] w2 w3:=hw3▸(U1.refl [] w2).alloc _;have r3:l5 w3 tb 34 Z.toArray:=htb▸hw3▸l5.new _ _ _;have H2:=U0 (U2 xl (U2 xo (U2 k2 (U2 k3 (U2 r3 (U2 hX n3))))));have HW:=U0 (U2 hw3 htb);clear n1 n2 n3 k2 hX xl xo htb hw3 k3 r3)
  |(with_reducible refine F5 _ _ rfl 34 rfl _ HA.o.2.2.2.2.2.1 HW.o.1 ?_;rw[HW.o.2])
  |(refine wpList_store_mid rfl 34 (.tmp 5) (.tmp 12) rfl tb 0 X.toArray rfl rfl (H2.o.2.2.2.2.1.there (by rw[U4,U4,H2.o.1,HA.o.2.2.2.2.2.2.1];exact Nat.le_refl _)) (by rw[U4,H2.o.1];exact I5) (all_oneCell_toArray H2.o.2.1) ?_))
 have k4:U1 [tb] w3 (w3.setCells tb 0 X):=(U1.refl [tb] w3).setL (.inl (by simp))
 have hwp:w.heap.size<p:=by have:=D1.o.2.1;have:=HA.o.2.2.1.lt;omega
 have hpt:p<tb:=by have:=D1.o.1.lt;have:=H2.o.2.2.1.size;have:=HW.o.2;omega
 have rt:l5 (w3.setCells tb 0 X) tb 34 X.toArray:=by
  have:=H2.o.2.2.2.2.1.setL (vs:=X) (o:=0)
  rw[F7 (by rw[U4,H2.o.1,HA.o.2.2.2.2.2.2.1])] at this
  exact this
 have rz:l5 (w3.setCells tb 0 X) w.heap.size 34 Z.toArray:=k4.row (H2.o.2.2.2.1.row (H2.o.2.2.1.row (D1.o.2.2.2.row HA.o.2.2.1 (by simp)) (by simp;omega)) (by simp)) (by simp;omega)
 have kp:U1 [] w (w3.setCells tb 0 X):=(((HA.o.2.1.then D1.o.2.2.2 (by simp)).then H2.o.2.2.1 (fun x hx=> .inr (by simp at hx;omega))).then H2.o.2.2.2.1 (by simp)).then k4 (fun x hx=> .inr (by simp at hx;omega))
 obtain⟨w4,hw4⟩:∃ W,w3.setCells tb 0 X=W:=⟨_,rfl⟩
 rw[hw4] at k4 rt rz kp
 try rw[hw4]
 have rsZ:∀ wx,l5 wx w.heap.size 34 Z.toArray→l5 (wx.setCells w.heap.size 0 Z) w.heap.size 34 Z.toArray:=fun wx hh=>by
  have:=hh.setL (vs:=Z) (o:=0)
  rw[F7 (by rw[U4])] at this
  exact this
 have bad:∀ (c1:Int) (wx:World),U1 [] w wx→AA b=(G9,c1)→∃ X G,Ending.returned (.tuple #[.agg Z.toArray,.int .i64 c1])= .returned (.tuple #[.agg (X:List Value).toArray,.int .i64 (AA b).2])∧iB (wx.setCells w.heap.size 0 Z) G ((AA b).1,X)∧I9 w (wx.setCells w.heap.size 0 Z) G∧U1 [] w (wx.setCells w.heap.size 0 Z):=by
  intro c1 wx hk he
  rw[he]
  exact⟨Z,[],rfl,⟨I4,I4,I4,I4,I4,HA.o.2.2.2.2.2.2.2.1.symm,mE _ _⟩,by simp[I9],hk.setL (.inr (Nat.le_refl _))⟩
 have iz:(prog.info? 34).map (·.size)=some Z.toArray.size:=by rw[U4,HA.o.2.2.2.2.2.2.1];exact I5
 have HR:=U0 (U2 rsZ (U2 bad (U2 rz (U2 kp (U2 rt iz)))))
 have HK4:=U0 (U2 k4 (U2 hwp hpt))
 clear rsZ bad rz kp rt k4 hwp hpt hw4 iz
 by_cases he:vF b=0
 ·have he':(vF b==0)=true:=by simp[he]
  obtain⟨hq,hrd⟩:=H2.o.2.2.2.2.2.2 he
  have hXq:q8 (XC b).1 I4 I4 I4 I4 I4=X:=hq▸H2.o.2.2.2.2.2.1
  have rd4:YA w4 p g (XC b).2.1:=(hrd.keep H2.o.2.2.2.1 (by simp) (by simp)).keep HK4.o.1 (by have:=HK4.o.2.2;simp;omega) (fun hne=>by have:=hrd.gl hne;have:=HW.o.2;simp;omega)
  have hbd:=eT b p g w4 rd4 he (Nat.le_trans (mR b) HA.o.2.2.2.2.1)
  unfold vE at hbd
  rw[hXq] at hbd
  obtain⟨S,hS⟩:∃ s,OE (l6 (TD b).kind) (XC b)=s:=⟨_,rfl⟩
  have pb:= @XH b he
  have pg:= @mG b he
  rw[hS] at hbd pb pg
  have hfit:S.1.fits:=by rw[←hS];exact zM (yN b)
  have hgl:S.2.1.l≠[]→g<tb:=fun hne=>by rw[←hS] at hne;have:=hrd.gl (SS hne);have:=HW.o.2;omega
  obtain⟨E,hE⟩:∃ e,R8 S.2.2 S.2.1.e=e:=⟨_,rfl⟩
  rw[hE] at hbd pb pg
  have HBd:=U0 hbd
  have HEE:=U0 (U2 hE (U2 hfit hgl))
  have HPP:=U0 (U2 pb pg)
  clear hbd pb pg hS hE hq hrd hXq rd4 he hfit hgl
  have kb:∀ X5:List Value,X5.length=87→∀ w5:World,U1 [p] w4 w5→l5 w5 tb 34 X.toArray∧l5 (w5.setCells tb 0 X5) tb 34 X5.toArray∧l5 (w5.setCells tb 0 X5) w.heap.size 34 Z.toArray∧U1 [] w (w5.setCells tb 0 X5)∧U1 [tb] w5 (w5.setCells tb 0 X5):=fun X5 h5 w5 k5=>by
   have h1:=HK4.o.2.1
   have h2:=HK4.o.2.2
   have k6:U1 [tb] w5 (w5.setCells tb 0 X5):=(U1.refl [tb] w5).setL (.inl (by simp))
   have r5:=k5.row HR.o.2.2.2.2.1 (by simp;omega)
   have r6:=r5.setL (vs:=X5) (o:=0)
   rw[F7 (by rw[U4,H2.o.1,h5])] at r6
   exact⟨r5,r6,k6.row (k5.row HR.o.2.2.1 (by simp;omega)) (by simp;omega),(HR.o.2.2.2.1.then k5 (fun x hx=> .inr (by simp at hx;omega))).then k6 (fun x hx=> .inr (by simp at hx;omega)),k6⟩
  have HKB:=U0 kb
  clear kb
  go_upto_region 5 with (first
   |(refine wpList_load_mid rfl 34 (.tmp 5) rfl tb 0 rfl X _ HR.o.2.2.2.2.1.rangeAll underlying34 rfl (by rw[H2.o.1];exact I5) ?_)
   |(go_at_call 100;refine HBd.o.mono ?_;rintro e w5 ⟨X5,rfl,xl5,xo5,g5,k5⟩;have H5:=U0 (U2 xl5 (U2 xo5 (U2 g5 (HKB.o X5 xl5 w5 k5))));clear xl5 xo5 g5 k5)
   |(refine wpList_store_mid rfl 34 (.tmp 5) (.tmp 20) rfl tb 0 X5.toArray rfl rfl (H5.o.2.2.2.1.there (by rw[U4,U4,H5.o.1,H2.o.1];exact Nat.le_refl _)) (by rw[U4,H5.o.1];exact I5) (all_oneCell_toArray H5.o.2.1) ?_))
  have g6:=H5.o.2.2.2.2.2.1
  by_cases he:E=0
  ·subst he
   obtain⟨G,i5,n5,r5⟩:=H5.o.2.2.1 rfl
   have hz:=tN HEE.o.1
   have k6:=H5.o.2.2.2.2.2.2.2
   have htb:tb<w4.heap.size:=HR.o.2.2.2.2.1.lt
   have hG:∀ y∈G,tb<y∧w.heap.size<y∧y<w5.heap.size:=fun y hy=>by have h1:=n5 y hy;have h2:=HK4.o.2;omega
   have rd6:YA (w5.setCells tb 0 X5) p g S.2.1:=r5.keep k6 (by have:=HK4.o.2.2;simp;omega) (fun hne=>by have:=HEE.o.2.2 hne;simp;omega)
   have i6:iB (w5.setCells tb 0 X5) G (S.1,X5):=i5.keep k6 (fun y hy=>by have:=hG y hy;simp;omega)
   have HC:=U0 (aQ G S.1 X5 _ i6 HEE.o.2.1)
   have r6:l5 (w5.setCells tb 0 X5) tb 34 X5.toArray:=H5.o.2.2.2.2.1
   have rz6:l5 (w5.setCells tb 0 X5) w.heap.size 34 Z.toArray:=g6
   have kp6:U1 [] w (w5.setCells tb 0 X5):=H5.o.2.2.2.2.2.2.1
   have hpg:=HPP.o.2 rfl
   have i5x:(prog.info? 34).map (·.size)=some X5.length:=by rw[H5.o.1];exact I5
   obtain⟨w6,hw6⟩:∃ W,w5.setCells tb 0 X5=W:=⟨_,rfl⟩
   have s56:=k6.size
   rw[hw6] at rd6 i6 HC r6 rz6 kp6 s56
   rw[hw6]
   have H6:=U0 (U2 rd6 (U2 i6 (U2 r6 (U2 rz6 (U2 kp6 (U2 (fun y hy=>(by have:=hG y hy;omega:w.heap.size<y∧y<w6.heap.size):∀ y∈G,w.heap.size<y∧y<w6.heap.size) i5x))))))
   clear i5 n5 r5 k6 htb hG rd6 i6 r6 rz6 kp6 i5x hw6 s56 g6
   by_cases hl:S.2.1.end_=0
   ·have hl':(S.2.1.end_ !=0)=false:=by simp[hl]
    cases hok:S.1.ok
    ·have HP:=U0 (show AA b=(G9,4) by rw[hpg,hl,hok];rfl)
     have HK2:=U0 hok
     clear hl hok hpg hz
     go_wp2_with (first
      |(go_at_call 101;refine (SC p g S.2.1 _ H6.o.1).mono ?_;rintro e wy ⟨rfl,rfl⟩)
      |(refine j5 34 (.tmp 5) rfl tb 0 rfl X5 _ H6.o.2.2.1.rangeAll underlying34 rfl H6.o.2.2.2.2.2.2 ?_ ?_;·rfl)
      |(go_at_call 10;refine HC.o.mono ?_;rintro e w9 ⟨rfl,k9⟩;rw[HK2.o];have R9:=U0 (k9.row H6.o.2.2.2.1 (by simp));have K9:=U0 (H6.o.2.2.2.2.1.then k9 (by simp));clear k9)
      |(refine wpList_store_mid rfl 34 (.tmp 2) (.tmp 34) rfl w.heap.size 0 Z.toArray rfl (by rw[←HA.o.2.2.2.2.2.2.2.1];rfl) (R9.o.there (by omega)) HR.o.2.2.2.2.2 (all_oneCell_toArray HA.o.2.2.2.2.2.2.2.2) ?_))
     refine bodyPost_ret (U5 rfl _ _ w.heap.size 34 _ (0,0) _ rfl (HR.o.1 _ R9.o) underlying34 rfl HR.o.2.2.2.2.2) rfl ?_
     exact HR.o.2.1 _ _ K9.o HP.o
    ·have HP:=U0 (show AA b=(S.1,0) by rw[hpg,hl,hok];rfl)
     have HK2:=U0 hok
     clear hl hok hpg hz
     go_wp2_with (first
      |(go_at_call 101;refine (SC p g S.2.1 _ H6.o.1).mono ?_;rintro e wy ⟨rfl,rfl⟩)
      |(refine j5 34 (.tmp 5) rfl tb 0 rfl X5 _ H6.o.2.2.1.rangeAll underlying34 rfl H6.o.2.2.2.2.2.2 ?_ ?_;·rfl)
      |(go_at_call 10;refine HC.o.mono ?_;rintro e w9 ⟨rfl,k9⟩;rw[HK2.o];have R9:=U0 (U2 (k9.row H6.o.2.2.2.1 (by simp)) (k9.row H6.o.2.2.1 (by simp)));have K9:=U0 (U2 k9 (H6.o.2.2.2.2.1.then k9 (by simp)));clear k9)
      |(refine wpList_load_mid rfl 34 (.tmp 5) rfl tb 0 rfl X5 _ R9.o.2.rangeAll underlying34 rfl H6.o.2.2.2.2.2.2 ?_)
      |(refine wpList_store_mid rfl 34 (.tmp 2) (.tmp 35) rfl w.heap.size 0 X5.toArray rfl rfl (R9.o.1.there (by rw[U4,U4,H5.o.1,HA.o.2.2.2.2.2.2.1];exact Nat.le_refl _)) (by rw[U4,H5.o.1];exact I5) (all_oneCell_toArray H5.o.2.1) ?_))
     have rsX:l5 (w9.setCells w.heap.size 0 X5) w.heap.size 34 X5.toArray:=by
      have:=R9.o.1.setL (vs:=X5) (o:=0)
      rw[F7 (by rw[U4,HA.o.2.2.2.2.2.2.1,H5.o.1])] at this
      exact this
     refine bodyPost_ret (U5 rfl _ _ w.heap.size 34 _ (0,0) _ rfl rsX underlying34 rfl (by rw[U4,H5.o.1];exact I5)) rfl ?_
     have ks:=(U1.refl [w.heap.size] w9).setL (vs:=X5) (g:=w.heap.size) (o:=0) (by simp)
     rw[HP.o]
     exact⟨X5,G,rfl,(H6.o.2.1.keep K9.o.1 (by simp)).keep ks (fun y hy=>by have:=H6.o.2.2.2.2.2.1 y hy;simp;omega),fun y hy=>⟨by have:=H6.o.2.2.2.2.2.1 y hy;omega,by have h1:=H6.o.2.2.2.2.2.1 y hy;have h2:=K9.o.1.size;have h3:=ks.size;omega⟩,K9.o.2.setL (.inr (Nat.le_refl _))⟩
   ·have HP:=U0 (show AA b=(G9,4) by
     have h4:S.2.1.end_=4:=by unfold RS.end_ at hl ⊢;rw[if_pos hz.2] at hl ⊢;split at hl<;>simp_all
     rw[hpg,h4];rfl)
    have hl':(S.2.1.end_ !=0)=true:=by simp[hl]
    clear hl hpg hz
    go_wp2_with (first
     |(go_at_call 101;refine (SC p g S.2.1 _ H6.o.1).mono ?_;rintro e wy ⟨rfl,rfl⟩)
     |(refine wpList_store_mid rfl 34 (.tmp 2) (.tmp 34) rfl w.heap.size 0 Z.toArray rfl (by rw[←HA.o.2.2.2.2.2.2.2.1];rfl) (H6.o.2.2.2.1.there (by omega)) HR.o.2.2.2.2.2 (all_oneCell_toArray HA.o.2.2.2.2.2.2.2.2) ?_))
    refine bodyPost_ret (U5 rfl _ _ w.heap.size 34 _ (0,0) _ rfl (HR.o.1 _ H6.o.2.2.2.1) underlying34 rfl HR.o.2.2.2.2.2) rfl ?_
    exact HR.o.2.1 _ _ H6.o.2.2.2.2.1 HP.o
  ·have HP:=U0 (HPP.o.1 he)
   have he2:(E !=0)=true:=by simp[he]
   clear he g6
   go_wp2_with (first
    |(refine wpList_store_mid rfl 34 (.tmp 2) (.tmp 24) rfl w.heap.size 0 Z.toArray rfl (by rw[←HA.o.2.2.2.2.2.2.2.1];rfl) (H5.o.2.2.2.2.2.1.there (by omega)) HR.o.2.2.2.2.2 (all_oneCell_toArray HA.o.2.2.2.2.2.2.2.2) ?_))
   refine bodyPost_ret (U5 rfl _ _ w.heap.size 34 _ (0,0) _ rfl (HR.o.1 _ H5.o.2.2.2.2.2.1) underlying34 rfl HR.o.2.2.2.2.2) rfl ?_
   exact HR.o.2.1 _ _ H5.o.2.2.2.2.2.2.1 HP.o
 ·have HP:=U0 (aJ he)
  have he1:(vF b==0)=false:=by simp[he]
  have he2:(vF b !=0)=true:=by simp[he]
  clear he
  go_wp2_with (first
   |(refine wpList_store_mid rfl 34 (.tmp 2) (.tmp 24) rfl w.heap.size 0 Z.toArray rfl (by rw[←HA.o.2.2.2.2.2.2.2.1];rfl) (HR.o.2.2.1.there (by omega)) HR.o.2.2.2.2.2 (all_oneCell_toArray HA.o.2.2.2.2.2.2.2.2) ?_))
  refine bodyPost_ret (U5 rfl _ _ w.heap.size 34 _ (0,0) _ rfl (HR.o.1 _ HR.o.2.2.1) underlying34 rfl HR.o.2.2.2.2.2) rfl ?_
  exact HR.o.2.1 _ _ HR.o.2.2.2.1 HP.o
end Go.Proofs.YthfdkonhjpdflaaGreatDoor
