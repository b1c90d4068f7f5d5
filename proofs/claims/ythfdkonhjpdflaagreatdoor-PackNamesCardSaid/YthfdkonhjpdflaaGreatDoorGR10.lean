import Derived.Test.YthfdkonhjpdflaaGreatDoorGRD
import Derived.Test.YthfdkonhjpdflaaGreatDoorPkD
import Derived.Test.YthfdkonhjpdflaaGreatDoorRCE
import Derived.Test.YthfdkonhjpdflaaGreatDoorPkJ
import Derived.Deep.QuietTactic
import Derived.BigQuiet
import Derived.BigRegion
namespace Go.Proofs.YthfdkonhjpdflaaGreatDoor
open Go.RowKit Go.Proofs.Tryz
set_option linter.unusedVariables false
set_option maxRecDepth 100000
set_option linter.unusedSimpArgs false
set_option maxHeartbeats 16000000
theorem tQ (b:List UInt8):(dw b).1.fits:=by
 by_cases h:jP b=0
 ·by_cases h2:bD (ji (aL (iG b).kind) (gu b)).2.2 (ji (aL (iG b).kind) (gu b)).2.1.e=0
  ·rw[nA h h2]
   unfold eL
   dsimp only
   split
   ·exact uq (uZ b)
   ·exact fw
  ·rw[tO h h2];exact fw
 ·rw[oK h];exact fw
theorem q8 (b:List UInt8):(cz b).1.chain.length≤5:=by
 unfold cz eL
 dsimp only
 split
 ·show (iO _ _).1.length≤5
  rw[nC];unfold DT Cq;split<;>omega
 ·simp[aW]
def jG (p:PK) (w:World) (G:List Nat) (X:List Value):Prop:=dS w G (p,X)
def jU (r:RQ) (w:World) (G:List Nat) (X:List Value):Prop:=∃ ev,X=bE r ev∧l5 w G r ev
def jS (r:AN) (w:World) (G:List Nat) (X:List Value):Prop:=∃ ev,X=bK r ev∧mM w G r ev
def jT (r:CF) (w:World) (G:List Nat) (X:List Value):Prop:=∃ ev,X=bZ r ev∧bq w G ev r.chain
theorem jG.keep {p:PK} {S:List Nat} {w w':World} {G:List Nat} {X:List Value} (h:jG p w G X) (hk:ag S w w') (hS:∀ y∈G,y∉S):jG p w' G X:=dS.keep h hk hS
theorem jU.keep {p:RQ} {S:List Nat} {w w':World} {G:List Nat} {X:List Value} (h:jU p w G X) (hk:ag S w w') (hS:∀ y∈G,y∉S):jU p w' G X:=by
 obtain⟨ev,e,h1,h2⟩:=h
 exact⟨ev,e,h1,h2.keep hk hS⟩
theorem jS.keep {p:AN} {S:List Nat} {w w':World} {G:List Nat} {X:List Value} (h:jS p w G X) (hk:ag S w w') (hS:∀ y∈G,y∉S):jS p w' G X:=by
 obtain⟨ev,e,h1,h2⟩:=h
 exact⟨ev,e,h1,h2.keep hk hS⟩
theorem jT.keep {p:CF} {S:List Nat} {w w':World} {G:List Nat} {X:List Value} (h:jT p w G X) (hk:ag S w w') (hS:∀ y∈G,y∉S):jT p w' G X:=by
 obtain⟨ev,e,h1⟩:=h
 exact⟨ev,e,h1.keep hk hS⟩
def oO (P:World→List Nat→List Value→Prop) (n:Nat) (E:Int) (w:World) (e:Ending) (w':World):Prop:=∃ X G,e= .returned (.tuple #[.agg (X:List Value).toArray,.int .i64 E])∧P w' G X∧bP w w' G∧ag [] w w'∧X.length=n∧∀ u∈X,u.oneCell'=true
theorem oO.rq {f:Nat} {v:Value} {r:RQ} {E:Int} {w:World} (h:Calls prog f #[v] w fun e w'=>∃ ev G,e= .returned (.tuple #[.agg (bE r ev).toArray,.int .i64 E])∧l5 w' G r ev∧bP w w' G∧ag [] w w'):Calls prog f #[v] w (oO (jU r) 37 E w):=by
 refine h.mono ?_
 rintro e w' ⟨ev,G,rfl,h1,h2,h3⟩
 exact⟨_,G,rfl,⟨ev,rfl,h1⟩,h2,h3,bB h1.1,dR _ h1.2.one⟩
theorem oO.an {f:Nat} {v:Value} {r:AN} {E:Int} {w:World} (h:Calls prog f #[v] w fun e w'=>∃ ev G,e= .returned (.tuple #[.agg (bK r ev).toArray,.int .i64 E])∧mM w' G r ev∧bP w w' G∧ag [] w w'):Calls prog f #[v] w (oO (jS r) 38 E w):=by
 refine h.mono ?_
 rintro e w' ⟨ev,G,rfl,h1,h2,h3⟩
 exact⟨_,G,rfl,⟨ev,rfl,h1⟩,h2,h3,bL h1.1,eB _ h1.2.one⟩
theorem oO.cf {f:Nat} {v:Value} {r:CF} {E:Int} {w:World} (h:Calls prog f #[v] w fun e w'=>∃ ev G,e= .returned (.tuple #[.agg (bZ r ev).toArray,.int .i64 E])∧bq w' G ev r.chain∧bP w w' G∧ag [] w w'):Calls prog f #[v] w (oO (jT r) 3 E w):=by
 refine h.mono ?_
 rintro e w' ⟨ev,G,rfl,h1,h2,h3⟩
 exact⟨_,G,rfl,⟨ev,rfl,h1⟩,h2,h3,rfl,fM _ h1.one⟩
theorem oO.pk {f:Nat} {v:Value} {r:PK} {E:Int} {w:World} (h:Calls prog f #[v] w fun e w'=>∃ ev av cv vv bw G,e= .returned (.tuple #[.agg (bz r ev av cv vv bw).toArray,.int .i64 E])∧gX w' G r ev av cv vv bw∧bP w w' G∧ag [] w w'):Calls prog f #[v] w (oO (jG r) 87 E w):=by
 refine h.mono ?_
 rintro e w' ⟨ev,av,cv,vv,bw,G,rfl,h1,h2,h3⟩
 have it:dS w' G (r,bz r ev av cv vv bw):=⟨_,_,_,_,_,rfl,h1⟩
 exact⟨_,G,rfl,it,h2,h3,it.len,it.one⟩
theorem oO.px {f:Nat} {v:Value} {r:PK} {E:Int} {w:World} (h:Calls prog f #[v] w fun e w'=>∃ X G,e= .returned (.tuple #[.agg (X:List Value).toArray,.int .i64 E])∧dS w' G (r,X)∧bP w w' G∧ag [] w w'):Calls prog f #[v] w (oO (jG r) 87 E w):=by
 refine h.mono ?_
 rintro e w' ⟨X,G,rfl,h1,h2,h3⟩
 exact⟨_,G,rfl,h1,h2,h3,h1.len,h1.one⟩
theorem same0 {p:PK} {w:World} {F G:List Nat} {X Y:List Value} (h:jG p w F X) (h':jG p w G Y) (hf:p.fits):Calls prog 13 #[.agg X.toArray,.agg Y.toArray] w fun e w'=>e= .returned (.bool true)∧ag [] w w':=by
 have:=tY F G p p X Y w h h' hf hf
 rwa [PK.same_self] at this
theorem same1 {p:RQ} {w:World} {F G:List Nat} {X Y:List Value} (h:jU p w F X) (h':jU p w G Y):Calls prog 36 #[.agg X.toArray,.agg Y.toArray] w fun e w'=>e= .returned (.bool true)∧ag [] w w':=by
 obtain⟨ev,rfl,h1⟩:=h
 obtain⟨ew,rfl,h2⟩:=h'
 have:=qH F G p p ev ew w h1 h2
 rwa [RQ.same_self] at this
theorem same2 {p:AN} {w:World} {F G:List Nat} {X Y:List Value} (h:jS p w F X) (h':jS p w G Y):Calls prog 37 #[.agg X.toArray,.agg Y.toArray] w fun e w'=>e= .returned (.bool true)∧ag [] w w':=by
 obtain⟨ev,rfl,h1⟩:=h
 obtain⟨ew,rfl,h2⟩:=h'
 have:=qG F G p p ev ew w h1 h2
 rwa [AN.same_self] at this
theorem same3 {p:CF} {w:World} {F G:List Nat} {X Y:List Value} (h:jT p w F X) (h':jT p w G Y) (hb:p.chain.length≤17592186044416):Calls prog 38 #[.agg X.toArray,.agg Y.toArray] w fun e w'=>e= .returned (.bool true)∧ag [] w w':=by
 obtain⟨ev,rfl,h1⟩:=h
 obtain⟨ew,rfl,h2⟩:=h'
 have:=l6 F G p p ev ew w h1 h2 hb hb
 rwa [CF.same_self] at this
def trR (G:List Nat) (w1 wx:World):Prop:=ag G w1 wx∧kX w1 wx
theorem trR.set {G:List Nat} {w1 wx:World} (h:trR G w1 wx) {g j:Nat} (hg:g∈G) {k:IntKind} {z:Int} (hz:wx.cell? ⟨g,j,none⟩=some (.int k z)) (u:Int):trR G w1 (wx.setCell ⟨g,j,none⟩ (.int k u)):=by
 have kk:ag G wx (wx.setCell ⟨g,j,none⟩ (.int k u)):=(ag.refl G wx).setCell _ _ (.inl hg)
 exact⟨h.1.then kk (fun x hx=> .inl hx),h.2.set hz u⟩
theorem gP (A:Option Addr) (g c:Nat) (b0:List UInt8) (w:World) (hs:dI w A g b0) (hlc:b0.length≤c) (hcm:c≤maxLen) (hfl:d9 w):
 Calls prog 4 #[.slice A b0.length c] w fun e w'=>e= .returned (.bool true)∧ag [] w w':=by
 have hcm':=hcm
 unfold maxLen at hcm
 obtain⟨b,hL⟩:∃ b,b=b0.take 3000:=⟨_,rfl⟩
 have sb:dI w A g b:=by rw[hL];exact hs.take 3000
 have b3:b.length≤3000:=by rw[hL,List.length_take];omega
 have bc:b.length≤c:=by rw[hL,List.length_take];omega
 have e1:(if 3000<(b0.length:Int) then 3000 else (b0.length:Int)).toNat=b.length:=by rw[hL,List.length_take];split<;>omega
 have E1:=aa e1
 have hB:aS w [g] (.slice A b.length c) b:=⟨A,c,g,rfl,bc,hcm',sb,fun _=>by simp⟩
 have HB:=aa hB
 have HF:=aa hfl
 have hbb:(b==b)=true:=by simp
 clear e1 hL hs hB hfl sb hcm'
 have zv:=jh
 obtain⟨Z,hZ⟩:∃ Z,bz bO ay ay ay ay ay=Z:=⟨_,rfl⟩
 have zl:=fQ
 rw[hZ] at zv zl
 have HZ:=aa (ah zv zl)
 have ZR:=aa (show (prog.info? 26).bind (·.zero)=some (.agg (bE aV ay).toArray)∧(bE aV ay).length=37 from⟨nM,bB aK⟩)
 have ZA:=aa (show (prog.info? 28).bind (·.zero)=some (.agg (bK aY ay).toArray)∧(bK aY ay).length=38 from⟨qR,bL aM⟩)
 have ZC:=aa (show (prog.info? 31).bind (·.zero)=some (.agg (bZ aW ay).toArray)∧(bZ aW ay).length=3 from⟨oW,rfl⟩)
 clear zv zl hZ
 obtain⟨p0,hp0⟩:∃ x,(dw b).1=x:=⟨_,rfl⟩
 obtain⟨E0,hE0⟩:∃ x,(dw b).2=x:=⟨_,rfl⟩
 obtain⟨p1,hp1⟩:∃ x,(dC b).1=x:=⟨_,rfl⟩
 obtain⟨E2,hE2⟩:∃ x,(dC b).2=x:=⟨_,rfl⟩
 obtain⟨p2,hp2⟩:∃ x,(dB b).1=x:=⟨_,rfl⟩
 obtain⟨E4,hE4⟩:∃ x,(dB b).2=x:=⟨_,rfl⟩
 obtain⟨p3,hp3⟩:∃ x,(cz b).1=x:=⟨_,rfl⟩
 obtain⟨E6,hE6⟩:∃ x,(cz b).2=x:=⟨_,rfl⟩
 have HE:=aa (ah (ah hp0 hE0) (ah (ah hp1 hE2) (ah (ah hp2 hE4) (ah hp3 hE6))))
 have HFT:=aa (show p0.fits∧p3.chain.length≤17592186044416 by rw[←hp0,←hp3];exact⟨tQ b,Nat.le_trans (q8 b) (by decide)⟩)
 clear hp0 hE0 hp1 hE2 hp2 hE4 hp3 hE6
 have ne0:(E0 !=E0)=false:=by simp
 have ne2:(E2 !=E2)=false:=by simp
 have ne4:(E4 !=E4)=false:=by simp
 have ne6:(E6 !=E6)=false:=by simp
 go_enter func4,ntmps4
 go_upto_region 2 with (first
  |(go_at_call 27;simp only[E1.o];refine (jE [g] _ b _ HB.o (by omega)).mono ?_;rintro e w1 ⟨u1,G1,rfl,i1,n1,k1⟩;obtain⟨A1,c1,g1,rfl,j1,j2,j3,j4⟩:=id i1;have I1:=aa (ah i1 (ah n1 (ah k1 (ah j2 (ah j3 j1)))));clear i1 n1 k1 j1 j2 j3 j4))
 generalize (if 3000<(b0.length:Int) then 3000 else (b0.length:Int))=zz
 go_upto_region 3 with (first
  |(go_at_call 27;refine (jE G1 _ b _ I1.o.1 (by omega)).mono ?_;rintro e v0 ⟨u2,G2,rfl,i2,n2,k2⟩;obtain⟨A2,c2,g2,rfl,j1,j2,j3,j4⟩:=id i2;have I2:=aa (ah i2 (ah n2 (ah k2 j3)));clear i2 n2 k2 j1 j2 j3 j4))
 have HI:=aa (ah (I1.o.1.keep I2.o.2.2.1 (by simp)) (ah I2.o.1 (ah (I1.o.2.2.1.then I2.o.2.2.1 (by simp)) (ah (fun y hy=>(by have h1:=I1.o.2.1 y hy;have h2:=I2.o.2.2.1.size;omega:w.heap.size≤y∧y<v0.heap.size):∀ y∈G1,w.heap.size≤y∧y<v0.heap.size) (ah I1.o.2.2.2.1 (ah (I1.o.2.2.2.2.1.keep I2.o.2.2.1 (by simp)) (ah I2.o.2.2.2 I1.o.2.2.2.2.2)))))))
 have K0:=aa (ag.refl [] v0)
 have D0:=K0
 clear I1 I2 HB
 have C0:aH (∀ wx,ag [] v0 wx→Calls prog 28 #[.slice A1 b.length c1] wx (oO (jG p0) 87 E0 wx)):=aa (fun wx k=>oO.pk (HE.o.1.1▸HE.o.1.2▸lw G1 b _ wx (HI.o.1.keep k (by simp)) (by omega) (HF.o.keep (HI.o.2.2.1.then k (by simp)) (by simp))))
 have C1:aH (∀ wx,ag [] v0 wx→Calls prog 29 #[.slice A2 b.length c2] wx (oO (jG p0) 87 E0 wx)):=aa (fun wx k=>oO.px (HE.o.1.1▸HE.o.1.2▸xx G2 b _ wx (HI.o.2.1.keep k (by simp)) (by omega)))
 have C2:aH (∀ wx,ag [] v0 wx→Calls prog 30 #[.slice A1 b.length c1] wx (oO (jU p1) 37 E2 wx)):=aa (fun wx k=>oO.rq (HE.o.2.1.1▸HE.o.2.1.2▸oM G1 b _ wx (HI.o.1.keep k (by simp)) (by omega)))
 have C3:aH (∀ wx,ag [] v0 wx→Calls prog 31 #[.slice A2 b.length c2] wx (oO (jU p1) 37 E2 wx)):=aa (fun wx k=>oO.rq (HE.o.2.1.1▸HE.o.2.1.2▸mh G2 b _ wx (HI.o.2.1.keep k (by simp)) (by omega)))
 have C4:aH (∀ wx,ag [] v0 wx→Calls prog 32 #[.slice A1 b.length c1] wx (oO (jS p2) 38 E4 wx)):=aa (fun wx k=>oO.an (HE.o.2.2.1.1▸HE.o.2.2.1.2▸oH G1 b _ wx (HI.o.1.keep k (by simp)) (by omega)))
 have C5:aH (∀ wx,ag [] v0 wx→Calls prog 33 #[.slice A2 b.length c2] wx (oO (jS p2) 38 E4 wx)):=aa (fun wx k=>oO.an (HE.o.2.2.1.1▸HE.o.2.2.1.2▸mg G2 b _ wx (HI.o.2.1.keep k (by simp)) (by omega)))
 have C6:aH (∀ wx,ag [] v0 wx→Calls prog 34 #[.slice A1 b.length c1] wx (oO (jT p3) 3 E6 wx)):=aa (fun wx k=>oO.cf (HE.o.2.2.2.1▸HE.o.2.2.2.2▸oJ G1 b _ wx (HI.o.1.keep k (by simp)) (by omega)))
 have C7:aH (∀ wx,ag [] v0 wx→Calls prog 35 #[.slice A2 b.length c2] wx (oO (jT p3) 3 E6 wx)):=aa (fun wx k=>oO.cf (HE.o.2.2.2.1▸HE.o.2.2.2.2▸jH G2 b _ wx (HI.o.2.1.keep k (by simp)) (by omega)))
 go_upto_region 4 with (first
  |(go_at_call 28;refine (C0.o _ K0.o).mono ?_;rintro e x0 ⟨X0,J0,rfl,h1,h2,h3,h4,h5⟩;have Q0:=aa (ah h1 (ah h2 (ah h3 (ah h4 h5))));clear h1 h2 h3 h4 h5)
  |(with_reducible refine aD _ _ rfl 34 rfl _ HZ.o.1 rfl ?_)
  |(refine wpList_store_mid rfl 34 (.tmp 5) (.tmp 33) rfl x0.heap.size 0 X0.toArray rfl rfl (dM (by rw[Q0.o.2.2.2.1];exact HZ.o.2.symm)) (by rw[az,Q0.o.2.2.2.1];exact aF) (all_oneCell_toArray Q0.o.2.2.2.2) ?_))
 have hst:=fB (w:=x0) (t:=34) (Z:=Z) (X:=X0) (by rw[Q0.o.2.2.2.1];exact HZ.o.2.symm)
 obtain⟨v1,hw⟩:∃ W,(x0.alloc (.cells (Z).toArray 34)).setCells x0.heap.size 0 X0=W:=⟨_,rfl⟩
 rw[hw] at hst ⊢
 obtain⟨t0,ht⟩:∃ t,x0.heap.size=t:=⟨_,rfl⟩
 rw[ht] at hst ⊢
 have R0:=aa (show aC v1 t0 34 X0.toArray∧jG p0 v1 J0 X0∧(∀ y∈J0,v0.heap.size≤y)∧v0.heap.size≤t0∧X0.length=87 from⟨hst.1,Q0.o.1.keep hst.2 (by simp),fun y hy=>by have h1:=(Q0.o.2.1 y hy).1;have h2:=K0.o.size;omega,by have h1:=Q0.o.2.2.1.size;have h2:=K0.o.size;omega,Q0.o.2.2.2.1⟩)
 have D1:=aa (Q0.o.2.2.1.then hst.2 (by simp))
 have K1:=aa (K0.o.then D1.o (by simp))
 clear hst hw ht Q0 C0
 go_upto_region 5 with (first
  |(go_at_call 29;refine (C1.o _ K1.o).mono ?_;rintro e x1 ⟨X1,J1,rfl,h1,h2,h3,h4,h5⟩;have Q1:=aa (ah h1 (ah h2 (ah h3 (ah h4 h5))));clear h1 h2 h3 h4 h5)
  |(with_reducible refine aD _ _ rfl 34 rfl _ HZ.o.1 rfl ?_)
  |(refine wpList_store_mid rfl 34 (.tmp 7) (.tmp 38) rfl x1.heap.size 0 X1.toArray rfl rfl (dM (by rw[Q1.o.2.2.2.1];exact HZ.o.2.symm)) (by rw[az,Q1.o.2.2.2.1];exact aF) (all_oneCell_toArray Q1.o.2.2.2.2) ?_))
 have hst:=fB (w:=x1) (t:=34) (Z:=Z) (X:=X1) (by rw[Q1.o.2.2.2.1];exact HZ.o.2.symm)
 obtain⟨v2,hw⟩:∃ W,(x1.alloc (.cells (Z).toArray 34)).setCells x1.heap.size 0 X1=W:=⟨_,rfl⟩
 rw[hw] at hst ⊢
 obtain⟨t1,ht⟩:∃ t,x1.heap.size=t:=⟨_,rfl⟩
 rw[ht] at hst ⊢
 have R1:=aa (show aC v2 t1 34 X1.toArray∧jG p0 v2 J1 X1∧(∀ y∈J1,v0.heap.size≤y)∧v0.heap.size≤t1∧X1.length=87 from⟨hst.1,Q1.o.1.keep hst.2 (by simp),fun y hy=>by have h1:=(Q1.o.2.1 y hy).1;have h2:=K1.o.size;omega,by have h1:=Q1.o.2.2.1.size;have h2:=K1.o.size;omega,Q1.o.2.2.2.1⟩)
 have D2:=aa (Q1.o.2.2.1.then hst.2 (by simp))
 have K2:=aa (K1.o.then D2.o (by simp))
 clear hst hw ht Q1 C1
 go_upto_region 6 with (first
  |(go_at_call 30;refine (C2.o _ K2.o).mono ?_;rintro e x2 ⟨X2,J2,rfl,h1,h2,h3,h4,h5⟩;have Q2:=aa (ah h1 (ah h2 (ah h3 (ah h4 h5))));clear h1 h2 h3 h4 h5)
  |(with_reducible refine aD _ _ rfl 26 rfl _ ZR.o.1 rfl ?_)
  |(refine wpList_store_mid rfl 26 (.tmp 9) (.tmp 43) rfl x2.heap.size 0 X2.toArray rfl rfl (dM (by rw[Q2.o.2.2.2.1];exact ZR.o.2.symm)) (by rw[az,Q2.o.2.2.2.1];exact bN) (all_oneCell_toArray Q2.o.2.2.2.2) ?_))
 have hst:=fB (w:=x2) (t:=26) (Z:=bE aV ay) (X:=X2) (by rw[Q2.o.2.2.2.1];exact ZR.o.2.symm)
 obtain⟨v3,hw⟩:∃ W,(x2.alloc (.cells (bE aV ay).toArray 26)).setCells x2.heap.size 0 X2=W:=⟨_,rfl⟩
 rw[hw] at hst ⊢
 obtain⟨t2,ht⟩:∃ t,x2.heap.size=t:=⟨_,rfl⟩
 rw[ht] at hst ⊢
 have R2:=aa (show aC v3 t2 26 X2.toArray∧jU p1 v3 J2 X2∧(∀ y∈J2,v0.heap.size≤y)∧v0.heap.size≤t2∧X2.length=37 from⟨hst.1,Q2.o.1.keep hst.2 (by simp),fun y hy=>by have h1:=(Q2.o.2.1 y hy).1;have h2:=K2.o.size;omega,by have h1:=Q2.o.2.2.1.size;have h2:=K2.o.size;omega,Q2.o.2.2.2.1⟩)
 have D3:=aa (Q2.o.2.2.1.then hst.2 (by simp))
 have K3:=aa (K2.o.then D3.o (by simp))
 clear hst hw ht Q2 C2
 go_upto_region 7 with (first
  |(go_at_call 31;refine (C3.o _ K3.o).mono ?_;rintro e x3 ⟨X3,J3,rfl,h1,h2,h3,h4,h5⟩;have Q3:=aa (ah h1 (ah h2 (ah h3 (ah h4 h5))));clear h1 h2 h3 h4 h5)
  |(with_reducible refine aD _ _ rfl 26 rfl _ ZR.o.1 rfl ?_)
  |(refine wpList_store_mid rfl 26 (.tmp 11) (.tmp 48) rfl x3.heap.size 0 X3.toArray rfl rfl (dM (by rw[Q3.o.2.2.2.1];exact ZR.o.2.symm)) (by rw[az,Q3.o.2.2.2.1];exact bN) (all_oneCell_toArray Q3.o.2.2.2.2) ?_))
 have hst:=fB (w:=x3) (t:=26) (Z:=bE aV ay) (X:=X3) (by rw[Q3.o.2.2.2.1];exact ZR.o.2.symm)
 obtain⟨v4,hw⟩:∃ W,(x3.alloc (.cells (bE aV ay).toArray 26)).setCells x3.heap.size 0 X3=W:=⟨_,rfl⟩
 rw[hw] at hst ⊢
 obtain⟨t3,ht⟩:∃ t,x3.heap.size=t:=⟨_,rfl⟩
 rw[ht] at hst ⊢
 have R3:=aa (show aC v4 t3 26 X3.toArray∧jU p1 v4 J3 X3∧(∀ y∈J3,v0.heap.size≤y)∧v0.heap.size≤t3∧X3.length=37 from⟨hst.1,Q3.o.1.keep hst.2 (by simp),fun y hy=>by have h1:=(Q3.o.2.1 y hy).1;have h2:=K3.o.size;omega,by have h1:=Q3.o.2.2.1.size;have h2:=K3.o.size;omega,Q3.o.2.2.2.1⟩)
 have D4:=aa (Q3.o.2.2.1.then hst.2 (by simp))
 have K4:=aa (K3.o.then D4.o (by simp))
 clear hst hw ht Q3 C3
 go_upto_region 8 with (first
  |(go_at_call 32;refine (C4.o _ K4.o).mono ?_;rintro e x4 ⟨X4,J4,rfl,h1,h2,h3,h4,h5⟩;have Q4:=aa (ah h1 (ah h2 (ah h3 (ah h4 h5))));clear h1 h2 h3 h4 h5)
  |(with_reducible refine aD _ _ rfl 28 rfl _ ZA.o.1 rfl ?_)
  |(refine wpList_store_mid rfl 28 (.tmp 13) (.tmp 53) rfl x4.heap.size 0 X4.toArray rfl rfl (dM (by rw[Q4.o.2.2.2.1];exact ZA.o.2.symm)) (by rw[az,Q4.o.2.2.2.1];exact bR) (all_oneCell_toArray Q4.o.2.2.2.2) ?_))
 have hst:=fB (w:=x4) (t:=28) (Z:=bK aY ay) (X:=X4) (by rw[Q4.o.2.2.2.1];exact ZA.o.2.symm)
 obtain⟨v5,hw⟩:∃ W,(x4.alloc (.cells (bK aY ay).toArray 28)).setCells x4.heap.size 0 X4=W:=⟨_,rfl⟩
 rw[hw] at hst ⊢
 obtain⟨t4,ht⟩:∃ t,x4.heap.size=t:=⟨_,rfl⟩
 rw[ht] at hst ⊢
 have R4:=aa (show aC v5 t4 28 X4.toArray∧jS p2 v5 J4 X4∧(∀ y∈J4,v0.heap.size≤y)∧v0.heap.size≤t4∧X4.length=38 from⟨hst.1,Q4.o.1.keep hst.2 (by simp),fun y hy=>by have h1:=(Q4.o.2.1 y hy).1;have h2:=K4.o.size;omega,by have h1:=Q4.o.2.2.1.size;have h2:=K4.o.size;omega,Q4.o.2.2.2.1⟩)
 have D5:=aa (Q4.o.2.2.1.then hst.2 (by simp))
 have K5:=aa (K4.o.then D5.o (by simp))
 clear hst hw ht Q4 C4
 go_upto_region 9 with (first
  |(go_at_call 33;refine (C5.o _ K5.o).mono ?_;rintro e x5 ⟨X5,J5,rfl,h1,h2,h3,h4,h5⟩;have Q5:=aa (ah h1 (ah h2 (ah h3 (ah h4 h5))));clear h1 h2 h3 h4 h5)
  |(with_reducible refine aD _ _ rfl 28 rfl _ ZA.o.1 rfl ?_)
  |(refine wpList_store_mid rfl 28 (.tmp 15) (.tmp 58) rfl x5.heap.size 0 X5.toArray rfl rfl (dM (by rw[Q5.o.2.2.2.1];exact ZA.o.2.symm)) (by rw[az,Q5.o.2.2.2.1];exact bR) (all_oneCell_toArray Q5.o.2.2.2.2) ?_))
 have hst:=fB (w:=x5) (t:=28) (Z:=bK aY ay) (X:=X5) (by rw[Q5.o.2.2.2.1];exact ZA.o.2.symm)
 obtain⟨v6,hw⟩:∃ W,(x5.alloc (.cells (bK aY ay).toArray 28)).setCells x5.heap.size 0 X5=W:=⟨_,rfl⟩
 rw[hw] at hst ⊢
 obtain⟨t5,ht⟩:∃ t,x5.heap.size=t:=⟨_,rfl⟩
 rw[ht] at hst ⊢
 have R5:=aa (show aC v6 t5 28 X5.toArray∧jS p2 v6 J5 X5∧(∀ y∈J5,v0.heap.size≤y)∧v0.heap.size≤t5∧X5.length=38 from⟨hst.1,Q5.o.1.keep hst.2 (by simp),fun y hy=>by have h1:=(Q5.o.2.1 y hy).1;have h2:=K5.o.size;omega,by have h1:=Q5.o.2.2.1.size;have h2:=K5.o.size;omega,Q5.o.2.2.2.1⟩)
 have D6:=aa (Q5.o.2.2.1.then hst.2 (by simp))
 have K6:=aa (K5.o.then D6.o (by simp))
 clear hst hw ht Q5 C5
 go_upto_region 10 with (first
  |(go_at_call 34;refine (C6.o _ K6.o).mono ?_;rintro e x6 ⟨X6,J6,rfl,h1,h2,h3,h4,h5⟩;have Q6:=aa (ah h1 (ah h2 (ah h3 (ah h4 h5))));clear h1 h2 h3 h4 h5)
  |(with_reducible refine aD _ _ rfl 31 rfl _ ZC.o.1 rfl ?_)
  |(refine wpList_store_mid rfl 31 (.tmp 17) (.tmp 63) rfl x6.heap.size 0 X6.toArray rfl rfl (dM (by rw[Q6.o.2.2.2.1];exact ZC.o.2.symm)) (by rw[az,Q6.o.2.2.2.1];exact bS) (all_oneCell_toArray Q6.o.2.2.2.2) ?_))
 have hst:=fB (w:=x6) (t:=31) (Z:=bZ aW ay) (X:=X6) (by rw[Q6.o.2.2.2.1];exact ZC.o.2.symm)
 obtain⟨v7,hw⟩:∃ W,(x6.alloc (.cells (bZ aW ay).toArray 31)).setCells x6.heap.size 0 X6=W:=⟨_,rfl⟩
 rw[hw] at hst ⊢
 obtain⟨t6,ht⟩:∃ t,x6.heap.size=t:=⟨_,rfl⟩
 rw[ht] at hst ⊢
 have R6:=aa (show aC v7 t6 31 X6.toArray∧jT p3 v7 J6 X6∧(∀ y∈J6,v0.heap.size≤y)∧v0.heap.size≤t6∧X6.length=3 from⟨hst.1,Q6.o.1.keep hst.2 (by simp),fun y hy=>by have h1:=(Q6.o.2.1 y hy).1;have h2:=K6.o.size;omega,by have h1:=Q6.o.2.2.1.size;have h2:=K6.o.size;omega,Q6.o.2.2.2.1⟩)
 have D7:=aa (Q6.o.2.2.1.then hst.2 (by simp))
 have K7:=aa (K6.o.then D7.o (by simp))
 clear hst hw ht Q6 C6
 go_upto_region 11 with (first
  |(go_at_call 35;refine (C7.o _ K7.o).mono ?_;rintro e x7 ⟨X7,J7,rfl,h1,h2,h3,h4,h5⟩;have Q7:=aa (ah h1 (ah h2 (ah h3 (ah h4 h5))));clear h1 h2 h3 h4 h5)
  |(with_reducible refine aD _ _ rfl 31 rfl _ ZC.o.1 rfl ?_)
  |(refine wpList_store_mid rfl 31 (.tmp 19) (.tmp 68) rfl x7.heap.size 0 X7.toArray rfl rfl (dM (by rw[Q7.o.2.2.2.1];exact ZC.o.2.symm)) (by rw[az,Q7.o.2.2.2.1];exact bS) (all_oneCell_toArray Q7.o.2.2.2.2) ?_))
 have hst:=fB (w:=x7) (t:=31) (Z:=bZ aW ay) (X:=X7) (by rw[Q7.o.2.2.2.1];exact ZC.o.2.symm)
 obtain⟨v8,hw⟩:∃ W,(x7.alloc (.cells (bZ aW ay).toArray 31)).setCells x7.heap.size 0 X7=W:=⟨_,rfl⟩
 rw[hw] at hst ⊢
 obtain⟨t7,ht⟩:∃ t,x7.heap.size=t:=⟨_,rfl⟩
 rw[ht] at hst ⊢
 have R7:=aa (show aC v8 t7 31 X7.toArray∧jT p3 v8 J7 X7∧(∀ y∈J7,v0.heap.size≤y)∧v0.heap.size≤t7∧X7.length=3 from⟨hst.1,Q7.o.1.keep hst.2 (by simp),fun y hy=>by have h1:=(Q7.o.2.1 y hy).1;have h2:=K7.o.size;omega,by have h1:=Q7.o.2.2.1.size;have h2:=K7.o.size;omega,Q7.o.2.2.2.1⟩)
 have D8:=aa (Q7.o.2.2.1.then hst.2 (by simp))
 have K8:=aa (K7.o.then D8.o (by simp))
 clear hst hw ht Q7 C7
 go_upto_region 13 with (first
  |(go_at_call 11;refine (gy A1 A2 g1 g2 c1 c2 b b _ (HI.o.2.2.2.2.2.1.keep K8.o (by simp)) (HI.o.2.2.2.2.2.2.1.keep K8.o (by simp))).mono ?_;rintro e w9 ⟨rfl,rfl⟩;rw[hbb]))
 have S0:=aa (show aC v8 t0 34 X0.toArray∧jG p0 v8 J0 X0 from⟨((((((D2.o.then D3.o (by simp)).then D4.o (by simp)).then D5.o (by simp)).then D6.o (by simp)).then D7.o (by simp)).then D8.o (by simp)).row R0.o.1 (by simp),R0.o.2.1.keep ((((((D2.o.then D3.o (by simp)).then D4.o (by simp)).then D5.o (by simp)).then D6.o (by simp)).then D7.o (by simp)).then D8.o (by simp)) (by simp)⟩)
 have S1:=aa (show aC v8 t1 34 X1.toArray∧jG p0 v8 J1 X1 from⟨(((((D3.o.then D4.o (by simp)).then D5.o (by simp)).then D6.o (by simp)).then D7.o (by simp)).then D8.o (by simp)).row R1.o.1 (by simp),R1.o.2.1.keep (((((D3.o.then D4.o (by simp)).then D5.o (by simp)).then D6.o (by simp)).then D7.o (by simp)).then D8.o (by simp)) (by simp)⟩)
 have S2:=aa (show aC v8 t2 26 X2.toArray∧jU p1 v8 J2 X2 from⟨((((D4.o.then D5.o (by simp)).then D6.o (by simp)).then D7.o (by simp)).then D8.o (by simp)).row R2.o.1 (by simp),R2.o.2.1.keep ((((D4.o.then D5.o (by simp)).then D6.o (by simp)).then D7.o (by simp)).then D8.o (by simp)) (by simp)⟩)
 have S3:=aa (show aC v8 t3 26 X3.toArray∧jU p1 v8 J3 X3 from⟨(((D5.o.then D6.o (by simp)).then D7.o (by simp)).then D8.o (by simp)).row R3.o.1 (by simp),R3.o.2.1.keep (((D5.o.then D6.o (by simp)).then D7.o (by simp)).then D8.o (by simp)) (by simp)⟩)
 have S4:=aa (show aC v8 t4 28 X4.toArray∧jS p2 v8 J4 X4 from⟨((D6.o.then D7.o (by simp)).then D8.o (by simp)).row R4.o.1 (by simp),R4.o.2.1.keep ((D6.o.then D7.o (by simp)).then D8.o (by simp)) (by simp)⟩)
 have S5:=aa (show aC v8 t5 28 X5.toArray∧jS p2 v8 J5 X5 from⟨(D7.o.then D8.o (by simp)).row R5.o.1 (by simp),R5.o.2.1.keep (D7.o.then D8.o (by simp)) (by simp)⟩)
 have S6:=aa (show aC v8 t6 31 X6.toArray∧jT p3 v8 J6 X6 from⟨D8.o.row R6.o.1 (by simp),R6.o.2.1.keep D8.o (by simp)⟩)
 have S7:=aa (show aC v8 t7 31 X7.toArray∧jT p3 v8 J7 X7 from⟨(ag.refl [] v8).row R7.o.1 (by simp),R7.o.2.1.keep (ag.refl [] v8) (by simp)⟩)
 have HT1:=aa ((HI.o.1.keep K8.o (by simp)).intsAt)
 have HKW:=aa (HI.o.2.2.1.then K8.o (by simp))
 have HS:aH (trR G1 v8 v8):=aa ⟨ag.refl _ _,kX.refl _⟩
 obtain⟨n,hn⟩:∃ n,b.length=n:=⟨_,rfl⟩
 rw[hn] at b3 HT1 ⊢
 clear hn
 try rw[hn]
 go_wp2_with fail
 go_loopw [21] (fun v wx=>∃ i:Nat,i≤n∧v= .int .i64 (i:Int)∧aH (trR G1 v8 wx)) (fun v _=>n-(intOf v).toNat)
 case atStart=>exact⟨0,Nat.zero_le _,rfl,HS⟩
 case round=>
  obtain⟨q0,hil,rfl,H1⟩:=hrel
  by_cases hlt:q0<n
  ·obtain⟨g3,o3,rfl,hg1,hg2⟩:=HT1.o (by omega)
   obtain⟨z0,hz0⟩:=hg2 q0 hlt
   obtain⟨z,hz⟩:=H1.o.2.1 _ _ _ hz0
   have hfr:wr.frozen? ⟨g3,o3+q0,none⟩=false:=(HKW.o.then H1.o.1 (fun x hx=> .inr (HI.o.2.2.2.1 x hx).1)).free (HI.o.2.2.2.1 _ hg1).1 _
   have hi2:(q0:Int)<(n:Int):=by omega
   have hi0:(0:Int)≤(q0:Int):=by omega
   have hwi:IntKind.i64.wrap ((q0:Int)+1)=(q0:Int)+1:=by rw[IntKind.wrap_i64];omega
   have HN:=aa (H1.o.set hg1 hz (bits BinOp.xor IntKind.u8 z 90))
   clear hg1 hg2 hz0
   go_wp2_with fail
   go_roundw
   case rel=>exact⟨q0+1,by omega,by go_num,HN⟩
   case measure=>simp only[intOf];omega
  ·have hie: ¬(q0:Int)<(n:Int):=by omega
   have kz:ag [] w wr:=HKW.o.then H1.o.1 (fun x hx=> .inr (HI.o.2.2.2.1 x hx).1)
   have HZW:=aa (ah kz (HF.o.keep kz (by simp)))
   have T0:aH (∀ wx,ag [] wr wx→aC wx t0 34 X0.toArray∧jG p0 wx J0 X0):=aa (fun wx k=>⟨k.row (H1.o.1.row S0.o.1 (fun hm=>by have h1:=(HI.o.2.2.2.1 _ hm).2;have h2:=R0.o.2.2.2.1;omega)) (by simp),(S0.o.2.keep H1.o.1 (fun y hy hm=>by have h1:=(HI.o.2.2.2.1 _ hm).2;have h2:=R0.o.2.2.1 y hy;omega)).keep k (by simp)⟩)
   have T1:aH (∀ wx,ag [] wr wx→aC wx t1 34 X1.toArray∧jG p0 wx J1 X1):=aa (fun wx k=>⟨k.row (H1.o.1.row S1.o.1 (fun hm=>by have h1:=(HI.o.2.2.2.1 _ hm).2;have h2:=R1.o.2.2.2.1;omega)) (by simp),(S1.o.2.keep H1.o.1 (fun y hy hm=>by have h1:=(HI.o.2.2.2.1 _ hm).2;have h2:=R1.o.2.2.1 y hy;omega)).keep k (by simp)⟩)
   have T2:aH (∀ wx,ag [] wr wx→aC wx t2 26 X2.toArray∧jU p1 wx J2 X2):=aa (fun wx k=>⟨k.row (H1.o.1.row S2.o.1 (fun hm=>by have h1:=(HI.o.2.2.2.1 _ hm).2;have h2:=R2.o.2.2.2.1;omega)) (by simp),(S2.o.2.keep H1.o.1 (fun y hy hm=>by have h1:=(HI.o.2.2.2.1 _ hm).2;have h2:=R2.o.2.2.1 y hy;omega)).keep k (by simp)⟩)
   have T3:aH (∀ wx,ag [] wr wx→aC wx t3 26 X3.toArray∧jU p1 wx J3 X3):=aa (fun wx k=>⟨k.row (H1.o.1.row S3.o.1 (fun hm=>by have h1:=(HI.o.2.2.2.1 _ hm).2;have h2:=R3.o.2.2.2.1;omega)) (by simp),(S3.o.2.keep H1.o.1 (fun y hy hm=>by have h1:=(HI.o.2.2.2.1 _ hm).2;have h2:=R3.o.2.2.1 y hy;omega)).keep k (by simp)⟩)
   have T4:aH (∀ wx,ag [] wr wx→aC wx t4 28 X4.toArray∧jS p2 wx J4 X4):=aa (fun wx k=>⟨k.row (H1.o.1.row S4.o.1 (fun hm=>by have h1:=(HI.o.2.2.2.1 _ hm).2;have h2:=R4.o.2.2.2.1;omega)) (by simp),(S4.o.2.keep H1.o.1 (fun y hy hm=>by have h1:=(HI.o.2.2.2.1 _ hm).2;have h2:=R4.o.2.2.1 y hy;omega)).keep k (by simp)⟩)
   have T5:aH (∀ wx,ag [] wr wx→aC wx t5 28 X5.toArray∧jS p2 wx J5 X5):=aa (fun wx k=>⟨k.row (H1.o.1.row S5.o.1 (fun hm=>by have h1:=(HI.o.2.2.2.1 _ hm).2;have h2:=R5.o.2.2.2.1;omega)) (by simp),(S5.o.2.keep H1.o.1 (fun y hy hm=>by have h1:=(HI.o.2.2.2.1 _ hm).2;have h2:=R5.o.2.2.1 y hy;omega)).keep k (by simp)⟩)
   have T6:aH (∀ wx,ag [] wr wx→aC wx t6 31 X6.toArray∧jT p3 wx J6 X6):=aa (fun wx k=>⟨k.row (H1.o.1.row S6.o.1 (fun hm=>by have h1:=(HI.o.2.2.2.1 _ hm).2;have h2:=R6.o.2.2.2.1;omega)) (by simp),(S6.o.2.keep H1.o.1 (fun y hy hm=>by have h1:=(HI.o.2.2.2.1 _ hm).2;have h2:=R6.o.2.2.1 y hy;omega)).keep k (by simp)⟩)
   have T7:aH (∀ wx,ag [] wr wx→aC wx t7 31 X7.toArray∧jT p3 wx J7 X7):=aa (fun wx k=>⟨k.row (H1.o.1.row S7.o.1 (fun hm=>by have h1:=(HI.o.2.2.2.1 _ hm).2;have h2:=R7.o.2.2.2.1;omega)) (by simp),(S7.o.2.keep H1.o.1 (fun y hy hm=>by have h1:=(HI.o.2.2.2.1 _ hm).2;have h2:=R7.o.2.2.1 y hy;omega)).keep k (by simp)⟩)
   have Ka:=aa (ag.refl [] wr)
   clear kz hlt hil HS
   go_upto_region 17 with fail
   go_wp2_with (first
    |(refine wpList_load_mid rfl 34 (.tmp 5) rfl t0 0 rfl X0 _ (T0.o _ Ka.o).1.rangeAll underlying34 rfl (by rw[R0.o.2.2.2.2];exact aF) ?_)
    |(refine wpList_load_mid rfl 34 (.tmp 7) rfl t1 0 rfl X1 _ (T1.o _ Ka.o).1.rangeAll underlying34 rfl (by rw[R1.o.2.2.2.2];exact aF) ?_)
    |(go_at_call 13;refine (same0 (T0.o _ Ka.o).2 (T1.o _ Ka.o).2 HFT.o.1).mono ?_;rintro e y0 ⟨rfl,kk⟩;have Kb:=aa (Ka.o.then kk (by simp));clear kk)
    |(refine aB 26 (.tmp 9) rfl t2 0 rfl X2 _ (T2.o _ Kb.o).1.rangeAll underlying26 rfl (by rw[R2.o.2.2.2.2];exact bN) ?_ ?_;·rfl)
    |(refine aB 26 (.tmp 11) rfl t3 0 rfl X3 _ (T3.o _ Kb.o).1.rangeAll underlying26 rfl (by rw[R3.o.2.2.2.2];exact bN) ?_ ?_;·rfl)
    |(go_at_call 36;refine (same1 (T2.o _ Kb.o).2 (T3.o _ Kb.o).2).mono ?_;rintro e y1 ⟨rfl,kk⟩;have Kc:=aa (Kb.o.then kk (by simp));clear kk)
    |(refine aB 28 (.tmp 13) rfl t4 0 rfl X4 _ (T4.o _ Kc.o).1.rangeAll underlying28 rfl (by rw[R4.o.2.2.2.2];exact bR) ?_ ?_;·rfl)
    |(refine aB 28 (.tmp 15) rfl t5 0 rfl X5 _ (T5.o _ Kc.o).1.rangeAll underlying28 rfl (by rw[R5.o.2.2.2.2];exact bR) ?_ ?_;·rfl)
    |(go_at_call 37;refine (same2 (T4.o _ Kc.o).2 (T5.o _ Kc.o).2).mono ?_;rintro e y2 ⟨rfl,kk⟩;have Kd:=aa (Kc.o.then kk (by simp));clear kk)
    |(refine aB 31 (.tmp 17) rfl t6 0 rfl X6 _ (T6.o _ Kd.o).1.rangeAll underlying31 rfl (by rw[R6.o.2.2.2.2];exact bS) ?_ ?_;·rfl)
    |(refine aB 31 (.tmp 19) rfl t7 0 rfl X7 _ (T7.o _ Kd.o).1.rangeAll underlying31 rfl (by rw[R7.o.2.2.2.2];exact bS) ?_ ?_;·rfl)
    |(go_at_call 38;refine (same3 (T6.o _ Kd.o).2 (T7.o _ Kd.o).2 HFT.o.2).mono ?_;rintro e y3 ⟨rfl,kk⟩;have Ke:=aa (Kd.o.then kk (by simp));clear kk)
    |(go_at_call 26;refine (oo _ (HZW.o.2.keep Ke.o (by simp))).mono ?_;rintro e y5 ⟨rfl,kk⟩;have Kf:=aa (Ke.o.then kk (by simp));clear kk))
   go_ret
   exact⟨rfl,HZW.o.1.then Kf.o (by simp)⟩
end Go.Proofs.YthfdkonhjpdflaaGreatDoor
