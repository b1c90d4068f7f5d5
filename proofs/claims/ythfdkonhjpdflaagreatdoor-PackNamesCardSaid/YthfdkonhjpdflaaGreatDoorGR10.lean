import Derived.Test.YthfdkonhjpdflaaGreatDoorGRD
import Derived.Test.YthfdkonhjpdflaaGreatDoorPkD
import Derived.Test.YthfdkonhjpdflaaGreatDoorRCE
import Derived.Test.YthfdkonhjpdflaaGreatDoorPkJ
import Derived.Deep.QuietTactic
import Derived.BigQuiet
import Derived.BigRegion
namespace Go.Proofs.YthfdkonhjpdflaaGreatDoor
open Go.RowKit Go.Proofs.Tryz
set_option linter.unusedVariables false
set_option maxRecDepth 100000
set_option linter.unusedSimpArgs false
set_option maxHeartbeats 16000000
theorem jM (b:List UInt8):(AA b).1.fits:=by
 by_cases h:vF b=0
 ·by_cases h2:R8 (OE (l6 (TD b).kind) (XC b)).2.2 (OE (l6 (TD b).kind) (XC b)).2.1.e=0
  ·rw[mG h h2]
   unfold eL
   dsimp only
   split
   ·exact zM (yN b)
   ·exact nC
  ·rw[XH h h2];exact nC
 ·rw[aJ h];exact nC
theorem DK (b:List UInt8):(dA b).1.chain.length≤5:=by
 unfold dA eL
 dsimp only
 split
 ·show (jE _ _).1.length≤5
  rw[YH];unfold XW nV;split<;>omega
 ·simp[V7]
def jF (p:PK) (w:World) (G:List Nat) (X:List Value):Prop:=iB w G (p,X)
def EF (r:RQ) (w:World) (G:List Nat) (X:List Value):Prop:=∃ ev,X=U8 r ev∧dH w G r ev
def BF (r:AN) (w:World) (G:List Nat) (X:List Value):Prop:=∃ ev,X=x9 r ev∧BH w G r ev
def DF (r:CF) (w:World) (G:List Nat) (X:List Value):Prop:=∃ ev,X=bA r ev∧F8 w G ev r.chain
theorem jF.keep {p:PK} {S:List Nat} {w w':World} {G:List Nat} {X:List Value} (h:jF p w G X) (hk:U1 S w w') (hS:∀ y∈G,y∉S):jF p w' G X:=iB.keep h hk hS
theorem EF.keep {p:RQ} {S:List Nat} {w w':World} {G:List Nat} {X:List Value} (h:EF p w G X) (hk:U1 S w w') (hS:∀ y∈G,y∉S):EF p w' G X:=by
 obtain⟨ev,e,h1,h2⟩:=h
 exact⟨ev,e,h1,h2.keep hk hS⟩
theorem BF.keep {p:AN} {S:List Nat} {w w':World} {G:List Nat} {X:List Value} (h:BF p w G X) (hk:U1 S w w') (hS:∀ y∈G,y∉S):BF p w' G X:=by
 obtain⟨ev,e,h1,h2⟩:=h
 exact⟨ev,e,h1,h2.keep hk hS⟩
theorem DF.keep {p:CF} {S:List Nat} {w w':World} {G:List Nat} {X:List Value} (h:DF p w G X) (hk:U1 S w w') (hS:∀ y∈G,y∉S):DF p w' G X:=by
 obtain⟨ev,e,h1⟩:=h
 exact⟨ev,e,h1.keep hk hS⟩
def fJ (P:World→List Nat→List Value→Prop) (n:Nat) (E:Int) (w:World) (e:Ending) (w':World):Prop:=∃ X G,e= .returned (.tuple #[.agg (X:List Value).toArray,.int .i64 E])∧P w' G X∧I9 w w' G∧U1 [] w w'∧X.length=n∧∀ u∈X,u.oneCell'=true
theorem fJ.rq {f:Nat} {v:Value} {r:RQ} {E:Int} {w:World} (h:Calls prog f #[v] w fun e w'=>∃ ev G,e= .returned (.tuple #[.agg (U8 r ev).toArray,.int .i64 E])∧dH w' G r ev∧I9 w w' G∧U1 [] w w'):Calls prog f #[v] w (fJ (EF r) 37 E w):=by
 refine h.mono ?_
 rintro e w' ⟨ev,G,rfl,h1,h2,h3⟩
 exact⟨_,G,rfl,⟨ev,rfl,h1⟩,h2,h3,O8 h1.1,fB _ h1.2.one⟩
theorem fJ.an {f:Nat} {v:Value} {r:AN} {E:Int} {w:World} (h:Calls prog f #[v] w fun e w'=>∃ ev G,e= .returned (.tuple #[.agg (x9 r ev).toArray,.int .i64 E])∧BH w' G r ev∧I9 w w' G∧U1 [] w w'):Calls prog f #[v] w (fJ (BF r) 38 E w):=by
 refine h.mono ?_
 rintro e w' ⟨ev,G,rfl,h1,h2,h3⟩
 exact⟨_,G,rfl,⟨ev,rfl,h1⟩,h2,h3,y9 h1.1,IB _ h1.2.one⟩
theorem fJ.cf {f:Nat} {v:Value} {r:CF} {E:Int} {w:World} (h:Calls prog f #[v] w fun e w'=>∃ ev G,e= .returned (.tuple #[.agg (bA r ev).toArray,.int .i64 E])∧F8 w' G ev r.chain∧I9 w w' G∧U1 [] w w'):Calls prog f #[v] w (fJ (DF r) 3 E w):=by
 refine h.mono ?_
 rintro e w' ⟨ev,G,rfl,h1,h2,h3⟩
 exact⟨_,G,rfl,⟨ev,rfl,h1⟩,h2,h3,rfl,MC _ h1.one⟩
theorem fJ.pk {f:Nat} {v:Value} {r:PK} {E:Int} {w:World} (h:Calls prog f #[v] w fun e w'=>∃ ev av cv vv bw G,e= .returned (.tuple #[.agg (q8 r ev av cv vv bw).toArray,.int .i64 E])∧wD w' G r ev av cv vv bw∧I9 w w' G∧U1 [] w w'):Calls prog f #[v] w (fJ (jF r) 87 E w):=by
 refine h.mono ?_
 rintro e w' ⟨ev,av,cv,vv,bw,G,rfl,h1,h2,h3⟩
 have it:iB w' G (r,q8 r ev av cv vv bw):=⟨_,_,_,_,_,rfl,h1⟩
 exact⟨_,G,rfl,it,h2,h3,it.len,it.one⟩
theorem fJ.px {f:Nat} {v:Value} {r:PK} {E:Int} {w:World} (h:Calls prog f #[v] w fun e w'=>∃ X G,e= .returned (.tuple #[.agg (X:List Value).toArray,.int .i64 E])∧iB w' G (r,X)∧I9 w w' G∧U1 [] w w'):Calls prog f #[v] w (fJ (jF r) 87 E w):=by
 refine h.mono ?_
 rintro e w' ⟨X,G,rfl,h1,h2,h3⟩
 exact⟨_,G,rfl,h1,h2,h3,h1.len,h1.one⟩
theorem same0 {p:PK} {w:World} {F G:List Nat} {X Y:List Value} (h:jF p w F X) (h':jF p w G Y) (hf:p.fits):Calls prog 13 #[.agg X.toArray,.agg Y.toArray] w fun e w'=>e= .returned (.bool true)∧U1 [] w w':=by
 have:=oM F G p p X Y w h h' hf hf
 rwa [PK.same_self] at this
theorem same1 {p:RQ} {w:World} {F G:List Nat} {X Y:List Value} (h:EF p w F X) (h':EF p w G Y):Calls prog 36 #[.agg X.toArray,.agg Y.toArray] w fun e w'=>e= .returned (.bool true)∧U1 [] w w':=by
 obtain⟨ev,rfl,h1⟩:=h
 obtain⟨ew,rfl,h2⟩:=h'
 have:=iK F G p p ev ew w h1 h2
 rwa [RQ.same_self] at this
theorem same2 {p:AN} {w:World} {F G:List Nat} {X Y:List Value} (h:BF p w F X) (h':BF p w G Y):Calls prog 37 #[.agg X.toArray,.agg Y.toArray] w fun e w'=>e= .returned (.bool true)∧U1 [] w w':=by
 obtain⟨ev,rfl,h1⟩:=h
 obtain⟨ew,rfl,h2⟩:=h'
 have:=gK F G p p ev ew w h1 h2
 rwa [AN.same_self] at this
theorem same3 {p:CF} {w:World} {F G:List Nat} {X Y:List Value} (h:DF p w F X) (h':DF p w G Y) (hb:p.chain.length≤17592186044416):Calls prog 38 #[.agg X.toArray,.agg Y.toArray] w fun e w'=>e= .returned (.bool true)∧U1 [] w w':=by
 obtain⟨ev,rfl,h1⟩:=h
 obtain⟨ew,rfl,h2⟩:=h'
 have:=eH F G p p ev ew w h1 h2 hb hb
 rwa [CF.same_self] at this
def trR (G:List Nat) (w1 wx:World):Prop:=U1 G w1 wx∧sG w1 wx
theorem trR.set {G:List Nat} {w1 wx:World} (h:trR G w1 wx) {g j:Nat} (hg:g∈G) {k:IntKind} {z:Int} (hz:wx.cell? ⟨g,j,none⟩=some (.int k z)) (u:Int):trR G w1 (wx.setCell ⟨g,j,none⟩ (.int k u)):=by
 have kk:U1 G wx (wx.setCell ⟨g,j,none⟩ (.int k u)):=(U1.refl G wx).setCell _ _ (.inl hg)
 exact⟨h.1.then kk (fun x hx=> .inl hx),h.2.set hz u⟩
theorem qD (A:Option Addr) (g c:Nat) (b0:List UInt8) (w:World) (hs:QA w A g b0) (hlc:b0.length≤c) (hcm:c≤maxLen) (hfl:zB w):
 Calls prog 4 #[.slice A b0.length c] w fun e w'=>e= .returned (.bool true)∧U1 [] w w':=by
 have hcm':=hcm
 unfold maxLen at hcm
 obtain⟨b,hL⟩:∃ b,b=b0.take 3000:=⟨_,rfl⟩
 have sb:QA w A g b:=by rw[hL];exact hs.take 3000
 have b3:b.length≤3000:=by rw[hL,List.length_take];omega
 have bc:b.length≤c:=by rw[hL,List.length_take];omega
 have e1:(if 3000<(b0.length:Int) then 3000 else (b0.length:Int)).toNat=b.length:=by rw[hL,List.length_take];split<;>omega
 have E1:=U0 e1
 have hB:G7 w [g] (.slice A b.length c) b:=⟨A,c,g,rfl,bc,hcm',sb,fun _=>by simp⟩
 have HB:=U0 hB
 have HF:=U0 hfl
 have hbb:(b==b)=true:=by simp
 clear e1 hL hs hB hfl sb hcm'
 have zv:=KE
 obtain⟨Z,hZ⟩:∃ Z,q8 G9 I4 I4 I4 I4 I4=Z:=⟨_,rfl⟩
 have zl:=IC
 rw[hZ] at zv zl
 have HZ:=U0 (U2 zv zl)
 have ZR:=U0 (show (prog.info? 26).bind (·.zero)=some (.agg (U8 I7 I4).toArray)∧(U8 I7 I4).length=37 from⟨nI,O8 j6⟩)
 have ZA:=U0 (show (prog.info? 28).bind (·.zero)=some (.agg (x9 l8 I4).toArray)∧(x9 l8 I4).length=38 from⟨vK,y9 F6⟩)
 have ZC:=U0 (show (prog.info? 31).bind (·.zero)=some (.agg (bA V7 I4).toArray)∧(bA V7 I4).length=3 from⟨kJ,rfl⟩)
 clear zv zl hZ
 obtain⟨p0,hp0⟩:∃ x,(AA b).1=x:=⟨_,rfl⟩
 obtain⟨E0,hE0⟩:∃ x,(AA b).2=x:=⟨_,rfl⟩
 obtain⟨p1,hp1⟩:∃ x,(JA b).1=x:=⟨_,rfl⟩
 obtain⟨E2,hE2⟩:∃ x,(JA b).2=x:=⟨_,rfl⟩
 obtain⟨p2,hp2⟩:∃ x,(IA b).1=x:=⟨_,rfl⟩
 obtain⟨E4,hE4⟩:∃ x,(IA b).2=x:=⟨_,rfl⟩
 obtain⟨p3,hp3⟩:∃ x,(dA b).1=x:=⟨_,rfl⟩
 obtain⟨E6,hE6⟩:∃ x,(dA b).2=x:=⟨_,rfl⟩
 have HE:=U0 (U2 (U2 hp0 hE0) (U2 (U2 hp1 hE2) (U2 (U2 hp2 hE4) (U2 hp3 hE6))))
 have HFT:=U0 (show p0.fits∧p3.chain.length≤17592186044416 by rw[←hp0,←hp3];exact⟨jM b,Nat.le_trans (DK b) (by decide)⟩)
 clear hp0 hE0 hp1 hE2 hp2 hE4 hp3 hE6
 have ne0:(E0 !=E0)=false:=by simp
 have ne2:(E2 !=E2)=false:=by simp
 have ne4:(E4 !=E4)=false:=by simp
 have ne6:(E6 !=E6)=false:=by simp
 go_enter func4,ntmps4
 go_upto_region 2 with (first
  |(go_at_call 27;simp only[E1.o];refine (fF [g] _ b _ HB.o (by omega)).mono ?_;rintro e w1 ⟨u1,G1,rfl,i1,n1,k1⟩;obtain⟨A1,c1,g1,rfl,j1,j2,j3,j4⟩:=id i1;have I1:=U0 (U2 i1 (U2 n1 (U2 k1 (U2 j2 (U2 j3 j1)))));clear i1 n1 k1 j1 j2 j3 j4))
 generalize (if 3000<(b0.length:Int) then 3000 else (b0.length:Int))=zz
 go_upto_region 3 with (first
  |(go_at_call 27;refine (fF G1 _ b _ I1.o.1 (by omega)).mono ?_;rintro e v0 ⟨u2,G2,rfl,i2,n2,k2⟩;obtain⟨A2,c2,g2,rfl,j1,j2,j3,j4⟩:=id i2;have I2:=U0 (U2 i2 (U2 n2 (U2 k2 j3)));clear i2 n2 k2 j1 j2 j3 j4))
 have HI:=U0 (U2 (I1.o.1.keep I2.o.2.2.1 (by simp)) (U2 I2.o.1 (U2 (I1.o.2.2.1.then I2.o.2.2.1 (by simp)) (U2 (fun y hy=>(by have h1:=I1.o.2.1 y hy;have h2:=I2.o.2.2.1.size;omega:w.heap.size≤y∧y<v0.heap.size):∀ y∈G1,w.heap.size≤y∧y<v0.heap.size) (U2 I1.o.2.2.2.1 (U2 (I1.o.2.2.2.2.1.keep I2.o.2.2.1 (by simp)) (U2 I2.o.2.2.2 I1.o.2.2.2.2.2)))))))
 have K0:=U0 (U1.refl [] v0)
 have D0:=K0
 clear I1 I2 HB
 have C0:V5 (∀ wx,U1 [] v0 wx→Calls prog 28 #[.slice A1 b.length c1] wx (fJ (jF p0) 87 E0 wx)):=U0 (fun wx k=>fJ.pk (HE.o.1.1▸HE.o.1.2▸GG G1 b _ wx (HI.o.1.keep k (by simp)) (by omega) (HF.o.keep (HI.o.2.2.1.then k (by simp)) (by simp))))
 have C1:V5 (∀ wx,U1 [] v0 wx→Calls prog 29 #[.slice A2 b.length c2] wx (fJ (jF p0) 87 E0 wx)):=U0 (fun wx k=>fJ.px (HE.o.1.1▸HE.o.1.2▸nP G2 b _ wx (HI.o.2.1.keep k (by simp)) (by omega)))
 have C2:V5 (∀ wx,U1 [] v0 wx→Calls prog 30 #[.slice A1 b.length c1] wx (fJ (EF p1) 37 E2 wx)):=U0 (fun wx k=>fJ.rq (HE.o.2.1.1▸HE.o.2.1.2▸bJ G1 b _ wx (HI.o.1.keep k (by simp)) (by omega)))
 have C3:V5 (∀ wx,U1 [] v0 wx→Calls prog 31 #[.slice A2 b.length c2] wx (fJ (EF p1) 37 E2 wx)):=U0 (fun wx k=>fJ.rq (HE.o.2.1.1▸HE.o.2.1.2▸mH G2 b _ wx (HI.o.2.1.keep k (by simp)) (by omega)))
 have C4:V5 (∀ wx,U1 [] v0 wx→Calls prog 32 #[.slice A1 b.length c1] wx (fJ (BF p2) 38 E4 wx)):=U0 (fun wx k=>fJ.an (HE.o.2.2.1.1▸HE.o.2.2.1.2▸YI G1 b _ wx (HI.o.1.keep k (by simp)) (by omega)))
 have C5:V5 (∀ wx,U1 [] v0 wx→Calls prog 33 #[.slice A2 b.length c2] wx (fJ (BF p2) 38 E4 wx)):=U0 (fun wx k=>fJ.an (HE.o.2.2.1.1▸HE.o.2.2.1.2▸lH G2 b _ wx (HI.o.2.1.keep k (by simp)) (by omega)))
 have C6:V5 (∀ wx,U1 [] v0 wx→Calls prog 34 #[.slice A1 b.length c1] wx (fJ (DF p3) 3 E6 wx)):=U0 (fun wx k=>fJ.cf (HE.o.2.2.2.1▸HE.o.2.2.2.2▸ZI G1 b _ wx (HI.o.1.keep k (by simp)) (by omega)))
 have C7:V5 (∀ wx,U1 [] v0 wx→Calls prog 35 #[.slice A2 b.length c2] wx (fJ (DF p3) 3 E6 wx)):=U0 (fun wx k=>fJ.cf (HE.o.2.2.2.1▸HE.o.2.2.2.2▸lF G2 b _ wx (HI.o.2.1.keep k (by simp)) (by omega)))
 go_upto_region 4 with (first
  |(go_at_call 28;refine (C0.o _ K0.o).mono ?_;rintro e x0 ⟨X0,J0,rfl,h1,h2,h3,h4,h5⟩;have Q0:=U0 (U2 h1 (U2 h2 (U2 h3 (U2 h4 h5))));clear h1 h2 h3 h4 h5)
  |(with_reducible refine F5 _ _ rfl 34 rfl _ HZ.o.1 rfl ?_)
  |(refine wpList_store_mid rfl 34 (.tmp 5) (.tmp 33) rfl x0.heap.size 0 X0.toArray rfl rfl (aB (by rw[Q0.o.2.2.2.1];exact HZ.o.2.symm)) (by rw[U4,Q0.o.2.2.2.1];exact I5) (all_oneCell_toArray Q0.o.2.2.2.2) ?_))
 have hst:=qC (w:=x0) (t:=34) (Z:=Z) (X:=X0) (by rw[Q0.o.2.2.2.1];exact HZ.o.2.symm)
 obtain⟨v1,hw⟩:∃ W,(x0.alloc (.cells (Z).toArray 34)).setCells x0.heap.size 0 X0=W:=⟨_,rfl⟩
 rw[hw] at hst ⊢
 obtain⟨t0,ht⟩:∃ t,x0.heap.size=t:=⟨_,rfl⟩
 rw[ht] at hst ⊢
 have R0:=U0 (show l5 v1 t0 34 X0.toArray∧jF p0 v1 J0 X0∧(∀ y∈J0,v0.heap.size≤y)∧v0.heap.size≤t0∧X0.length=87 from⟨hst.1,Q0.o.1.keep hst.2 (by simp),fun y hy=>by have h1:=(Q0.o.2.1 y hy).1;have h2:=K0.o.size;omega,by have h1:=Q0.o.2.2.1.size;have h2:=K0.o.size;omega,Q0.o.2.2.2.1⟩)
 have D1:=U0 (Q0.o.2.2.1.then hst.2 (by simp))
 have K1:=U0 (K0.o.then D1.o (by simp))
 clear hst hw ht Q0 C0
 go_upto_region 5 with (first
  |(go_at_call 29;refine (C1.o _ K1.o).mono ?_;rintro e x1 ⟨X1,J1,rfl,h1,h2,h3,h4,h5⟩;have Q1:=U0 (U2 h1 (U2 h2 (U2 h3 (U2 h4 h5))));clear h1 h2 h3 h4 h5)
  |(with_reducible refine F5 _ _ rfl 34 rfl _ HZ.o.1 rfl ?_)
  |(refine wpList_store_mid rfl 34 (.tmp 7) (.tmp 38) rfl x1.heap.size 0 X1.toArray rfl rfl (aB (by rw[Q1.o.2.2.2.1];exact HZ.o.2.symm)) (by rw[U4,Q1.o.2.2.2.1];exact I5) (all_oneCell_toArray Q1.o.2.2.2.2) ?_))
 have hst:=qC (w:=x1) (t:=34) (Z:=Z) (X:=X1) (by rw[Q1.o.2.2.2.1];exact HZ.o.2.symm)
 obtain⟨v2,hw⟩:∃ W,(x1.alloc (.cells (Z).toArray 34)).setCells x1.heap.size 0 X1=W:=⟨_,rfl⟩
 rw[hw] at hst ⊢
 obtain⟨t1,ht⟩:∃ t,x1.heap.size=t:=⟨_,rfl⟩
 rw[ht] at hst ⊢
 have R1:=U0 (show l5 v2 t1 34 X1.toArray∧jF p0 v2 J1 X1∧(∀ y∈J1,v0.heap.size≤y)∧v0.heap.size≤t1∧X1.length=87 from⟨hst.1,Q1.o.1.keep hst.2 (by simp),fun y hy=>by have h1:=(Q1.o.2.1 y hy).1;have h2:=K1.o.size;omega,by have h1:=Q1.o.2.2.1.size;have h2:=K1.o.size;omega,Q1.o.2.2.2.1⟩)
 have D2:=U0 (Q1.o.2.2.1.then hst.2 (by simp))
 have K2:=U0 (K1.o.then D2.o (by simp))
 clear hst hw ht Q1 C1
 go_upto_region 6 with (first
  |(go_at_call 30;refine (C2.o _ K2.o).mono ?_;rintro e x2 ⟨X2,J2,rfl,h1,h2,h3,h4,h5⟩;have Q2:=U0 (U2 h1 (U2 h2 (U2 h3 (U2 h4 h5))));clear h1 h2 h3 h4 h5)
  |(with_reducible refine F5 _ _ rfl 26 rfl _ ZR.o.1 rfl ?_)
  |(refine wpList_store_mid rfl 26 (.tmp 9) (.tmp 43) rfl x2.heap.size 0 X2.toArray rfl rfl (aB (by rw[Q2.o.2.2.2.1];exact ZR.o.2.symm)) (by rw[U4,Q2.o.2.2.2.1];exact D9) (all_oneCell_toArray Q2.o.2.2.2.2) ?_))
 have hst:=qC (w:=x2) (t:=26) (Z:=U8 I7 I4) (X:=X2) (by rw[Q2.o.2.2.2.1];exact ZR.o.2.symm)
 obtain⟨v3,hw⟩:∃ W,(x2.alloc (.cells (U8 I7 I4).toArray 26)).setCells x2.heap.size 0 X2=W:=⟨_,rfl⟩
 rw[hw] at hst ⊢
 obtain⟨t2,ht⟩:∃ t,x2.heap.size=t:=⟨_,rfl⟩
 rw[ht] at hst ⊢
 have R2:=U0 (show l5 v3 t2 26 X2.toArray∧EF p1 v3 J2 X2∧(∀ y∈J2,v0.heap.size≤y)∧v0.heap.size≤t2∧X2.length=37 from⟨hst.1,Q2.o.1.keep hst.2 (by simp),fun y hy=>by have h1:=(Q2.o.2.1 y hy).1;have h2:=K2.o.size;omega,by have h1:=Q2.o.2.2.1.size;have h2:=K2.o.size;omega,Q2.o.2.2.2.1⟩)
 have D3:=U0 (Q2.o.2.2.1.then hst.2 (by simp))
 have K3:=U0 (K2.o.then D3.o (by simp))
 clear hst hw ht Q2 C2
 go_upto_region 7 with (first
  |(go_at_call 31;refine (C3.o _ K3.o).mono ?_;rintro e x3 ⟨X3,J3,rfl,h1,h2,h3,h4,h5⟩;have Q3:=U0 (U2 h1 (U2 h2 (U2 h3 (U2 h4 h5))));clear h1 h2 h3 h4 h5)
  |(with_reducible refine F5 _ _ rfl 26 rfl _ ZR.o.1 rfl ?_)
  |(refine wpList_store_mid rfl 26 (.tmp 11) (.tmp 48) rfl x3.heap.size 0 X3.toArray rfl rfl (aB (by rw[Q3.o.2.2.2.1];exact ZR.o.2.symm)) (by rw[U4,Q3.o.2.2.2.1];exact D9) (all_oneCell_toArray Q3.o.2.2.2.2) ?_))
 have hst:=qC (w:=x3) (t:=26) (Z:=U8 I7 I4) (X:=X3) (by rw[Q3.o.2.2.2.1];exact ZR.o.2.symm)
 obtain⟨v4,hw⟩:∃ W,(x3.alloc (.cells (U8 I7 I4).toArray 26)).setCells x3.heap.size 0 X3=W:=⟨_,rfl⟩
 rw[hw] at hst ⊢
 obtain⟨t3,ht⟩:∃ t,x3.heap.size=t:=⟨_,rfl⟩
 rw[ht] at hst ⊢
 have R3:=U0 (show l5 v4 t3 26 X3.toArray∧EF p1 v4 J3 X3∧(∀ y∈J3,v0.heap.size≤y)∧v0.heap.size≤t3∧X3.length=37 from⟨hst.1,Q3.o.1.keep hst.2 (by simp),fun y hy=>by have h1:=(Q3.o.2.1 y hy).1;have h2:=K3.o.size;omega,by have h1:=Q3.o.2.2.1.size;have h2:=K3.o.size;omega,Q3.o.2.2.2.1⟩)
 have D4:=U0 (Q3.o.2.2.1.then hst.2 (by simp))
 have K4:=U0 (K3.o.then D4.o (by simp))
 clear hst hw ht Q3 C3
 go_upto_region 8 with (first
  |(go_at_call 32;refine (C4.o _ K4.o).mono ?_;rintro e x4 ⟨X4,J4,rfl,h1,h2,h3,h4,h5⟩;have Q4:=U0 (U2 h1 (U2 h2 (U2 h3 (U2 h4 h5))));clear h1 h2 h3 h4 h5)
  |(with_reducible refine F5 _ _ rfl 28 rfl _ ZA.o.1 rfl ?_)
  |(refine wpList_store_mid rfl 28 (.tmp 13) (.tmp 53) rfl x4.heap.size 0 X4.toArray rfl rfl (aB (by rw[Q4.o.2.2.2.1];exact ZA.o.2.symm)) (by rw[U4,Q4.o.2.2.2.1];exact Q9) (all_oneCell_toArray Q4.o.2.2.2.2) ?_))
 have hst:=qC (w:=x4) (t:=28) (Z:=x9 l8 I4) (X:=X4) (by rw[Q4.o.2.2.2.1];exact ZA.o.2.symm)
 obtain⟨v5,hw⟩:∃ W,(x4.alloc (.cells (x9 l8 I4).toArray 28)).setCells x4.heap.size 0 X4=W:=⟨_,rfl⟩
 rw[hw] at hst ⊢
 obtain⟨t4,ht⟩:∃ t,x4.heap.size=t:=⟨_,rfl⟩
 rw[ht] at hst ⊢
 have R4:=U0 (show l5 v5 t4 28 X4.toArray∧BF p2 v5 J4 X4∧(∀ y∈J4,v0.heap.size≤y)∧v0.heap.size≤t4∧X4.length=38 from⟨hst.1,Q4.o.1.keep hst.2 (by simp),fun y hy=>by have h1:=(Q4.o.2.1 y hy).1;have h2:=K4.o.size;omega,by have h1:=Q4.o.2.2.1.size;have h2:=K4.o.size;omega,Q4.o.2.2.2.1⟩)
 have D5:=U0 (Q4.o.2.2.1.then hst.2 (by simp))
 have K5:=U0 (K4.o.then D5.o (by simp))
 clear hst hw ht Q4 C4
 go_upto_region 9 with (first
  |(go_at_call 33;refine (C5.o _ K5.o).mono ?_;rintro e x5 ⟨X5,J5,rfl,h1,h2,h3,h4,h5⟩;have Q5:=U0 (U2 h1 (U2 h2 (U2 h3 (U2 h4 h5))));clear h1 h2 h3 h4 h5)
  |(with_reducible refine F5 _ _ rfl 28 rfl _ ZA.o.1 rfl ?_)
  |(refine wpList_store_mid rfl 28 (.tmp 15) (.tmp 58) rfl x5.heap.size 0 X5.toArray rfl rfl (aB (by rw[Q5.o.2.2.2.1];exact ZA.o.2.symm)) (by rw[U4,Q5.o.2.2.2.1];exact Q9) (all_oneCell_toArray Q5.o.2.2.2.2) ?_))
 have hst:=qC (w:=x5) (t:=28) (Z:=x9 l8 I4) (X:=X5) (by rw[Q5.o.2.2.2.1];exact ZA.o.2.symm)
 obtain⟨v6,hw⟩:∃ W,(x5.alloc (.cells (x9 l8 I4).toArray 28)).setCells x5.heap.size 0 X5=W:=⟨_,rfl⟩
 rw[hw] at hst ⊢
 obtain⟨t5,ht⟩:∃ t,x5.heap.size=t:=⟨_,rfl⟩
 rw[ht] at hst ⊢
 have R5:=U0 (show l5 v6 t5 28 X5.toArray∧BF p2 v6 J5 X5∧(∀ y∈J5,v0.heap.size≤y)∧v0.heap.size≤t5∧X5.length=38 from⟨hst.1,Q5.o.1.keep hst.2 (by simp),fun y hy=>by have h1:=(Q5.o.2.1 y hy).1;have h2:=K5.o.size;omega,by have h1:=Q5.o.2.2.1.size;have h2:=K5.o.size;omega,Q5.o.2.2.2.1⟩)
 have D6:=U0 (Q5.o.2.2.1.then hst.2 (by simp))
 have K6:=U0 (K5.o.then D6.o (by simp))
 clear hst hw ht Q5 C5
 go_upto_region 10 with (first
  |(go_at_call 34;refine (C6.o _ K6.o).mono ?_;rintro e x6 ⟨X6,J6,rfl,h1,h2,h3,h4,h5⟩;have Q6:=U0 (U2 h1 (U2 h2 (U2 h3 (U2 h4 h5))));clear h1 h2 h3 h4 h5)
  |(with_reducible refine F5 _ _ rfl 31 rfl _ ZC.o.1 rfl ?_)
  |(refine wpList_store_mid rfl 31 (.tmp 17) (.tmp 63) rfl x6.heap.size 0 X6.toArray rfl rfl (aB (by rw[Q6.o.2.2.2.1];exact ZC.o.2.symm)) (by rw[U4,Q6.o.2.2.2.1];exact S9) (all_oneCell_toArray Q6.o.2.2.2.2) ?_))
 have hst:=qC (w:=x6) (t:=31) (Z:=bA V7 I4) (X:=X6) (by rw[Q6.o.2.2.2.1];exact ZC.o.2.symm)
 obtain⟨v7,hw⟩:∃ W,(x6.alloc (.cells (bA V7 I4).toArray 31)).setCells x6.heap.size 0 X6=W:=⟨_,rfl⟩
 rw[hw] at hst ⊢
 obtain⟨t6,ht⟩:∃ t,x6.heap.size=t:=⟨_,rfl⟩
 rw[ht] at hst ⊢
 have R6:=U0 (show l5 v7 t6 31 X6.toArray∧DF p3 v7 J6 X6∧(∀ y∈J6,v0.heap.size≤y)∧v0.heap.size≤t6∧X6.length=3 from⟨hst.1,Q6.o.1.keep hst.2 (by simp),fun y hy=>by have h1:=(Q6.o.2.1 y hy).1;have h2:=K6.o.size;omega,by have h1:=Q6.o.2.2.1.size;have h2:=K6.o.size;omega,Q6.o.2.2.2.1⟩)
 have D7:=U0 (Q6.o.2.2.1.then hst.2 (by simp))
 have K7:=U0 (K6.o.then D7.o (by simp))
 clear hst hw ht Q6 C6
 go_upto_region 11 with (first
  |(go_at_call 35;refine (C7.o _ K7.o).mono ?_;rintro e x7 ⟨X7,J7,rfl,h1,h2,h3,h4,h5⟩;have Q7:=U0 (U2 h1 (U2 h2 (U2 h3 (U2 h4 h5))));clear h1 h2 h3 h4 h5)
  |(with_reducible refine F5 _ _ rfl 31 rfl _ ZC.o.1 rfl ?_)
  |(refine wpList_store_mid rfl 31 (.tmp 19) (.tmp 68) rfl x7.heap.size 0 X7.toArray rfl rfl (aB (by rw[Q7.o.2.2.2.1];exact ZC.o.2.symm)) (by rw[U4,Q7.o.2.2.2.1];exact S9) (all_oneCell_toArray Q7.o.2.2.2.2) ?_))
 have hst:=qC (w:=x7) (t:=31) (Z:=bA V7 I4) (X:=X7) (by rw[Q7.o.2.2.2.1];exact ZC.o.2.symm)
 obtain⟨v8,hw⟩:∃ W,(x7.alloc (.cells (bA V7 I4).toArray 31)).setCells x7.heap.size 0 X7=W:=⟨_,rfl⟩
 rw[hw] at hst ⊢
 obtain⟨t7,ht⟩:∃ t,x7.heap.size=t:=⟨_,rfl⟩
 rw[ht] at hst ⊢
 have R7:=U0 (show l5 v8 t7 31 X7.toArray∧DF p3 v8 J7 X7∧(∀ y∈J7,v0.heap.size≤y)∧v0.heap.size≤t7∧X7.length=3 from⟨hst.1,Q7.o.1.keep hst.2 (by simp),fun y hy=>by have h1:=(Q7.o.2.1 y hy).1;have h2:=K7.o.size;omega,by have h1:=Q7.o.2.2.1.size;have h2:=K7.o.size;omega,Q7.o.2.2.2.1⟩)
 have D8:=U0 (Q7.o.2.2.1.then hst.2 (by simp))
 have K8:=U0 (K7.o.then D8.o (by simp))
 clear hst hw ht Q7 C7
 go_upto_region 13 with (first
  |(go_at_call 11;refine (YC A1 A2 g1 g2 c1 c2 b b _ (HI.o.2.2.2.2.2.1.keep K8.o (by simp)) (HI.o.2.2.2.2.2.2.1.keep K8.o (by simp))).mono ?_;rintro e w9 ⟨rfl,rfl⟩;rw[hbb]))
 have S0:=U0 (show l5 v8 t0 34 X0.toArray∧jF p0 v8 J0 X0 from⟨((((((D2.o.then D3.o (by simp)).then D4.o (by simp)).then D5.o (by simp)).then D6.o (by simp)).then D7.o (by simp)).then D8.o (by simp)).row R0.o.1 (by simp),R0.o.2.1.keep ((((((D2.o.then D3.o (by simp)).then D4.o (by simp)).then D5.o (by simp)).then D6.o (by simp)).then D7.o (by simp)).then D8.o (by simp)) (by simp)⟩)
 have S1:=U0 (show l5 v8 t1 34 X1.toArray∧jF p0 v8 J1 X1 from⟨(((((D3.o.then D4.o (by simp)).then D5.o (by simp)).then D6.o (by simp)).then D7.o (by simp)).then D8.o (by simp)).row R1.o.1 (by simp),R1.o.2.1.keep (((((D3.o.then D4.o (by simp)).then D5.o (by simp)).then D6.o (by simp)).then D7.o (by simp)).then D8.o (by simp)) (by simp)⟩)
 have S2:=U0 (show l5 v8 t2 26 X2.toArray∧EF p1 v8 J2 X2 from⟨((((D4.o.then D5.o (by simp)).then D6.o (by simp)).then D7.o (by simp)).then D8.o (by simp)).row R2.o.1 (by simp),R2.o.2.1.keep ((((D4.o.then D5.o (by simp)).then D6.o (by simp)).then D7.o (by simp)).then D8.o (by simp)) (by simp)⟩)
 have S3:=U0 (show l5 v8 t3 26 X3.toArray∧EF p1 v8 J3 X3 from⟨(((D5.o.then D6.o (by simp)).then D7.o (by simp)).then D8.o (by simp)).row R3.o.1 (by simp),R3.o.2.1.keep (((D5.o.then D6.o (by simp)).then D7.o (by simp)).then D8.o (by simp)) (by simp)⟩)
 have S4:=U0 (show l5 v8 t4 28 X4.toArray∧BF p2 v8 J4 X4 from⟨((D6.o.then D7.o (by simp)).then D8.o (by simp)).row R4.o.1 (by simp),R4.o.2.1.keep ((D6.o.then D7.o (by simp)).then D8.o (by simp)) (by simp)⟩)
 have S5:=U0 (show l5 v8 t5 28 X5.toArray∧BF p2 v8 J5 X5 from⟨(D7.o.then D8.o (by simp)).row R5.o.1 (by simp),R5.o.2.1.keep (D7.o.then D8.o (by simp)) (by simp)⟩)
 have S6:=U0 (show l5 v8 t6 31 X6.toArray∧DF p3 v8 J6 X6 from⟨D8.o.row R6.o.1 (by simp),R6.o.2.1.keep D8.o (by simp)⟩)
 have S7:=U0 (show l5 v8 t7 31 X7.toArray∧DF p3 v8 J7 X7 from⟨(U1.refl [] v8).row R7.o.1 (by simp),R7.o.2.1.keep (U1.refl [] v8) (by simp)⟩)
 have HT1:=U0 ((HI.o.1.keep K8.o (by simp)).intsAt)
 have HKW:=U0 (HI.o.2.2.1.then K8.o (by simp))
 have HS:V5 (trR G1 v8 v8):=U0 ⟨U1.refl _ _,sG.refl _⟩
 obtain⟨n,hn⟩:∃ n,b.length=n:=⟨_,rfl⟩
 rw[hn] at b3 HT1 ⊢
 clear hn
 try rw[hn]
 go_wp2_with fail
 go_loopw [21] (fun v wx=>∃ i:Nat,i≤n∧v= .int .i64 (i:Int)∧V5 (trR G1 v8 wx)) (fun v _=>n-(intOf v).toNat)
 case atStart=>exact⟨0,Nat.zero_le _,rfl,HS⟩
 case round=>
  obtain⟨q0,hil,rfl,H1⟩:=hrel
  by_cases hlt:q0<n
  ·obtain⟨g3,o3,rfl,hg1,hg2⟩:=HT1.o (by omega)
   obtain⟨z0,hz0⟩:=hg2 q0 hlt
   obtain⟨z,hz⟩:=H1.o.2.1 _ _ _ hz0
   have hfr:wr.frozen? ⟨g3,o3+q0,none⟩=false:=(HKW.o.then H1.o.1 (fun x hx=> .inr (HI.o.2.2.2.1 x hx).1)).free (HI.o.2.2.2.1 _ hg1).1 _
   have hi2:(q0:Int)<(n:Int):=by omega
   have hi0:(0:Int)≤(q0:Int):=by omega
   have hwi:IntKind.i64.wrap ((q0:Int)+1)=(q0:Int)+1:=by rw[IntKind.wrap_i64];omega
   have HN:=U0 (H1.o.set hg1 hz (bits BinOp.xor IntKind.u8 z 90))
   clear hg1 hg2 hz0
   go_wp2_with fail
   go_roundw
   case rel=>exact⟨q0+1,by omega,by go_num,HN⟩
   case measure=>simp only[intOf];omega
  ·have hie: ¬(q0:Int)<(n:Int):=by omega
   have kz:U1 [] w wr:=HKW.o.then H1.o.1 (fun x hx=> .inr (HI.o.2.2.2.1 x hx).1)
   have HZW:=U0 (U2 kz (HF.o.keep kz (by simp)))
   have T0:V5 (∀ wx,U1 [] wr wx→l5 wx t0 34 X0.toArray∧jF p0 wx J0 X0):=U0 (fun wx k=>⟨k.row (H1.o.1.row S0.o.1 (fun hm=>by have h1:=(HI.o.2.2.2.1 _ hm).2;have h2:=R0.o.2.2.2.1;omega)) (by simp),(S0.o.2.keep H1.o.1 (fun y hy hm=>by have h1:=(HI.o.2.2.2.1 _ hm).2;have h2:=R0.o.2.2.1 y hy;omega)).keep k (by simp)⟩)
   have T1:V5 (∀ wx,U1 [] wr wx→l5 wx t1 34 X1.toArray∧jF p0 wx J1 X1):=U0 (fun wx k=>⟨k.row (H1.o.1.row S1.o.1 (fun hm=>by have h1:=(HI.o.2.2.2.1 _ hm).2;have h2:=R1.o.2.2.2.1;omega)) (by simp),(S1.o.2.keep H1.o.1 (fun y hy hm=>by have h1:=(HI.o.2.2.2.1 _ hm).2;have h2:=R1.o.2.2.1 y hy;omega)).keep k (by simp)⟩)
   have T2:V5 (∀ wx,U1 [] wr wx→l5 wx t2 26 X2.toArray∧EF p1 wx J2 X2):=U0 (fun wx k=>⟨k.row (H1.o.1.row S2.o.1 (fun hm=>by have h1:=(HI.o.2.2.2.1 _ hm).2;have h2:=R2.o.2.2.2.1;omega)) (by simp),(S2.o.2.keep H1.o.1 (fun y hy hm=>by have h1:=(HI.o.2.2.2.1 _ hm).2;have h2:=R2.o.2.2.1 y hy;omega)).keep k (by simp)⟩)
   have T3:V5 (∀ wx,U1 [] wr wx→l5 wx t3 26 X3.toArray∧EF p1 wx J3 X3):=U0 (fun wx k=>⟨k.row (H1.o.1.row S3.o.1 (fun hm=>by have h1:=(HI.o.2.2.2.1 _ hm).2;have h2:=R3.o.2.2.2.1;omega)) (by simp),(S3.o.2.keep H1.o.1 (fun y hy hm=>by have h1:=(HI.o.2.2.2.1 _ hm).2;have h2:=R3.o.2.2.1 y hy;omega)).keep k (by simp)⟩)
   have T4:V5 (∀ wx,U1 [] wr wx→l5 wx t4 28 X4.toArray∧BF p2 wx J4 X4):=U0 (fun wx k=>⟨k.row (H1.o.1.row S4.o.1 (fun hm=>by have h1:=(HI.o.2.2.2.1 _ hm).2;have h2:=R4.o.2.2.2.1;omega)) (by simp),(S4.o.2.keep H1.o.1 (fun y hy hm=>by have h1:=(HI.o.2.2.2.1 _ hm).2;have h2:=R4.o.2.2.1 y hy;omega)).keep k (by simp)⟩)
   have T5:V5 (∀ wx,U1 [] wr wx→l5 wx t5 28 X5.toArray∧BF p2 wx J5 X5):=U0 (fun wx k=>⟨k.row (H1.o.1.row S5.o.1 (fun hm=>by have h1:=(HI.o.2.2.2.1 _ hm).2;have h2:=R5.o.2.2.2.1;omega)) (by simp),(S5.o.2.keep H1.o.1 (fun y hy hm=>by have h1:=(HI.o.2.2.2.1 _ hm).2;have h2:=R5.o.2.2.1 y hy;omega)).keep k (by simp)⟩)
   have T6:V5 (∀ wx,U1 [] wr wx→l5 wx t6 31 X6.toArray∧DF p3 wx J6 X6):=U0 (fun wx k=>⟨k.row (H1.o.1.row S6.o.1 (fun hm=>by have h1:=(HI.o.2.2.2.1 _ hm).2;have h2:=R6.o.2.2.2.1;omega)) (by simp),(S6.o.2.keep H1.o.1 (fun y hy hm=>by have h1:=(HI.o.2.2.2.1 _ hm).2;have h2:=R6.o.2.2.1 y hy;omega)).keep k (by simp)⟩)
   have T7:V5 (∀ wx,U1 [] wr wx→l5 wx t7 31 X7.toArray∧DF p3 wx J7 X7):=U0 (fun wx k=>⟨k.row (H1.o.1.row S7.o.1 (fun hm=>by have h1:=(HI.o.2.2.2.1 _ hm).2;have h2:=R7.o.2.2.2.1;omega)) (by simp),(S7.o.2.keep H1.o.1 (fun y hy hm=>by have h1:=(HI.o.2.2.2.1 _ hm).2;have h2:=R7.o.2.2.1 y hy;omega)).keep k (by simp)⟩)
   have Ka:=U0 (U1.refl [] wr)
   clear kz hlt hil HS
   go_upto_region 17 with fail
   go_wp2_with (first
    |(refine wpList_load_mid rfl 34 (.tmp 5) rfl t0 0 rfl X0 _ (T0.o _ Ka.o).1.rangeAll underlying34 rfl (by rw[R0.o.2.2.2.2];exact I5) ?_)
    |(refine wpList_load_mid rfl 34 (.tmp 7) rfl t1 0 rfl X1 _ (T1.o _ Ka.o).1.rangeAll underlying34 rfl (by rw[R1.o.2.2.2.2];exact I5) ?_)
    |(go_at_call 13;refine (same0 (T0.o _ Ka.o).2 (T1.o _ Ka.o).2 HFT.o.1).mono ?_;rintro e y0 ⟨rfl,kk⟩;have Kb:=U0 (Ka.o.then kk (by simp));clear kk)
    |(refine j5 26 (.tmp 9) rfl t2 0 rfl X2 _ (T2.o _ Kb.o).1.rangeAll underlying26 rfl (by rw[R2.o.2.2.2.2];exact D9) ?_ ?_;·rfl)
    |(refine j5 26 (.tmp 11) rfl t3 0 rfl X3 _ (T3.o _ Kb.o).1.rangeAll underlying26 rfl (by rw[R3.o.2.2.2.2];exact D9) ?_ ?_;·rfl)
    |(go_at_call 36;refine (same1 (T2.o _ Kb.o).2 (T3.o _ Kb.o).2).mono ?_;rintro e y1 ⟨rfl,kk⟩;have Kc:=U0 (Kb.o.then kk (by simp));clear kk)
    |(refine j5 28 (.tmp 13) rfl t4 0 rfl X4 _ (T4.o _ Kc.o).1.rangeAll underlying28 rfl (by rw[R4.o.2.2.2.2];exact Q9) ?_ ?_;·rfl)
    |(refine j5 28 (.tmp 15) rfl t5 0 rfl X5 _ (T5.o _ Kc.o).1.rangeAll underlying28 rfl (by rw[R5.o.2.2.2.2];exact Q9) ?_ ?_;·rfl)
    |(go_at_call 37;refine (same2 (T4.o _ Kc.o).2 (T5.o _ Kc.o).2).mono ?_;rintro e y2 ⟨rfl,kk⟩;have Kd:=U0 (Kc.o.then kk (by simp));clear kk)
    |(refine j5 31 (.tmp 17) rfl t6 0 rfl X6 _ (T6.o _ Kd.o).1.rangeAll underlying31 rfl (by rw[R6.o.2.2.2.2];exact S9) ?_ ?_;·rfl)
    |(refine j5 31 (.tmp 19) rfl t7 0 rfl X7 _ (T7.o _ Kd.o).1.rangeAll underlying31 rfl (by rw[R7.o.2.2.2.2];exact S9) ?_ ?_;·rfl)
    |(go_at_call 38;refine (same3 (T6.o _ Kd.o).2 (T7.o _ Kd.o).2 HFT.o.2).mono ?_;rintro e y3 ⟨rfl,kk⟩;have Ke:=U0 (Kd.o.then kk (by simp));clear kk)
    |(go_at_call 26;refine (OI _ (HZW.o.2.keep Ke.o (by simp))).mono ?_;rintro e y5 ⟨rfl,kk⟩;have Kf:=U0 (Ke.o.then kk (by simp));clear kk))
   go_ret
   exact⟨rfl,HZW.o.1.then Kf.o (by simp)⟩
end Go.Proofs.YthfdkonhjpdflaaGreatDoor
