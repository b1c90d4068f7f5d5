import Derived.Test.YthfdkonhjpdflaaGreatDoorGWA
import Derived.Test.YthfdkonhjpdflaaGreatDoorGCA
import Derived.Test.YthfdkonhjpdflaaGreatDoorPkJ
namespace Go.Proofs.YthfdkonhjpdflaaGreatDoor
open Go.RowKit Go.Proofs.Tryz
set_option linter.unusedVariables false
set_option maxRecDepth 100000
set_option linter.unusedSimpArgs false
set_option maxHeartbeats 32000000
def XD (w:World) (ok:Bool) (l:List UInt8) (e:Ending) (w':World):Prop:=
 ∃ v G,e= .returned (.tuple #[v,.int .i64 (O9 ok)])∧G7 w' G v (if ok then l else[])∧I9 w w' G∧U1 [] w w'
theorem XD.yes {w w':World} {ok:Bool} {l:List UInt8} {e:Ending} (h:ok=true) (hp:QD w l e w'):XD w ok l e w':=by
 subst h
 obtain⟨v,G,rfl,h1,h2,h3⟩:=hp
 exact⟨v,G,rfl,h1,h2,h3⟩
theorem XD.no {w w':World} {ok:Bool} {l:List UInt8} {e:Ending} (h:ok=false) (he:e= .returned (.tuple #[.slice none 0 0,.int .i64 2])) (k:U1 [] w w'):XD w ok l e w':=by
 subst h
 exact⟨_,[],he,G7.nil _ _,fun y hy=>by simp at hy,k⟩
theorem nJ (G H:List Nat) (u v:Value) (l:List UInt8) (w:World) (h:G7 w G u l) (h':G7 w H v l):
 Calls prog 11 #[u,v] w fun e w'=>e= .returned (.bool true)∧w=w':=by
 obtain⟨A,c,g,rfl,_,_,h5,_⟩:=h
 obtain⟨B,d,k,rfl,_,_,h6,_⟩:=h'
 refine (YC A B g k c d l l w h5 h6).mono ?_
 rintro e w' ⟨rfl,rfl⟩
 exact⟨by simp,rfl⟩
theorem VQ (F:List Nat) (r:RQ) (ev:Value) (w:World) (h:dH w F r ev):
 Calls prog 14 #[.agg (U8 r ev).toArray] w (XD w r.ok (dE r)):=by
 rcases Bool.eq_false_or_eq_true r.ok with h0|h0
 ·exact (FH F r ev w h h0).mono fun e w' hp=>XD.yes h0 hp
 ·exact (JM F r ev w h h0).mono fun e w' hp=>XD.no h0 hp.1 hp.2
theorem SQ (F:List Nat) (r:AN) (ev:Value) (w:World) (h:BH w F r ev):
 Calls prog 16 #[.agg (x9 r ev).toArray] w (XD w r.ok (UD r)):=by
 rcases Bool.eq_false_or_eq_true r.ok with h0|h0
 ·exact (EH F r ev w h h0).mono fun e w' hp=>XD.yes h0 hp
 ·exact (GM F r ev w h h0).mono fun e w' hp=>XD.no h0 hp.1 hp.2
theorem EO (F:List Nat) (r:CF) (ev:Value) (w:World) (h:F8 w F ev r.chain):
 Calls prog 18 #[.agg (bA r ev).toArray] w (XD w r.ok (WE r)):=by
 rcases Bool.eq_false_or_eq_true r.ok with h0|h0
 ·exact (RF F r ev w h h0).mono fun e w' hp=>XD.yes h0 hp
 ·exact (PL F r ev w h h0).mono fun e w' hp=>XD.no h0 hp.1 hp.2
theorem KO (F:List Nat) (r:RQ) (ev:Value) (w:World) (h:dH w F r ev):
 Calls prog 15 #[.agg (U8 r ev).toArray] w (XD w r.ok (dE r)):=by
 rcases Bool.eq_false_or_eq_true r.ok with h0|h0
 ·exact (kH F r ev w h h0).mono fun e w' hp=>XD.yes h0 hp
 ·exact (SL F r ev w h h0).mono fun e w' hp=>XD.no h0 hp.1 hp.2
theorem BO (F:List Nat) (r:AN) (ev:Value) (w:World) (h:BH w F r ev):
 Calls prog 17 #[.agg (x9 r ev).toArray] w (XD w r.ok (UD r)):=by
 rcases Bool.eq_false_or_eq_true r.ok with h0|h0
 ·exact (jH F r ev w h h0).mono fun e w' hp=>XD.yes h0 hp
 ·exact (ML F r ev w h h0).mono fun e w' hp=>XD.no h0 hp.1 hp.2
theorem IM (F:List Nat) (r:CF) (ev:Value) (w:World) (h:F8 w F ev r.chain):
 Calls prog 19 #[.agg (bA r ev).toArray] w (XD w r.ok (WE r)):=by
 rcases Bool.eq_false_or_eq_true r.ok with h0|h0
 ·exact (dF F r ev w h h0).mono fun e w' hp=>XD.yes h0 hp
 ·exact (xK F r ev w h h0).mono fun e w' hp=>XD.no h0 hp.1 hp.2
theorem bytes2 (F:List Nat) (r:PK) (ev av cv vv bw:Value) (w:World) (h:wD w F r ev av cv vv bw) (hfl:zB w) (hb1:OA r.frm) (hb2:OA r.dst):
 Calls prog 7 #[.agg (q8 r ev av cv vv bw).toArray] w (XD w r.ok (wH r)):=by
 rcases Bool.eq_false_or_eq_true r.ok with h0|h0
 ·exact (wI F r ev av cv vv bw w h hfl hb1 hb2 h0).mono fun e w' hp=>XD.yes h0 hp
 ·exact (DT F r ev av cv vv bw w h hfl hb1 hb2 h0).mono fun e w' hp=>XD.no h0 hp.1 hp.2
theorem jV (F:List Nat) (r:PK) (ev av cv vv bw:Value) (w:World) (h:wD w F r ev av cv vv bw) (hf:r.fits):
 Calls prog 8 #[.agg (q8 r ev av cv vv bw).toArray] w (XD w r.ok (wH r)):=by
 rcases Bool.eq_false_or_eq_true r.ok with h0|h0
 ·exact (FO F r ev av cv vv bw w h h0).mono fun e w' hp=>XD.yes h0 hp
 ·exact (TQ F r ev av cv vv bw w h hf h0).mono fun e w' hp=>XD.no h0 hp.1 hp.2
theorem copyPX (F:List Nat) (p:PK) (X:List Value) (w:World) (h:iB w F (p,X)) (hf:p.fits):
 Calls prog 24 #[.agg X.toArray] w (UK p w):=by
 obtain⟨ev,av,cv,vv,bw,h1,h2⟩:=h
 dsimp only at h1 h2
 subst h1
 refine (QO F p ev av cv vv bw w h2 hf).mono ?_
 rintro e w' ⟨G,e1,e2,e3,e4,e5,rfl,hv,hn,hk⟩
 exact⟨_,G,rfl,⟨e1,e2,e3,e4,e5,rfl,hv⟩,hn,hk⟩
theorem samePX (F G:List Nat) (p q:PK) (X Y:List Value) (w:World) (h:iB w F (p,X)) (h':iB w G (q,Y)):
 Calls prog 12 #[.agg X.toArray,.agg Y.toArray] w fun e w'=>e= .returned (.bool (p.same q))∧U1 [] w w':=by
 obtain⟨ev,av,cv,vv,bw,h1,h2⟩:=h
 obtain⟨ev',av',cv',vv',bw',h1',h2'⟩:=h'
 dsimp only at h1 h2 h1' h2'
 subst h1
 subst h1'
 exact pF F G p q ev av cv vv bw ev' av' cv' vv' bw' w h2 h2'
def PN (w:World) (E:Int) (l:List UInt8) (e:Ending) (w':World):Prop:=
 ∃ v G,e= .returned (.tuple #[v,.int .i64 E])∧G7 w' G v l∧I9 w w' G∧U1 [] w w'
def bothC (w:World) (b:Nat) (p q:PK) (wx:World):Prop:=∃ Y1 G1 Y2 G2,l5 wx b 34 (Y1:List Value).toArray∧l5 wx (b+1) 34 (Y2:List Value).toArray∧iB wx G1 (p.cutW,Y1)∧iB wx G2 (q.cutW,Y2)∧(∀ y∈G1,y<wx.heap.size)∧(∀ y∈G2,y<wx.heap.size)∧U1 [] w wx
theorem WJ (F1 F2:List Nat) (p q:PK) (X1 X2:List Value) (w:World) (h1:iB w F1 (p,X1)) (h2:iB w F2 (q,X2)) (hF1:∀ y∈F1,y<w.heap.size) (hF2:∀ y∈F2,y<w.heap.size) (hb1:OA p.frm) (hb2:OA p.dst) (hfl:zB w):
 Calls prog 3 #[.agg X1.toArray,.agg X2.toArray] w fun e w'=>e= .returned (.bool true)∧U1 [] w w':=by
 have hl1:=h1.len
 have hl2:=h2.len
 have k1:=(U1.refl [] w).alloc (.cells X1.toArray 34)
 have r1:=l5.new w 34 X1.toArray
 have hs1:(w.alloc (.cells X1.toArray 34)).heap.size=w.heap.size+1:=World.size_alloc _ _
 obtain⟨w1,hw1⟩:∃ w1,w.alloc (.cells X1.toArray 34)=w1:=⟨_,rfl⟩
 rw[hw1] at k1 r1 hs1
 have k2:=(U1.refl [] w1).alloc (.cells X2.toArray 34)
 have r2:=l5.new w1 34 X2.toArray
 have r1':=k2.row r1 (by simp)
 obtain⟨w2,hw2⟩:∃ w2,w1.alloc (.cells X2.toArray 34)=w2:=⟨_,rfl⟩
 rw[hw2] at r1' r2 k2
 rw[hs1] at r2
 have k12:=k1.then k2 (by simp)
 obtain⟨b,hb⟩:∃ b,w.heap.size=b:=⟨_,rfl⟩
 rw[hb] at r1' r2 hs1
 have HW:=U0 (U2 hw1 (U2 hw2 (U2 hb hs1)))
 have HRG:V5 (∀ wx,U1 [] w2 wx→l5 wx b 34 X1.toArray∧l5 wx (b+1) 34 X2.toArray):=U0 (fun wx k=>⟨k.row r1' (by simp),k.row r2 (by simp)⟩)
 have HI:=U0 (show (prog.info? 34).map (·.size)=some X1.length∧(prog.info? 34).map (·.size)=some X2.length by rw[hl1,hl2];exact⟨I5,I5⟩)
 have HC1:V5 (∀ wx,U1 [] w2 wx→Calls prog 6 #[.agg X1.toArray] wx (VL p F1 wx)):=U0 (fun wx k=>by
  obtain⟨ev,av,cv,vv,bw,e,hv⟩:=(h1.keep k12 (by simp)).keep k (by simp)
  dsimp only at e hv
  rw[e]
  exact bN F1 p ev av cv vv bw wx hv (fun y hy=>Nat.lt_of_lt_of_le (hF1 y hy) (Nat.le_trans k12.size k.size)))
 have HC2:V5 (∀ wx,U1 [] w2 wx→Calls prog 6 #[.agg X2.toArray] wx (VL q F2 wx)):=U0 (fun wx k=>by
  obtain⟨ev,av,cv,vv,bw,e,hv⟩:=(h2.keep k12 (by simp)).keep k (by simp)
  dsimp only at e hv
  rw[e]
  exact bN F2 q ev av cv vv bw wx hv (fun y hy=>Nat.lt_of_lt_of_le (hF2 y hy) (Nat.le_trans k12.size k.size)))
 have HB:=U0 (U2 k12 (U2 hfl (U2 hb1 (U2 hb2 (U2 hl1 (U2 hl2 (U2 hF1 hF2)))))))
 clear hl1 hl2 k1 r1 hs1 hw1 k2 r2 r1' hw2 k12 h1 h2 hF1 hF2 hb1 hb2 hfl
 go_enter func3,ntmps3
 go_upto_region 1 with (first
  |(with_reducible refine Z4 _ _ rfl 34 (.tmp 0) rfl _ rfl HW.o.1 ?_;try simp only[hb])
  |(with_reducible refine Z4 _ _ rfl 34 (.tmp 1) rfl _ rfl HW.o.2.1 ?_;try simp only[HW.o.2.2.2]))
 try simp only[Act.put,F3,U3,V3]
 go_cut [] (fun wx=>bothC w b p q wx)
 case first=>
  have KS:U1 [] w2 w2.drew:=(U1.refl [] w2).drew
  refine wp_region_held_drew (S:=fun _=>True) (by kernel_rfl) trivial (fun _=> ?_)
  refine wpAnyH_ready (rs:=[0,2]) (by kernel_rfl) (by simp) ?_
  refine AllReadyH.cons (o:=⟨_,_,_,_,_,_⟩) rfl (fun K hK=> ?_) (q9 rfl (fun K hK=> ?_))
  ·refine Z7 rfl 34 (.tmp 2) rfl b 0 rfl X1 _ (HRG.o _ KS).1.rangeAll underlying34 rfl HI.o.1 ?_
   refine hK.out _ _ trivial (fun _=> ?_)
   clear hK K
   try simp only[Act.put,F3,U3,V3]
   refine wpAnyH_ready (rs:=[1,2]) (by kernel_rfl) (by simp) ?_
   refine AllReadyH.cons (o:=⟨_,_,_,_,_,_⟩) rfl (fun K hK=> ?_) (q9 rfl (fun K hK=> ?_))
   ·go_simp
    refine (HC1.o _ KS).mono ?_
    rintro e v1 ⟨Y1,G1,rfl,i1,g1,k1⟩
    have Q1:=U0 (U2 i1 (U2 g1 k1))
    clear i1 g1
    have K1:=KS.then k1 (by simp)
    clear k1
    go_wp2_with fail
    refine hK.out _ _ trivial (fun _=> ?_)
    clear hK K
    try simp only[Act.put,F3,U3,V3]
    refine wpAnyH_ready (rs:=[2]) (by kernel_rfl) (by simp) ?_
    refine q9 rfl (fun K hK=> ?_)
    refine Z7 rfl 34 (.tmp 3) rfl (b+1) 0 rfl X2 _ (HRG.o _ K1).2.rangeAll underlying34 rfl HI.o.2 ?_
    refine hK.out _ _ trivial (fun _=> ?_)
    clear hK K
    try simp only[Act.put,F3,U3,V3]
    refine wpAnyH_ready (rs:=[3]) (by kernel_rfl) (by simp) ?_
    refine q9 rfl (fun K hK=> ?_)
    go_simp
    refine (HC2.o _ K1).mono ?_
    rintro e v2 ⟨Y2,G2,rfl,i2,g2,k2⟩
    have Q2:=U0 (U2 i2 (U2 g2 k2))
    clear i2 g2
    have K2:=K1.then k2 (by simp)
    clear k2
    go_wp2_with fail
    refine hK.out _ _ trivial (fun _=> ?_)
    clear hK K
    try simp only[Act.put,F3,U3,V3]
    refine wpAnyH_ready (rs:=[4]) (by kernel_rfl) (by simp) ?_
    refine q9 rfl (fun K hK=> ?_)
    have k4:U1 [b] v2 (v2.setCells b 0 Y1):=(U1.refl _ _).setL (.inl (by simp))
    refine I6 rfl 34 (.tmp 2) (.tmp 24) rfl b 0 Y1.toArray rfl rfl ((HRG.o _ K2).1.there (by have h9:Y1.length=87:=Q1.o.1.len;have:=HB.o.2.2.2.2.1;simp only[U4];omega)) (by rw[U4,Q1.o.1.len];exact I5) (all_oneCell_toArray Q1.o.1.one) ?_
    refine hK.out _ _ trivial (fun _=> ?_)
    clear hK K
    try simp only[Act.put,F3,U3,V3]
    refine wpAnyH_ready (rs:=[5]) (by kernel_rfl) (by simp) ?_
    refine q9 rfl (fun K hK=> ?_)
    refine I6 rfl 34 (.tmp 3) (.tmp 26) rfl (b+1) 0 Y2.toArray rfl rfl ((k4.row (HRG.o _ K2).2 (by simp)).there (by have h9:Y2.length=87:=Q2.o.1.len;have:=HB.o.2.2.2.2.2.1;simp only[U4];omega)) (by rw[U4,Q2.o.1.len];exact I5) (all_oneCell_toArray Q2.o.1.one) ?_
    refine hK.out _ _ trivial (fun _=> ?_)
    clear hK K
    try simp only[Act.put,F3,U3,V3]
    refine wpAnyH_done (by kernel_rfl) ?_ _
    go_wp2_with fail
    have k5:U1 [b+1] (v2.setCells b 0 Y1) ((v2.setCells b 0 Y1).setCells (b+1) 0 Y2):=(U1.refl _ _).setL (.inl (by simp))
    have ra:=(HRG.o _ K2).1.setL (vs:=Y1) (o:=0)
    rw[F7 (by rw[U4,Q1.o.1.len,HB.o.2.2.2.2.1])] at ra
    have rb:=(k4.row (HRG.o _ K2).2 (by simp)).setL (vs:=Y2) (o:=0)
    rw[F7 (by rw[U4,Q2.o.1.len,HB.o.2.2.2.2.2.1])] at rb
    have hbw:=HW.o.2.2.1
    have hw2s:b+1<w2.heap.size:=(HRG.o _ (U1.refl [] w2)).2.lt
    have gf:∀ (F G:List Nat) (v v':World),(∀ y∈F,y<w.heap.size)→U1 [] w2 v→(∀ y∈G,y∈F∨(v.heap.size≤y∧y<v'.heap.size))→∀ y∈G,y≠b∧y≠b+1:=fun F G v v' hF hk hG y hy=>by
     rcases hG y hy with h|h
     ·have:=hF y h;omega
     ·have:=hk.size;omega
    try simp only[List.toList_toArray]
    go_meet
    have kk:U1 [] w ((v2.setCells b 0 Y1).setCells (b+1) 0 Y2):=((HB.o.1.then K2 (by simp)).then k4 (fun x hx=> .inr (by simp only[List.mem_singleton] at hx;omega))).then k5 (fun x hx=> .inr (by simp only[List.mem_singleton] at hx;omega))
    have g1:=gf F1 G1 _ _ HB.o.2.2.2.2.2.2.1 KS Q1.o.2.1
    have g2:=gf F2 G2 _ _ HB.o.2.2.2.2.2.2.2 K1 Q2.o.2.1
    have s12:=Q2.o.2.2.size
    have h1l:∀ y∈G1,y<v2.heap.size:=fun y hy=>by
     rcases Q1.o.2.1 y hy with h|h
     ·have a:=HB.o.2.2.2.2.2.2.1 y h;have c:=HB.o.1.size;have d:=K2.size;omega
     ·omega
    have h2l:∀ y∈G2,y<v2.heap.size:=fun y hy=>by
     rcases Q2.o.2.1 y hy with h|h
     ·have a:=HB.o.2.2.2.2.2.2.2 y h;have c:=HB.o.1.size;have d:=K2.size;omega
     ·omega
    have s4:=k4.size
    have s5:=k5.size
    exact⟨Y1,G1,Y2,G2,k5.row ra (by simp),rb,((Q1.o.1.keep Q2.o.2.2 (by simp)).keep k4 (fun y hy=>by have:=g1 y hy;simp;omega)).keep k5 (fun y hy=>by have:=g1 y hy;simp;omega),(Q2.o.1.keep k4 (fun y hy=>by have:=g2 y hy;simp;omega)).keep k5 (fun y hy=>by have:=g2 y hy;simp;omega),fun y hy=>by have:=h1l y hy;omega,fun y hy=>by have:=h2l y hy;omega,kk⟩
   ·refine Z7 rfl 34 (.tmp 3) rfl (b+1) 0 rfl X2 _ (HRG.o _ KS).2.rangeAll underlying34 rfl HI.o.2 ?_
    refine hK.out _ _ trivial (fun _=> ?_)
    clear hK K
    try simp only[Act.put,F3,U3,V3]
    refine wpAnyH_ready (rs:=[1]) (by kernel_rfl) (by simp) ?_
    refine q9 rfl (fun K hK=> ?_)
    go_simp
    refine (HC1.o _ KS).mono ?_
    rintro e v1 ⟨Y1,G1,rfl,i1,g1,k1⟩
    have Q1:=U0 (U2 i1 (U2 g1 k1))
    clear i1 g1
    have K1:=KS.then k1 (by simp)
    clear k1
    go_wp2_with fail
    refine hK.out _ _ trivial (fun _=> ?_)
    clear hK K
    try simp only[Act.put,F3,U3,V3]
    refine wpAnyH_ready (rs:=[3]) (by kernel_rfl) (by simp) ?_
    refine q9 rfl (fun K hK=> ?_)
    go_simp
    refine (HC2.o _ K1).mono ?_
    rintro e v2 ⟨Y2,G2,rfl,i2,g2,k2⟩
    have Q2:=U0 (U2 i2 (U2 g2 k2))
    clear i2 g2
    have K2:=K1.then k2 (by simp)
    clear k2
    go_wp2_with fail
    refine hK.out _ _ trivial (fun _=> ?_)
    clear hK K
    try simp only[Act.put,F3,U3,V3]
    refine wpAnyH_ready (rs:=[4]) (by kernel_rfl) (by simp) ?_
    refine q9 rfl (fun K hK=> ?_)
    have k4:U1 [b] v2 (v2.setCells b 0 Y1):=(U1.refl _ _).setL (.inl (by simp))
    refine I6 rfl 34 (.tmp 2) (.tmp 24) rfl b 0 Y1.toArray rfl rfl ((HRG.o _ K2).1.there (by have h9:Y1.length=87:=Q1.o.1.len;have:=HB.o.2.2.2.2.1;simp only[U4];omega)) (by rw[U4,Q1.o.1.len];exact I5) (all_oneCell_toArray Q1.o.1.one) ?_
    refine hK.out _ _ trivial (fun _=> ?_)
    clear hK K
    try simp only[Act.put,F3,U3,V3]
    refine wpAnyH_ready (rs:=[5]) (by kernel_rfl) (by simp) ?_
    refine q9 rfl (fun K hK=> ?_)
    refine I6 rfl 34 (.tmp 3) (.tmp 26) rfl (b+1) 0 Y2.toArray rfl rfl ((k4.row (HRG.o _ K2).2 (by simp)).there (by have h9:Y2.length=87:=Q2.o.1.len;have:=HB.o.2.2.2.2.2.1;simp only[U4];omega)) (by rw[U4,Q2.o.1.len];exact I5) (all_oneCell_toArray Q2.o.1.one) ?_
    refine hK.out _ _ trivial (fun _=> ?_)
    clear hK K
    try simp only[Act.put,F3,U3,V3]
    refine wpAnyH_done (by kernel_rfl) ?_ _
    go_wp2_with fail
    have k5:U1 [b+1] (v2.setCells b 0 Y1) ((v2.setCells b 0 Y1).setCells (b+1) 0 Y2):=(U1.refl _ _).setL (.inl (by simp))
    have ra:=(HRG.o _ K2).1.setL (vs:=Y1) (o:=0)
    rw[F7 (by rw[U4,Q1.o.1.len,HB.o.2.2.2.2.1])] at ra
    have rb:=(k4.row (HRG.o _ K2).2 (by simp)).setL (vs:=Y2) (o:=0)
    rw[F7 (by rw[U4,Q2.o.1.len,HB.o.2.2.2.2.2.1])] at rb
    have hbw:=HW.o.2.2.1
    have hw2s:b+1<w2.heap.size:=(HRG.o _ (U1.refl [] w2)).2.lt
    have gf:∀ (F G:List Nat) (v v':World),(∀ y∈F,y<w.heap.size)→U1 [] w2 v→(∀ y∈G,y∈F∨(v.heap.size≤y∧y<v'.heap.size))→∀ y∈G,y≠b∧y≠b+1:=fun F G v v' hF hk hG y hy=>by
     rcases hG y hy with h|h
     ·have:=hF y h;omega
     ·have:=hk.size;omega
    try simp only[List.toList_toArray]
    go_meet
    have kk:U1 [] w ((v2.setCells b 0 Y1).setCells (b+1) 0 Y2):=((HB.o.1.then K2 (by simp)).then k4 (fun x hx=> .inr (by simp only[List.mem_singleton] at hx;omega))).then k5 (fun x hx=> .inr (by simp only[List.mem_singleton] at hx;omega))
    have g1:=gf F1 G1 _ _ HB.o.2.2.2.2.2.2.1 KS Q1.o.2.1
    have g2:=gf F2 G2 _ _ HB.o.2.2.2.2.2.2.2 K1 Q2.o.2.1
    have s12:=Q2.o.2.2.size
    have h1l:∀ y∈G1,y<v2.heap.size:=fun y hy=>by
     rcases Q1.o.2.1 y hy with h|h
     ·have a:=HB.o.2.2.2.2.2.2.1 y h;have c:=HB.o.1.size;have d:=K2.size;omega
     ·omega
    have h2l:∀ y∈G2,y<v2.heap.size:=fun y hy=>by
     rcases Q2.o.2.1 y hy with h|h
     ·have a:=HB.o.2.2.2.2.2.2.2 y h;have c:=HB.o.1.size;have d:=K2.size;omega
     ·omega
    have s4:=k4.size
    have s5:=k5.size
    exact⟨Y1,G1,Y2,G2,k5.row ra (by simp),rb,((Q1.o.1.keep Q2.o.2.2 (by simp)).keep k4 (fun y hy=>by have:=g1 y hy;simp;omega)).keep k5 (fun y hy=>by have:=g1 y hy;simp;omega),(Q2.o.1.keep k4 (fun y hy=>by have:=g2 y hy;simp;omega)).keep k5 (fun y hy=>by have:=g2 y hy;simp;omega),fun y hy=>by have:=h1l y hy;omega,fun y hy=>by have:=h2l y hy;omega,kk⟩
  ·refine Z7 rfl 34 (.tmp 3) rfl (b+1) 0 rfl X2 _ (HRG.o _ KS).2.rangeAll underlying34 rfl HI.o.2 ?_
   refine hK.out _ _ trivial (fun _=> ?_)
   clear hK K
   try simp only[Act.put,F3,U3,V3]
   refine wpAnyH_ready (rs:=[0]) (by kernel_rfl) (by simp) ?_
   refine q9 rfl (fun K hK=> ?_)
   refine Z7 rfl 34 (.tmp 2) rfl b 0 rfl X1 _ (HRG.o _ KS).1.rangeAll underlying34 rfl HI.o.1 ?_
   refine hK.out _ _ trivial (fun _=> ?_)
   clear hK K
   try simp only[Act.put,F3,U3,V3]
   refine wpAnyH_ready (rs:=[1]) (by kernel_rfl) (by simp) ?_
   refine q9 rfl (fun K hK=> ?_)
   go_simp
   refine (HC1.o _ KS).mono ?_
   rintro e v1 ⟨Y1,G1,rfl,i1,g1,k1⟩
   have Q1:=U0 (U2 i1 (U2 g1 k1))
   clear i1 g1
   have K1:=KS.then k1 (by simp)
   clear k1
   go_wp2_with fail
   refine hK.out _ _ trivial (fun _=> ?_)
   clear hK K
   try simp only[Act.put,F3,U3,V3]
   refine wpAnyH_ready (rs:=[3]) (by kernel_rfl) (by simp) ?_
   refine q9 rfl (fun K hK=> ?_)
   go_simp
   refine (HC2.o _ K1).mono ?_
   rintro e v2 ⟨Y2,G2,rfl,i2,g2,k2⟩
   have Q2:=U0 (U2 i2 (U2 g2 k2))
   clear i2 g2
   have K2:=K1.then k2 (by simp)
   clear k2
   go_wp2_with fail
   refine hK.out _ _ trivial (fun _=> ?_)
   clear hK K
   try simp only[Act.put,F3,U3,V3]
   refine wpAnyH_ready (rs:=[4]) (by kernel_rfl) (by simp) ?_
   refine q9 rfl (fun K hK=> ?_)
   have k4:U1 [b] v2 (v2.setCells b 0 Y1):=(U1.refl _ _).setL (.inl (by simp))
   refine I6 rfl 34 (.tmp 2) (.tmp 24) rfl b 0 Y1.toArray rfl rfl ((HRG.o _ K2).1.there (by have h9:Y1.length=87:=Q1.o.1.len;have:=HB.o.2.2.2.2.1;simp only[U4];omega)) (by rw[U4,Q1.o.1.len];exact I5) (all_oneCell_toArray Q1.o.1.one) ?_
   refine hK.out _ _ trivial (fun _=> ?_)
   clear hK K
   try simp only[Act.put,F3,U3,V3]
   refine wpAnyH_ready (rs:=[5]) (by kernel_rfl) (by simp) ?_
   refine q9 rfl (fun K hK=> ?_)
   refine I6 rfl 34 (.tmp 3) (.tmp 26) rfl (b+1) 0 Y2.toArray rfl rfl ((k4.row (HRG.o _ K2).2 (by simp)).there (by have h9:Y2.length=87:=Q2.o.1.len;have:=HB.o.2.2.2.2.2.1;simp only[U4];omega)) (by rw[U4,Q2.o.1.len];exact I5) (all_oneCell_toArray Q2.o.1.one) ?_
   refine hK.out _ _ trivial (fun _=> ?_)
   clear hK K
   try simp only[Act.put,F3,U3,V3]
   refine wpAnyH_done (by kernel_rfl) ?_ _
   go_wp2_with fail
   have k5:U1 [b+1] (v2.setCells b 0 Y1) ((v2.setCells b 0 Y1).setCells (b+1) 0 Y2):=(U1.refl _ _).setL (.inl (by simp))
   have ra:=(HRG.o _ K2).1.setL (vs:=Y1) (o:=0)
   rw[F7 (by rw[U4,Q1.o.1.len,HB.o.2.2.2.2.1])] at ra
   have rb:=(k4.row (HRG.o _ K2).2 (by simp)).setL (vs:=Y2) (o:=0)
   rw[F7 (by rw[U4,Q2.o.1.len,HB.o.2.2.2.2.2.1])] at rb
   have hbw:=HW.o.2.2.1
   have hw2s:b+1<w2.heap.size:=(HRG.o _ (U1.refl [] w2)).2.lt
   have gf:∀ (F G:List Nat) (v v':World),(∀ y∈F,y<w.heap.size)→U1 [] w2 v→(∀ y∈G,y∈F∨(v.heap.size≤y∧y<v'.heap.size))→∀ y∈G,y≠b∧y≠b+1:=fun F G v v' hF hk hG y hy=>by
    rcases hG y hy with h|h
    ·have:=hF y h;omega
    ·have:=hk.size;omega
   try simp only[List.toList_toArray]
   go_meet
   have kk:U1 [] w ((v2.setCells b 0 Y1).setCells (b+1) 0 Y2):=((HB.o.1.then K2 (by simp)).then k4 (fun x hx=> .inr (by simp only[List.mem_singleton] at hx;omega))).then k5 (fun x hx=> .inr (by simp only[List.mem_singleton] at hx;omega))
   have g1:=gf F1 G1 _ _ HB.o.2.2.2.2.2.2.1 KS Q1.o.2.1
   have g2:=gf F2 G2 _ _ HB.o.2.2.2.2.2.2.2 K1 Q2.o.2.1
   have s12:=Q2.o.2.2.size
   have h1l:∀ y∈G1,y<v2.heap.size:=fun y hy=>by
    rcases Q1.o.2.1 y hy with h|h
    ·have a:=HB.o.2.2.2.2.2.2.1 y h;have c:=HB.o.1.size;have d:=K2.size;omega
    ·omega
   have h2l:∀ y∈G2,y<v2.heap.size:=fun y hy=>by
    rcases Q2.o.2.1 y hy with h|h
    ·have a:=HB.o.2.2.2.2.2.2.2 y h;have c:=HB.o.1.size;have d:=K2.size;omega
    ·omega
   have s4:=k4.size
   have s5:=k5.size
   exact⟨Y1,G1,Y2,G2,k5.row ra (by simp),rb,((Q1.o.1.keep Q2.o.2.2 (by simp)).keep k4 (fun y hy=>by have:=g1 y hy;simp;omega)).keep k5 (fun y hy=>by have:=g1 y hy;simp;omega),(Q2.o.1.keep k4 (fun y hy=>by have:=g2 y hy;simp;omega)).keep k5 (fun y hy=>by have:=g2 y hy;simp;omega),fun y hy=>by have:=h1l y hy;omega,fun y hy=>by have:=h2l y hy;omega,kk⟩
 case rest=>
  obtain⟨Y1,G1,Y2,G2,ra,rb,i1,i2,l1,l2,k5⟩:=hcut
  generalize wc=w5 at*
  clear HRG HC1 HC2 HI
  obtain⟨P,hP⟩:∃ P,p.cutW=P:=⟨_,rfl⟩
  obtain⟨Q,hQ⟩:∃ Q,q.cutW=Q:=⟨_,rfl⟩
  have hfp:=p.cutW_fits
  have hfq:=q.cutW_fits
  have hb1:OA P.frm:=by rw[←hP];exact HB.o.2.2.1
  have hb2:OA P.dst:=by rw[←hP];exact HB.o.2.2.2.1
  rw[hP] at i1 hfp
  rw[hQ] at i2 hfq
  obtain⟨ev,av,cv,vv,bw,hY1,hv1⟩:=id i1
  dsimp only at hY1 hv1
  obtain⟨ev2,av2,cv2,vv2,bw2,hY2,hv2⟩:=id i2
  dsimp only at hY2 hv2
  have hflw:=HB.o.2.1
  have hrk:=ra
  rw[hY1] at hrk
  have HRW:V5 (∀ wx,U1 [] w5 wx→wx.rangeAt b 0 Y1∧wx.rangeAt (b+1) 0 Y2∧RN wx b P ev av cv vv bw∧U1 [] w wx):=U0 (fun wx k=>⟨(k.row ra (by simp)).rangeAll,(k.row rb (by simp)).rangeAll,(k.row hrk (by simp)).pk hv1.rn hv1.an,k5.then k (by simp)⟩)
  have HLN:=U0 (U2 i1.len (U2 i2.len (U2 i1.one i2.one)))
  obtain⟨RL,hRL⟩:∃ L,U8 P.req ev=L:=⟨_,rfl⟩
  obtain⟨AL,hAL⟩:∃ L,x9 P.ans av=L:=⟨_,rfl⟩
  have HRL:=U0 (U2 (show RL.length=37 by rw[←hRL];exact O8 hv1.rn) hRL)
  have HAL:=U0 (U2 (show AL.length=38 by rw[←hAL];exact y9 hv1.an) hAL)
  obtain⟨E,hE⟩:∃ E,O9 P.ok=E:=⟨_,rfl⟩
  obtain⟨Er,hEr⟩:∃ E,O9 P.req.ok=E:=⟨_,rfl⟩
  obtain⟨Ea,hEa⟩:∃ E,O9 P.ans.ok=E:=⟨_,rfl⟩
  obtain⟨Ec,hEc⟩:∃ E,O9 P.conf.ok=E:=⟨_,rfl⟩
  have hee:(E !=E)=false:=by simp
  have her:(Er !=Er)=false:=by simp
  have hea:(Ea !=Ea)=false:=by simp
  have hec:(Ec !=Ec)=false:=by simp
  obtain⟨SB,hSB⟩:∃ S,P.same Q=S:=⟨_,rfl⟩
  have hss:(SB !=SB)=false:=by cases SB<;>rfl
  have HBY:V5 (∀ wx,U1 [] w5 wx→Calls prog 7 #[.agg Y1.toArray] wx (PN wx E (if P.ok then wH P else[]))):=U0 (fun wx k=>by
   rw[hY1,←hE];exact bytes2 G1 P ev av cv vv bw wx (hv1.over k) ((hflw.keep k5 (by simp)).keep k (by simp)) hb1 hb2)
  have HBD:V5 (∀ wx,U1 [] w5 wx→Calls prog 8 #[.agg Y1.toArray] wx (PN wx E (if P.ok then wH P else[]))):=U0 (fun wx k=>by
   rw[hY1,←hE];exact jV G1 P ev av cv vv bw wx (hv1.over k) hfp)
  have HCH:V5 (∀ wx,U1 [] w5 wx→Calls prog 9 #[.agg Y1.toArray] wx fun e w'=>e= .returned (.int .i64 E)∧U1 [] wx w'):=U0 (fun wx k=>by
   rw[hY1,←hE];exact gD G1 P ev av cv vv bw wx (hv1.over k) ((hflw.keep k5 (by simp)).keep k (by simp)) hb1 hb2)
  have HCD:V5 (∀ wx,U1 [] w5 wx→Calls prog 10 #[.agg Y1.toArray] wx fun e w'=>e= .returned (.int .i64 E)∧U1 [] wx w'):=U0 (fun wx k=>by
   rw[←hE];exact aQ G1 P Y1 wx (i1.keep k (by simp)) hfp)
  have HSM:V5 (∀ wx,U1 [] w5 wx→Calls prog 12 #[.agg Y1.toArray,.agg Y2.toArray] wx fun e w'=>e= .returned (.bool SB)∧U1 [] wx w'):=U0 (fun wx k=>by
   rw[hY1,hY2,←hSB];exact pF G1 G2 P Q ev av cv vv bw ev2 av2 cv2 vv2 bw2 wx (hv1.over k) (hv2.over k))
  have HSD:V5 (∀ wx,U1 [] w5 wx→Calls prog 13 #[.agg Y1.toArray,.agg Y2.toArray] wx fun e w'=>e= .returned (.bool SB)∧U1 [] wx w'):=U0 (fun wx k=>by
   rw[←hSB];exact oM G1 G2 P Q Y1 Y2 wx (i1.keep k (by simp)) (i2.keep k (by simp)) hfp hfq)
  have HRQ:V5 (∀ wx,U1 [] w5 wx→Calls prog 14 #[.agg RL.toArray] wx (PN wx Er (if P.req.ok then dE P.req else[]))∧Calls prog 15 #[.agg RL.toArray] wx (PN wx Er (if P.req.ok then dE P.req else[]))∧Calls prog 20 #[.agg RL.toArray] wx fun e w'=>e= .returned (.int .i64 Er)∧U1 [] wx w'):=U0 (fun wx k=>by
   rw[←hRL,←hEr];exact⟨VQ G1 P.req ev wx ⟨hv1.rn,(hv1.over k).re⟩,KO G1 P.req ev wx ⟨hv1.rn,(hv1.over k).re⟩,fD G1 P.req ev wx ⟨hv1.rn,(hv1.over k).re⟩⟩)
  have HRA:V5 (∀ wx,U1 [] w5 wx→Calls prog 16 #[.agg AL.toArray] wx (PN wx Ea (if P.ans.ok then UD P.ans else[]))∧Calls prog 17 #[.agg AL.toArray] wx (PN wx Ea (if P.ans.ok then UD P.ans else[]))∧Calls prog 21 #[.agg AL.toArray] wx fun e w'=>e= .returned (.int .i64 Ea)∧U1 [] wx w'):=U0 (fun wx k=>by
   rw[←hAL,←hEa];exact⟨SQ G1 P.ans av wx ⟨hv1.an,(hv1.over k).ae⟩,BO G1 P.ans av wx ⟨hv1.an,(hv1.over k).ae⟩,LD G1 P.ans av wx ⟨hv1.an,(hv1.over k).ae⟩⟩)
  have HRC:V5 (∀ wx,U1 [] w5 wx→Calls prog 18 #[.agg (bA P.conf cv).toArray] wx (PN wx Ec (if P.conf.ok then WE P.conf else[]))∧Calls prog 19 #[.agg (bA P.conf cv).toArray] wx (PN wx Ec (if P.conf.ok then WE P.conf else[]))∧Calls prog 22 #[.agg (bA P.conf cv).toArray] wx fun e w'=>e= .returned (.int .i64 Ec)∧U1 [] wx w'):=U0 (fun wx k=>by
   rw[←hEc];exact⟨EO G1 P.conf cv wx (hv1.over k).cc,IM G1 P.conf cv wx (hv1.over k).cc,tC G1 P.conf cv wx (hv1.over k).cc⟩)
  have HIT:=U0 (U2 i1 (U2 hfp (U2 l1 (U2 hv1 hY1))))
  clear ra rb hrk hfq hb1 hb2 i1 i2 hv1 hv2 hY1 hY2 hflw l1 l2 hP hQ hRL hAL hE hEr hEa hEc hSB hfp k5
  go_upto_region 3 with (first
   |(refine wpList_load_mid rfl 34 (.tmp 2) rfl b 0 rfl Y1 _ (HRW.o _ (U1.refl [] w5)).1 underlying34 rfl (by rw[HLN.o.1];exact I5) ?_)
   |(go_at_call 7;refine (HBY.o _ (U1.refl [] w5)).mono ?_;rintro e w6 ⟨u6,Ga6,rfl,hb6, -,kk⟩;have N6:=U0 (U2 hb6 ((U1.refl [] w5).then kk (by simp)));have J6:=U0 kk;clear hb6 kk))
  go_upto_region 4 with (first
   |(refine wpList_load_mid rfl 34 (.tmp 2) rfl b 0 rfl Y1 _ (HRW.o _ N6.o.2).1 underlying34 rfl (by rw[HLN.o.1];exact I5) ?_)
   |(go_at_call 8;refine (HBD.o _ N6.o.2).mono ?_;rintro e w7 ⟨u7,Ga7,rfl,hb7, -,kk⟩;have N7:=U0 (U2 hb7 (N6.o.2.then kk (by simp)));have J7:=U0 kk;clear hb7 kk))
  have KS:U1 [] w5 w7.drew:=N7.o.2.drew
  refine wp_region_held_drew (S:=fun W=>U1 [] w5 W) (by kernel_rfl) KS (fun _=> ?_)
  refine wpAnyH_take (i:=0) (oi:=⟨_,_,_,_,_,_⟩) (v:= .agg (Y1).toArray) rfl (by kernel_rfl) (by kernel_rfl) (by kernel_rfl) (fun _ _ _ h=>h) (uA 34 (.tmp 2) rfl b 0 rfl (Y1) _ (fun w' hSw=>(HRW.o w' hSw).1) underlying34 rfl (by rw[HLN.o.1];exact I5) ?_) KS ?_
  ·rfl
  try simp only[Act.put,F3,U3,V3]
  refine wpAnyH_take (i:=2) (oi:=⟨_,_,_,_,_,_⟩) (v:= .agg (Y1).toArray) rfl (by kernel_rfl) (by kernel_rfl) (by kernel_rfl) (fun _ _ _ h=>h) (uA 34 (.tmp 2) rfl b 0 rfl (Y1) _ (fun w' hSw=>(HRW.o w' hSw).1) underlying34 rfl (by rw[HLN.o.1];exact I5) ?_) KS ?_
  ·rfl
  try simp only[Act.put,F3,U3,V3]
  refine wpAnyH_ready (rs:=[1]) (by kernel_rfl) (by simp) ?_
  refine q9 rfl (fun K hK=> ?_)
  go_simp
  refine (HCH.o _ KS).mono ?_
  rintro e v1 ⟨rfl,kk⟩
  have C1:=U0 kk
  have M1:=U0 (KS.then kk (by simp))
  clear kk
  go_wp2_with fail
  refine hK.out _ _ M1.o (fun _=> ?_)
  clear hK K
  try simp only[Act.put,F3,U3,V3]
  refine wpAnyH_ready (rs:=[3]) (by kernel_rfl) (by simp) ?_
  refine q9 rfl (fun K hK=> ?_)
  go_simp
  refine (HCD.o _ M1.o).mono ?_
  rintro e v2 ⟨rfl,kk⟩
  have C2:=U0 kk
  have M2:=U0 (M1.o.then kk (by simp))
  clear kk
  go_wp2_with fail
  refine hK.out _ _ M2.o (fun _=> ?_)
  clear hK K
  try simp only[Act.put,F3,U3,V3]
  refine FB 4 ⟨_,_,_,_,_,_⟩ _ M2.o ?_
  try simp only[Act.put,F3,U3,V3]
  refine FB 5 ⟨_,_,_,_,_,_⟩ _ M2.o ?_
  try simp only[Act.put,F3,U3,V3]
  refine FB 6 ⟨_,_,_,_,_,_⟩ _ M2.o ?_
  try simp only[Act.put,F3,U3,V3]
  refine FB 7 ⟨_,_,_,_,_,_⟩ _ M2.o ?_
  try simp only[Act.put,F3,U3,V3]
  refine wpAnyH_ready (rs:=[8]) (by kernel_rfl) (by simp) ?_
  refine q9 rfl (fun K hK=> ?_)
  go_simp
  have HKA:=U0 (show U1 [] w6 v2 from (J7.o.then (U1.refl [] w7).drew (by simp)).then (C1.o.then C2.o (by simp)) (by simp))
  have HKB:=U0 (show U1 [] w7 v2 from ((U1.refl [] w7).drew).then (C1.o.then C2.o (by simp)) (by simp))
  refine (nJ _ _ u6 u7 _ v2 (N6.o.1.keep HKA.o (by simp)) (N7.o.1.keep HKB.o (by simp))).mono ?_
  rintro e v3 ⟨rfl,rfl⟩
  go_wp2_with fail
  refine hK.out _ _ M2.o (fun _=> ?_)
  clear hK K
  try simp only[Act.put,F3,U3,V3]
  refine FB 9 ⟨_,_,_,_,_,_⟩ _ M2.o ?_
  try simp only[Act.put,F3,U3,V3]
  refine FB 10 ⟨_,_,_,_,_,_⟩ _ M2.o ?_
  try simp only[Act.put,F3,U3,V3]
  refine FB 11 ⟨_,_,_,_,_,_⟩ _ M2.o ?_
  try simp only[Act.put,F3,U3,V3]
  refine FB 12 ⟨_,_,_,_,_,_⟩ _ M2.o ?_
  try simp only[Act.put,F3,U3,V3]
  refine FB 13 ⟨_,_,_,_,_,_⟩ _ M2.o ?_
  try simp only[Act.put,F3,U3,V3]
  refine FB 14 ⟨_,_,_,_,_,_⟩ _ M2.o ?_
  try simp only[Act.put,F3,U3,V3]
  refine FB 15 ⟨_,_,_,_,_,_⟩ _ M2.o ?_
  try simp only[Act.put,F3,U3,V3]
  refine FB 16 ⟨_,_,_,_,_,_⟩ _ M2.o ?_
  try simp only[Act.put,F3,U3,V3]
  refine wpAnyH_take (i:=17) (oi:=⟨_,_,_,_,_,_⟩) (v:= .agg (Y1).toArray) rfl (by kernel_rfl) (by kernel_rfl) (by kernel_rfl) (fun _ _ _ h=>h) (uA 34 (.tmp 2) rfl b 0 rfl (Y1) _ (fun w' hSw=>(HRW.o w' hSw).1) underlying34 rfl (by rw[HLN.o.1];exact I5) ?_) M2.o ?_
  ·rfl
  try simp only[Act.put,F3,U3,V3]
  refine wpAnyH_take (i:=18) (oi:=⟨_,_,_,_,_,_⟩) (v:= .agg (Y2).toArray) rfl (by kernel_rfl) (by kernel_rfl) (by kernel_rfl) (fun _ _ _ h=>h) (uA 34 (.tmp 3) rfl (b+1) 0 rfl (Y2) _ (fun w' hSw=>(HRW.o w' hSw).2.1) underlying34 rfl (by rw[HLN.o.2.1];exact I5) ?_) M2.o ?_
  ·rfl
  try simp only[Act.put,F3,U3,V3]
  refine wpAnyH_take (i:=20) (oi:=⟨_,_,_,_,_,_⟩) (v:= .agg (Y1).toArray) rfl (by kernel_rfl) (by kernel_rfl) (by kernel_rfl) (fun _ _ _ h=>h) (uA 34 (.tmp 2) rfl b 0 rfl (Y1) _ (fun w' hSw=>(HRW.o w' hSw).1) underlying34 rfl (by rw[HLN.o.1];exact I5) ?_) M2.o ?_
  ·rfl
  try simp only[Act.put,F3,U3,V3]
  refine wpAnyH_take (i:=21) (oi:=⟨_,_,_,_,_,_⟩) (v:= .agg (Y2).toArray) rfl (by kernel_rfl) (by kernel_rfl) (by kernel_rfl) (fun _ _ _ h=>h) (uA 34 (.tmp 3) rfl (b+1) 0 rfl (Y2) _ (fun w' hSw=>(HRW.o w' hSw).2.1) underlying34 rfl (by rw[HLN.o.2.1];exact I5) ?_) M2.o ?_
  ·rfl
  try simp only[Act.put,F3,U3,V3]
  refine wpAnyH_ready (rs:=[19]) (by kernel_rfl) (by simp) ?_
  refine q9 rfl (fun K hK=> ?_)
  go_simp
  refine (HSM.o _ M2.o).mono ?_
  rintro e v4 ⟨rfl,kk⟩
  have M4:=U0 (M2.o.then kk (by simp))
  clear kk
  go_wp2_with fail
  refine hK.out _ _ M4.o (fun _=> ?_)
  clear hK K
  try simp only[Act.put,F3,U3,V3]
  refine wpAnyH_ready (rs:=[22]) (by kernel_rfl) (by simp) ?_
  refine q9 rfl (fun K hK=> ?_)
  go_simp
  refine (HSD.o _ M4.o).mono ?_
  rintro e v5 ⟨rfl,kk⟩
  have M5:=U0 (M4.o.then kk (by simp))
  clear kk
  go_wp2_with fail
  refine hK.out _ _ M5.o (fun _=> ?_)
  clear hK K
  try simp only[Act.put,F3,U3,V3]
  refine FB 23 ⟨_,_,_,_,_,_⟩ _ M5.o ?_
  try simp only[Act.put,F3,U3,V3]
  refine FB 24 ⟨_,_,_,_,_,_⟩ _ M5.o ?_
  try simp only[Act.put,F3,U3,V3]
  refine wpAnyH_done (by kernel_rfl) ?_ _
  go_upto_region 6 with fail
  go_upto_region 7 with (first
   |(refine wpList_load_mid rfl 26 (.tmp 63) rfl b 7 rfl RL _ (HRL.o.2▸(HRW.o _ M5.o).2.2.1.rq) underlying26 rfl (by rw[HRL.o.1];exact D9) ?_)
   |(go_at_call 14;refine ((HRQ.o _ M5.o).1).mono ?_;rintro e w8 ⟨u8,Ga8,rfl,hb8, -,kk⟩;have N8:=U0 (U2 hb8 (M5.o.then kk (by simp)));have J8:=U0 kk;clear hb8 kk))
  go_upto_region 8 with (first
   |(refine wpList_load_mid rfl 26 (.tmp 69) rfl b 7 rfl RL _ (HRL.o.2▸(HRW.o _ N8.o.2).2.2.1.rq) underlying26 rfl (by rw[HRL.o.1];exact D9) ?_)
   |(go_at_call 15;refine ((HRQ.o _ N8.o.2).2.1).mono ?_;rintro e w9 ⟨u9,Ga9,rfl,hb9, -,kk⟩;have N9:=U0 (U2 hb9 (N8.o.2.then kk (by simp)));have J9:=U0 kk;clear hb9 kk))
  go_upto_region 9 with (first
   |(refine wpList_load_mid rfl 28 (.tmp 75) rfl b 44 rfl AL _ (HAL.o.2▸(HRW.o _ N9.o.2).2.2.1.an) underlying28 rfl (by rw[HAL.o.1];exact Q9) ?_)
   |(go_at_call 16;refine ((HRA.o _ N9.o.2).1).mono ?_;rintro e w10 ⟨u10,Ga10,rfl,hb10, -,kk⟩;have N10:=U0 (U2 hb10 (N9.o.2.then kk (by simp)));have J10:=U0 kk;clear hb10 kk))
  go_upto_region 10 with (first
   |(refine wpList_load_mid rfl 28 (.tmp 81) rfl b 44 rfl AL _ (HAL.o.2▸(HRW.o _ N10.o.2).2.2.1.an) underlying28 rfl (by rw[HAL.o.1];exact Q9) ?_)
   |(go_at_call 17;refine ((HRA.o _ N10.o.2).2.1).mono ?_;rintro e w11 ⟨u11,Ga11,rfl,hb11, -,kk⟩;have N11:=U0 (U2 hb11 (N10.o.2.then kk (by simp)));have J11:=U0 kk;clear hb11 kk))
  have d0:=(HRW.o _ N11.o.2).2.2.1.d0
  have d1:=(HRW.o _ N11.o.2).2.2.1.d1
  have d2:=(HRW.o _ N11.o.2).2.2.1.d2
  go_upto_region 11 with (first
   |(fail)
   |(go_at_call 18;refine ((HRC.o _ N11.o.2).1).mono ?_;rintro e w12 ⟨u12,Ga12,rfl,hb12, -,kk⟩;have N12:=U0 (U2 hb12 (N11.o.2.then kk (by simp)));have J12:=U0 kk;clear hb12 kk))
  clear d0 d1 d2
  have d0:=(HRW.o _ N12.o.2).2.2.1.d0
  have d1:=(HRW.o _ N12.o.2).2.2.1.d1
  have d2:=(HRW.o _ N12.o.2).2.2.1.d2
  go_upto_region 12 with (first
   |(fail)
   |(go_at_call 19;refine ((HRC.o _ N12.o.2).2.1).mono ?_;rintro e w13 ⟨u13,Ga13,rfl,hb13, -,kk⟩;have N13:=U0 (U2 hb13 (N12.o.2.then kk (by simp)));have J13:=U0 kk;clear hb13 kk))
  clear d0 d1 d2
  have k913:=(((J9.o.then J10.o (by simp)).then J11.o (by simp)).then J12.o (by simp)).then J13.o (by simp)
  have E8:=U0 (N8.o.1.keep k913 (by simp))
  have E9:=U0 (N9.o.1.keep (((J10.o.then J11.o (by simp)).then J12.o (by simp)).then J13.o (by simp)) (by simp))
  have E10:=U0 (N10.o.1.keep ((J11.o.then J12.o (by simp)).then J13.o (by simp)) (by simp))
  have E11:=U0 (N11.o.1.keep (J12.o.then J13.o (by simp)) (by simp))
  have E12:=U0 (N12.o.1.keep J13.o (by simp))
  clear k913 J9 J10 J11 J12 N8 N9 N10 N11 N12
  go_upto_region 14 with (first
   |(go_at_call 11;(with_reducible refine (nJ _ _ u8 u9 _ w13 E8.o E9.o).mono ?_);rintro e w' ⟨rfl,rfl⟩)
   |(go_at_call 11;(with_reducible refine (nJ _ _ u10 u11 _ w13 E10.o E11.o).mono ?_);rintro e w' ⟨rfl,rfl⟩)
   |(go_at_call 11;(with_reducible refine (nJ _ _ u12 u13 _ w13 E12.o N13.o.1).mono ?_);rintro e w' ⟨rfl,rfl⟩)
   |(refine j5 26 (.tmp 130) rfl b 7 rfl RL _ (HRL.o.2▸(HRW.o _ N13.o.2).2.2.1.rq) underlying26 rfl (by rw[HRL.o.1];exact D9) ?_ ?_;·rfl)
   |(go_at_call 20;refine (HRQ.o _ N13.o.2).2.2.mono ?_;rintro e w14 ⟨rfl,kk⟩;have N14:=U0 (N13.o.2.then kk (by simp));clear kk)
   |(refine j5 28 (.tmp 137) rfl b 44 rfl AL _ (HAL.o.2▸(HRW.o _ N14.o).2.2.1.an) underlying28 rfl (by rw[HAL.o.1];exact Q9) ?_ ?_;·rfl)
   |(go_at_call 21;refine (HRA.o _ N14.o).2.2.mono ?_;rintro e w15 ⟨rfl,kk⟩;have N15:=U0 (N14.o.then kk (by simp));have d0:=(HRW.o _ N15.o).2.2.1.d0;have d1:=(HRW.o _ N15.o).2.2.1.d1;have d2:=(HRW.o _ N15.o).2.2.1.d2;clear kk)
   |(go_at_call 22;refine (HRC.o _ N15.o).2.2.mono ?_;rintro e w16 ⟨rfl,kk⟩;have N16:=U0 (N15.o.then kk (by simp));clear kk))
  clear d0 d1 d2 E8 E9 E10 E11 E12 her hea hec hee hss N13 N14 J13
  obtain⟨Z,hZl,hZ, -, -⟩:=dX
  have HZ:=U0 (U2 hZ hZl)
  clear hZ hZl
  go_upto_region 15 with (first
   |(refine wpList_load_mid rfl 34 (.tmp 2) rfl b 0 rfl Y1 _ (HRW.o _ N16.o).1 underlying34 rfl (by rw[HLN.o.1];exact I5) ?_)
   |(go_at_call 23;(with_reducible refine (copyDX G1 P Y1 w16 (HIT.o.1.keep N16.o (by simp)) HIT.o.2.1).mono ?_);rintro e w17 ⟨Xw,Gw,rfl,iw,nw,kk⟩;have W17:=U0 (U2 iw (U2 nw (U2 (N16.o.then kk (by simp)) kk)));have HT17:=U0 (aB (w:=w17) (t:=34) (Z:=Z) (X:=Xw) (by rw[W17.o.1.len];exact HZ.o.2.symm));have ST17:=U0 (qC (w:=w17) (t:=34) (Z:=Z) (X:=Xw) (by rw[W17.o.1.len];exact HZ.o.2.symm));obtain⟨d21,hd21⟩:∃ d,w17.heap.size=d:=⟨_,rfl⟩;rw[hd21] at HT17 ST17;have HD21:=U0 hd21;clear iw nw kk)
   |(with_reducible refine F5 _ _ rfl 34 rfl _ HZ.o.1 rfl ?_)
   |(simp only[hd21];refine wpList_store_mid rfl 34 (.tmp 21) (.tmp 151) rfl d21 0 Xw.toArray rfl rfl HT17.o (by rw[U4,W17.o.1.len];exact I5) (all_oneCell_toArray W17.o.1.one) ?_))
  try simp only[hd21]
  obtain⟨w18,hw18⟩:∃ W,(w17.alloc (.cells Z.toArray 34)).setCells d21 0 Xw=W:=⟨_,rfl⟩
  try simp only[List.toList_toArray]
  rw[hw18] at ST17 ⊢
  have N18:=U0 (W17.o.2.2.1.then ST17.o.2 (by simp))
  clear hw18 hd21
  go_upto_region 16 with (first
   |(refine wpList_load_mid rfl 34 (.tmp 2) rfl b 0 rfl Y1 _ (HRW.o _ N18.o).1 underlying34 rfl (by rw[HLN.o.1];exact I5) ?_)
   |(go_at_call 24;(with_reducible refine (copyPX G1 P Y1 w18 (HIT.o.1.keep N18.o (by simp)) HIT.o.2.1).mono ?_);rintro e w19 ⟨Xc,Gc,rfl,iw,nw,kk⟩;have W19:=U0 (U2 iw (U2 nw (U2 (N18.o.then kk (by simp)) kk)));have HT19:=U0 (aB (w:=w19) (t:=34) (Z:=Z) (X:=Xc) (by rw[W19.o.1.len];exact HZ.o.2.symm));have ST19:=U0 (qC (w:=w19) (t:=34) (Z:=Z) (X:=Xc) (by rw[W19.o.1.len];exact HZ.o.2.symm));obtain⟨d22,hd22⟩:∃ d,w19.heap.size=d:=⟨_,rfl⟩;rw[hd22] at HT19 ST19;have HD22:=U0 hd22;clear iw nw kk)
   |(with_reducible refine F5 _ _ rfl 34 rfl _ HZ.o.1 rfl ?_)
   |(simp only[hd22];refine wpList_store_mid rfl 34 (.tmp 22) (.tmp 153) rfl d22 0 Xc.toArray rfl rfl HT19.o (by rw[U4,W19.o.1.len];exact I5) (all_oneCell_toArray W19.o.1.one) ?_))
  try simp only[hd22]
  obtain⟨w20,hw20⟩:∃ W,(w19.alloc (.cells Z.toArray 34)).setCells d22 0 Xc=W:=⟨_,rfl⟩
  try simp only[List.toList_toArray]
  rw[hw20] at ST19 ⊢
  have N20:=U0 (W19.o.2.2.1.then ST19.o.2 (by simp))
  have R21:=U0 ((W19.o.2.2.2.then ST19.o.2 (by simp)).row ST17.o.1 (by simp))
  have I21:=U0 (((W17.o.1.keep ST17.o.2 (by simp)).keep W19.o.2.2.2 (by simp)).keep ST19.o.2 (by simp))
  have I22:=U0 (W19.o.1.keep ST19.o.2 (by simp))
  have R22:V5 (∀ wx,U1 [] w20 wx→wx.rangeAt d22 0 Xc):=U0 (fun wx k=>(k.row ST19.o.1 (by simp)).rangeAll)
  have HSA:V5 (∀ wx,U1 [] w20 wx→Calls prog 13 #[.agg Xc.toArray,.agg Y1.toArray] wx fun e w'=>e= .returned (.bool true)∧U1 [] wx w'):=U0 (fun wx k=>by
   have:=oM Gc G1 P P Xc Y1 wx (I22.o.keep k (by simp)) ((HIT.o.1.keep N20.o (by simp)).keep k (by simp)) HIT.o.2.1 HIT.o.2.1
   rw[PK.same_self] at this;exact this)
  have HSB:V5 (∀ wx,U1 [] w20 wx→Calls prog 12 #[.agg Xc.toArray,.agg Y1.toArray] wx fun e w'=>e= .returned (.bool true)∧U1 [] wx w'):=U0 (fun wx k=>by
   have:=samePX Gc G1 P P Xc Y1 wx (I22.o.keep k (by simp)) ((HIT.o.1.keep N20.o (by simp)).keep k (by simp))
   rw[PK.same_self] at this;exact this)
  clear hw20 hd22
  have hXc:(prog.info? 34).map (·.size)=some Xc.length:=by rw[W19.o.1.len];exact I5
  have HXC:=U0 hXc
  clear hXc
  go_upto_region 18 with (first
   |(refine wpList_load_mid rfl 34 (.tmp 22) rfl d22 0 rfl Xc _ (R22.o _ (U1.refl [] w20)) underlying34 rfl HXC.o ?_)
   |(refine wpList_load_mid rfl 34 (.tmp 2) rfl b 0 rfl Y1 _ (HRW.o _ N20.o).1 underlying34 rfl (by rw[HLN.o.1];exact I5) ?_)
   |(go_at_call 13;(with_reducible refine (HSA.o w20 (U1.refl [] w20)).mono ?_);rintro e w21 ⟨rfl,kk⟩;have N21:=U0 kk;clear kk)
   |(refine j5 34 (.tmp 22) rfl d22 0 rfl Xc _ (R22.o _ N21.o) underlying34 rfl HXC.o ?_ ?_;·rfl)
   |(refine j5 34 (.tmp 2) rfl b 0 rfl Y1 _ (HRW.o _ (N20.o.then N21.o (by simp))).1 underlying34 rfl (by rw[HLN.o.1];exact I5) ?_ ?_;·rfl)
   |(go_at_call 12;(with_reducible refine (HSB.o w21 N21.o).mono ?_);rintro e w22 ⟨rfl,kk⟩;have N22:=U0 (N21.o.then kk (by simp));clear kk))
  have hGw:I9 w5 w22 Gc:=fun y hy=>by
   have a:=W19.o.2.1 y hy
   have c:=N18.o.size
   have d:=ST19.o.2.size
   have e:=N22.o.size
   omega
  have HGW:=U0 (U2 hGw (U2 (show ∀ y∈Gc,w18.heap.size≤y from fun y hy=>(W19.o.2.1 y hy).1) (N20.o.then N22.o (by simp))))
  clear hGw
  go_upto_region 19 with (first
   |(refine wpList_load_mid rfl 34 (.tmp 22) rfl d22 0 rfl Xc _ (R22.o _ N22.o) underlying34 rfl HXC.o ?_)
   |(go_at_call 25;(with_reducible refine (bS Gc P Xc w5 w22 (I22.o.keep N22.o (by simp)) HGW.o.2.2 HGW.o.1).mono ?_);rintro e w23 ⟨rfl,kk⟩;have K23:=U0 kk;clear kk))
  have hbn:∀ y∈Gc,w5.heap.size≤y:=fun y hy=>(HGW.o.1 y hy).1
  have hbb:b∉Gc:=fun hm=>by
   have a:=hbn b hm
   have c:=(HRW.o _ (U1.refl [] w5)).2.2.1.c0
   have d:=World.block_lt_of_cell? w5 _ c
   dsimp only at d
   omega
  have hbd:d21∉Gc:=fun hm=>by
   have a:=HGW.o.2.1 _ hm
   have c:=ST17.o.1.lt
   omega
  have R23:=U0 (K23.o.row (N22.o.row R21.o (by simp)) hbd)
  have I23:=U0 ((I21.o.keep N22.o (by simp)).keep K23.o (fun y hy hm=>by
   have a:=HGW.o.2.1 _ hm
   have c:=(W17.o.2.1 y hy).2
   have d:=ST17.o.2.size
   omega))
  have I1:=U0 ((HIT.o.1.keep HGW.o.2.2 (by simp)).keep K23.o (fun y hy hm=>by
   have a:=hbn y hm
   have c:=HIT.o.2.2.1 y hy
   omega))
  have RY:=U0 (show w23.rangeAt b 0 Y1 from rangeAt.keep (HRW.o _ HGW.o.2.2).1 K23.o hbb)
  have hk23:U1 [] w w23:=(HRW.o _ HGW.o.2.2).2.2.2.then K23.o (fun y hy=> .inr (by have a:=hbn y hy;have c:=(HRW.o _ (U1.refl [] w5)).2.2.2.size;omega))
  have HF:=U0 (U2 (HB.o.2.1.keep hk23 (by simp)) hk23)
  clear hbn hbb hbd hk23
  have hXw:(prog.info? 34).map (·.size)=some Xw.length:=by rw[W17.o.1.len];exact I5
  have HXW:=U0 hXw
  have HSE:V5 (Calls prog 13 #[.agg Y1.toArray,.agg Xw.toArray] w23 fun e w'=>e= .returned (.bool true)∧U1 [] w23 w'):=U0 (by
   have:=oM G1 Gw P P Y1 Xw w23 I1.o I23.o HIT.o.2.1 HIT.o.2.1
   rw[PK.same_self] at this;exact this)
  clear hXw
  go_wp2_with (first
   |(refine wpList_load_mid rfl 34 (.tmp 2) rfl b 0 rfl Y1 _ RY.o underlying34 rfl (by rw[HLN.o.1];exact I5) ?_)
   |(refine wpList_load_mid rfl 34 (.tmp 21) rfl d21 0 rfl Xw _ R23.o.rangeAll underlying34 rfl HXW.o ?_)
   |(go_at_call 13;(with_reducible refine HSE.o.mono ?_);rintro e w24 ⟨rfl,kk⟩;have N24:=U0 kk;clear kk)
   |(go_at_call 26;(with_reducible refine (OI w24 (HF.o.1.keep N24.o (by simp))).mono ?_);rintro e w25 ⟨rfl,kk⟩;have N25:=U0 (N24.o.then kk (by simp));clear kk))
  go_ret
  exact⟨rfl,HF.o.2.then N25.o (by simp)⟩
end Go.Proofs.YthfdkonhjpdflaaGreatDoor
