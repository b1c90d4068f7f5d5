import Derived.Test.YthfdkonhjpdflaaGreatDoorPk33
namespace Go.Proofs.YthfdkonhjpdflaaGreatDoor
open Go.RowKit Go.Proofs.Tryz
set_option linter.unusedVariables false
set_option maxRecDepth 100000
set_option linter.unusedSimpArgs false
set_option maxHeartbeats 16000000
def oL (b:Int) (m:List UInt8):List UInt8:=if b=0 then[] else m
theorem aI_oL (b:Int) (l m:List UInt8):aI b l m=l++oL b m:=by unfold aI oL;split<;>simp
theorem fF {b:Int} (m:List UInt8) (h:b=0):oL b m=[]:=by unfold oL;rw[if_pos h]
theorem su {b:Int} (m:List UInt8) (h:b≠0):oL b m=m:=by unfold oL;rw[if_neg h]
def tl9 (p:PK) (h:Int):List UInt8:=oL (aN h 256) (cb p.bytes.length++p.bytes)++[]
def tl8 (p:PK) (h:Int):List UInt8:=oL (aN h 128) (aQ 1 p.votes.length++gY p.votes)++tl9 p h
def tl7 (p:PK) (h:Int):List UInt8:=oL (aN h 64) (cb (jv p.conf).length++jv p.conf)++tl8 p h
def tl6 (p:PK) (h:Int):List UInt8:=oL (aN h 32) (cb (iH p.ans).length++iH p.ans)++tl7 p h
def tl5 (p:PK) (h:Int):List UInt8:=oL (aN h 16) (cb (iL p.req).length++iL p.req)++tl6 p h
def tl4 (p:PK) (h:Int):List UInt8:=oL (aN h 8) (aQ 1 (if p.ready then 1 else 0))++tl5 p h
def tl3 (p:PK) (h:Int):List UInt8:=oL (aN h 4) (cb p.ballot.toNat)++tl4 p h
def tl2 (p:PK) (h:Int):List UInt8:=oL (aN h 2) (cb (p.seq+1).toNat)++tl3 p h
def tl1 (p:PK) (h:Int):List UInt8:=oL (aN h 1) (cb p.num.toNat)++tl2 p h
theorem nZ (p:PK):mH p=aQ 1 p.kind.toNat++(aQ 1 p.frm.toNat++(aQ 1 p.dst.toNat++tl1 p (aL p.kind))):=by
 unfold mH wE wD q9 xE xD xC xB xA xz zy
 simp only[aI_oL,tl1,tl2,tl3,tl4,tl5,tl6,tl7,tl8,tl9,List.append_assoc,List.nil_append,List.append_nil]
theorem RQ.same_iff (c d:RQ):c.same d=true↔c=d:=by
 obtain⟨a1,a2,a3,a4,a5,a6⟩:=c
 obtain⟨b1,b2,b3,b4,b5,b6⟩:=d
 simp[RQ.same]
theorem AN.same_iff (c d:AN):c.same d=true↔c=d:=by
 obtain⟨a1,a2,a3,a4,a5,a6,a7⟩:=c
 obtain⟨b1,b2,b3,b4,b5,b6,b7⟩:=d
 simp[AN.same]
theorem PK.same_iff (c d:PK):c.same d=true↔c=d:=by
 obtain⟨a1,a2,a3,a4,a5,a6,a7,a8,a9,a10,a11,a12⟩:=c
 obtain⟨b1,b2,b3,b4,b5,b6,b7,b8,b9,b10,b11,b12⟩:=d
 simp[PK.same,RQ.same_iff,AN.same_iff,CF.same_iff,pK]
theorem PK.same_refl (p:PK):p.same p=true:=(PK.same_iff p p).2 rfl
theorem tJ (F G:List Nat) (p:PK) (ev av cv vv bw wv:Value) (w:World) (h:gX w F p ev av cv vv bw) (hw:aS w G wv (mH p)) (hfl:d9 w) (hb1:dJ p.frm) (hb2:dJ p.dst) (hok:p.ok=true) (hpb:dw (mH p)=(p,0)):
 Calls prog 92 #[.agg (bz p ev av cv vv bw).toArray,wv] w fun e w'=>e= .returned (.bool true)∧ag [] w w':=by
 have k1:=(ag.refl [] w).alloc (.cells (bz p ev av cv vv bw).toArray 34)
 have r1:=aC.new w 34 (bz p ev av cv vv bw).toArray
 obtain⟨w1,hw1⟩:∃ w1,w.alloc (.cells (bz p ev av cv vv bw).toArray 34)=w1:=⟨_,rfl⟩
 rw[hw1] at k1 r1
 have hI:(prog.info? 34).map (·.size)=some (bz p ev av cv vv bw).length:=by rw[bA h.rn h.an];exact aF
 have hpl:(mH p).length≤1000000:=by have:=(tX hok h.rn h.an).2.2.2.2.2.2.2.2.2;unfold mH;omega
 have hone:=dz h.re.one h.ae.one h.cc.one h.vs.one h.bs.one (p:=p)
 obtain⟨WA,wc,wg,rfl,_,_,hsw,_⟩:=id hw
 have HS:=aa (ah r1 (ah hI (ah k1 (ah (h.keep k1 (by simp)) (ah (hw.keep k1 (by simp)) (hfl.keep k1 (by simp)))))))
 have HP:=aa (ah hpl (ah hpb (ah hone (ah h.rn (ah h.an hsw)))))
 have HW:=aa hw1
 clear k1 r1 hw1 h hI hfl hpl hpb hone hw hsw
 go_enter func92,ntmps92
 go_upto_region 1 with (with_reducible refine aJ _ rfl 34 (.tmp 0) rfl _ rfl ?_)
 rw[HW.o]
 go_upto_region 2 with (first
  |(refine wpList_load_mid rfl 34 (.tmp 2) rfl w.heap.size 0 rfl (bz p ev av cv vv bw) _ HS.o.1.rangeAll underlying34 rfl HS.o.2.1 ?_)
  |(go_at_call 7;refine (nR F p ev av cv vv bw _ HS.o.2.2.2.1 HS.o.2.2.2.2.2 hb1 hb2 hok).mono ?_;rintro e w2 ⟨u,G2,rfl,⟨A2,c2,g2,rfl,_,_,sn2,_⟩,nw2,kk2⟩;have H2:=aa (ah sn2 kk2);clear sn2 nw2 kk2))
 have K2:=aa (HS.o.2.2.1.then H2.o.2 (by simp))
 have zv:=jh
 obtain⟨Z,hZ⟩:∃ Z,bz bO ay ay ay ay ay=Z:=⟨_,rfl⟩
 have zl:=fQ
 rw[hZ] at zv zl
 have HZ:=aa (ah zv zl)
 clear zv zl hZ
 go_upto_region 3 with (first
  |(go_at_call 28;refine (lw G (mH p) _ _ (HS.o.2.2.2.2.1.keep H2.o.2 (by simp)) HP.o.1 (HS.o.2.2.2.2.2.keep H2.o.2 (by simp))).mono ?_;rintro e w3 ⟨ev',av',cv',vv',bw',G3,rfl,hv3,_,kk3⟩;rw[HP.o.2.1] at*;have H3:=aa (ah hv3 kk3);clear hv3 kk3)
  |(with_reducible refine aD _ _ rfl 34 rfl _ HZ.o.1 rfl ?_)
  |(refine wpList_store_mid rfl 34 (.tmp 7) (.tmp 17) rfl w3.heap.size 0 (bz p ev' av' cv' vv' bw').toArray rfl rfl ((aC.new w3 34 Z.toArray).there (by simp only[az];have h1:=HZ.o.2;have h2:=bA (p:=p) (ev:=ev') (av:=av') (cv:=cv') (vv:=vv') (bw:=bw') HP.o.2.2.2.1 HP.o.2.2.2.2.1;omega)) (by rw[az,bA HP.o.2.2.2.1 HP.o.2.2.2.2.1];exact aF) (all_oneCell_toArray (dz H3.o.1.re.one H3.o.1.ae.one H3.o.1.cc.one H3.o.1.vs.one H3.o.1.bs.one)) ?_))
 have k4a:=(ag.refl [] w3).alloc (.cells Z.toArray 34)
 have hl2:=bA (p:=p) (ev:=ev') (av:=av') (cv:=cv') (vv:=vv') (bw:=bw') HP.o.2.2.2.1 HP.o.2.2.2.2.1
 have r4:=(aC.new w3 34 Z.toArray).setL (vs:=bz p ev' av' cv' vv' bw') (o:=0)
 rw[aR (by simp only[az];have h1:=HZ.o.2;omega)] at r4
 have k4:ag [] w3 ((w3.alloc (.cells Z.toArray 34)).setCells w3.heap.size 0 (bz p ev' av' cv' vv' bw')):=k4a.setL (.inr (Nat.le_refl _))
 obtain⟨w4,hw4⟩:∃ w4,(w3.alloc (.cells Z.toArray 34)).setCells w3.heap.size 0 (bz p ev' av' cv' vv' bw')=w4:=⟨_,rfl⟩
 rw[hw4] at r4 k4 ⊢
 obtain⟨tq,htq⟩:∃ t,w3.heap.size=t:=⟨_,rfl⟩
 rw[htq] at r4 ⊢
 have k24:=H3.o.2.then k4 (by simp)
 have k14:=H2.o.2.then k24 (by simp)
 have H4:=aa (ah r4 (ah (k14.row HS.o.1 (by simp)) (ah (HS.o.2.2.1.then k14 (by simp)) (ah (H2.o.1.keep k24 (by simp)) (ah (HP.o.2.2.2.2.2.keep (HS.o.2.2.1.then k14 (by simp)) (by simp)) (ah (HS.o.2.2.2.1.keep k14 (by simp)) (ah (H3.o.1.keep k4 (by simp)) (by rw[hl2];exact aF:(prog.info? 34).map (·.size)=some (bz p ev' av' cv' vv' bw').length))))))))
 have hbeq:(mH p==mH p)=true:=by simp
 clear k4a hl2 r4 k4 hw4 htq k24 k14
 go_wp2_with (first
  |(go_at_call 11;refine (gy A2 WA g2 wg c2 wc (mH p) (mH p) _ H4.o.2.2.2.1 H4.o.2.2.2.2.1).mono ?_;rintro e w9 ⟨rfl,rfl⟩;rw[hbeq])
  |(refine aB 34 (.tmp 2) rfl w.heap.size 0 rfl (bz p ev av cv vv bw) _ H4.o.2.1.rangeAll underlying34 rfl HS.o.2.1 ?_ ?_;·rfl)
  |(refine aB 34 (.tmp 7) rfl tq 0 rfl (bz p ev' av' cv' vv' bw') _ H4.o.1.rangeAll underlying34 rfl H4.o.2.2.2.2.2.2.2 ?_ ?_;·rfl)
  |(go_at_call 12;refine (jJ F G3 p p _ _ _ _ _ _ _ _ _ _ _ H4.o.2.2.2.2.2.1 H4.o.2.2.2.2.2.2.1).mono ?_;rintro e w10 ⟨rfl,k10⟩;rw[PK.same_refl];have K10:=aa k10;clear k10))
 go_ret
 exact⟨rfl,H4.o.2.2.1.then K10.o (by simp)⟩
theorem BX {P:Program} (w:World) {ops:Array Oper} {rest:List Oper} {o:Oper} {a:Act} {Q:Exit→Act→World→Prop} (t:TypeId) (parts:Array (Nat × Operand)) (ho:o.op= .build t parts) (cells:Array Value)
 (hb:P.built t (parts.map fun (i,x)=>(i,a.eval x)).toList=some cells) (hw:Region.wanted o (yielded ops a.tmps)=true) (h:wpList P ops Q rest (a.put o.dst (.agg cells)) w):wpList P ops Q (o::rest) a w:=
 iF hw fun K hK=>by
  have hK':=hK _ _ h
  unfold Oper.wp execOp
  simp only[ho,Sem.run_bind,run_build w t _ cells hb,Result.andThen_ok]
  exact hK'
theorem mR (n:Nat) (h:n<128):cb n=[UInt8.ofNat n]:=by
 unfold cb
 rw[show n/128=0 by omega,iP,show n % 128=n by omega]
 rfl
theorem AJ (n:Nat) (h1:128≤n) (h2:n<16384):cb n=[UInt8.ofNat (128+n/128),UInt8.ofNat (n % 128)]:=by
 unfold cb
 rw[lc (n/128) (by omega),show n/128/128=0 by omega,iP,show n/128 % 128=n/128 by omega]
 rfl
def rf:PK:=⟨4,11,10,3,200,0,false,aV,aY,aW,[],[]⟩
def ru:PK:=⟨5,12,11,300, -1,0,false,aV,aY,aW,[],[]⟩
def tT:PK:=⟨8,10,2,0,0,0,true,aV,aY,aW,[],[]⟩
def Dk:PK:=⟨9,0,0,1,0,0,false,aV,aY,aW,[],[]⟩
def pkE5:PK:=⟨7,0,0,0,0,0,false,aV,aY,⟨0,1,[10,10]⟩,[],[]⟩
def cfE:CF:=⟨2,1,[11,10]⟩
theorem Dh:rf.ok=true:=by kernel_rfl
theorem Di:ru.ok=true:=by kernel_rfl
theorem Dj:tT.ok=true:=by kernel_rfl
theorem Dl:Dk.ok=false:=by kernel_rfl
theorem Dm:pkE5.ok=false:=by kernel_rfl
theorem cfE_ok:cfE.ok=true:=by kernel_rfl
theorem Bn:mH rf=[4,11,10,3,129,73]:=by
 rw[nZ,show aL rf.kind=3 from rfl]
 unfold tl1 tl2 tl3 tl4 tl5 tl6 tl7 tl8 tl9
 rw[su _ (show aN 3 1≠0 by decide),su _ (show aN 3 2≠0 by decide),fF _ (show aN 3 4=0 by decide),fF _ (show aN 3 8=0 by decide),fF _ (show aN 3 16=0 by decide),fF _ (show aN 3 32=0 by decide),fF _ (show aN 3 64=0 by decide),fF _ (show aN 3 128=0 by decide),fF _ (show aN 3 256=0 by decide)]
 rw[show rf.num.toNat=3 from rfl,show (rf.seq+1).toNat=201 from rfl,mR 3 (by omega),AJ 201 (by omega) (by omega)]
 rfl
theorem Bo:mH ru=[5,12,11,130,44,0]:=by
 rw[nZ,show aL ru.kind=3 from rfl]
 unfold tl1 tl2 tl3 tl4 tl5 tl6 tl7 tl8 tl9
 rw[su _ (show aN 3 1≠0 by decide),su _ (show aN 3 2≠0 by decide),fF _ (show aN 3 4=0 by decide),fF _ (show aN 3 8=0 by decide),fF _ (show aN 3 16=0 by decide),fF _ (show aN 3 32=0 by decide),fF _ (show aN 3 64=0 by decide),fF _ (show aN 3 128=0 by decide),fF _ (show aN 3 256=0 by decide)]
 rw[show ru.num.toNat=300 from rfl,show (ru.seq+1).toNat=0 from rfl,mR 0 (by omega),AJ 300 (by omega) (by omega)]
 rfl
theorem Bp:mH tT=[8,10,2,0,1]:=by
 rw[nZ,show aL tT.kind=9 from rfl]
 unfold tl1 tl2 tl3 tl4 tl5 tl6 tl7 tl8 tl9
 rw[su _ (show aN 9 1≠0 by decide),fF _ (show aN 9 2=0 by decide),fF _ (show aN 9 4=0 by decide),su _ (show aN 9 8≠0 by decide),fF _ (show aN 9 16=0 by decide),fF _ (show aN 9 32=0 by decide),fF _ (show aN 9 64=0 by decide),fF _ (show aN 9 128=0 by decide),fF _ (show aN 9 256=0 by decide)]
 rw[show tT.num.toNat=0 from rfl,mR 0 (by omega)]
 rfl
theorem cfE_b:jv cfE=[2,1,2,11,10]:=by
 unfold jv
 rw[show cfE.num.toNat=2 from rfl,mR 2 (by omega)]
 rfl
theorem pkE1_p:dw (mH rf)=(rf,0):=by rw[Bn];kernel_rfl
theorem pkE2_p:dw (mH ru)=(ru,0):=by rw[Bo];kernel_rfl
theorem pkE3_p:dw (mH tT)=(tT,0):=by rw[Bp];kernel_rfl
theorem eqE1:(((((Tryz.zeroCells34.setIfInBounds 0 (.int .i64 4)).setIfInBounds 1 (.int .i64 11)).setIfInBounds 2 (.int .i64 10)).setIfInBounds 3 (.int .i64 3)).setIfInBounds 4 (.int .i64 200))=(bz rf ay ay ay ay ay).toArray:=by kernel_rfl
theorem eqE2:(((((Tryz.zeroCells34.setIfInBounds 0 (.int .i64 5)).setIfInBounds 1 (.int .i64 12)).setIfInBounds 2 (.int .i64 11)).setIfInBounds 3 (.int .i64 300)).setIfInBounds 4 (.int .i64 (-1)))=(bz ru ay ay ay ay ay).toArray:=by kernel_rfl
theorem eqE3:((((Tryz.zeroCells34.setIfInBounds 0 (.int .i64 8)).setIfInBounds 1 (.int .i64 10)).setIfInBounds 2 (.int .i64 2)).setIfInBounds 6 (.bool true))=(bz tT ay ay ay ay ay).toArray:=by kernel_rfl
theorem eqE4:((Tryz.zeroCells34.setIfInBounds 0 (.int .i64 9)).setIfInBounds 3 (.int .i64 1))=(bz Dk ay ay ay ay ay).toArray:=by kernel_rfl
theorem eqE5 (A:Option Addr) (n c:Nat):((((Tryz.zeroCells34.setIfInBounds 0 (.int .i64 7)).setIfInBounds 82 (.int .i64 0)).setIfInBounds 83 (.int .i64 1)).setIfInBounds 84 (.slice A n c))=(bz pkE5 ay ay (.slice A n c) ay ay).toArray:=by kernel_rfl
theorem yu (w:World) (p:PK) (hr:p.req=aV) (ha:p.ans=aY) (hc:p.conf=aW) (hv:p.votes=[]) (hb:p.bytes=[]):gX w [] p ay ay ay ay ay:=by
 obtain⟨a1,a2,a3,a4,a5,a6,a7,a8,a9,a10,a11,a12⟩:=p
 dsimp only at hr ha hc hv hb
 subst hr ha hc hv hb
 exact⟨aK,aM,aS.nil _ _,aS.nil _ _,bq.nil _ _,di.nil _ _,aS.nil _ _⟩
theorem aS.row {w:World} {g:Nat} {t:TypeId} {l:List UInt8} (h:aC w g t (l.map bv).toArray) (hm:l.length≤maxLen):aS w [g] (.slice (some ⟨g,0,none⟩) l.length l.length) l:=
 ⟨_,_,g,rfl,Nat.le_refl _,hm,fun hne=>⟨0,rfl,h.lt,fun j b hb=>by rw[h.cell];simp[hb]⟩,fun _=>by simp⟩
theorem bq.row {w:World} {g:Nat} {t:TypeId} {l:List Int} (h:aC w g t (l.map (Value.int .i64)).toArray) (hm:l.length≤maxLen):bq w [g] (.slice (some ⟨g,0,none⟩) l.length l.length) l:=
 ⟨_,_,g,rfl,Nat.le_refl _,hm,⟨by simp,fun hne=>⟨0,rfl,h.lt,fun j u hu=>by rw[h.cell];simpa using hu⟩⟩,fun _=>by simp⟩
theorem row5 (j:Nat) (b:UInt8) (hb:([2,1,2,11,10]:List UInt8)[j]? =some b):(#[Value.int .u8 2,.int .u8 1,.int .u8 2,.int .u8 11,.int .u8 10]:Array Value)[0+j]? =some (bv b):=by
 rw[Nat.zero_add]
 match j,hb with
 |0,hb=>injection hb with hb;subst hb;rfl
 |1,hb=>injection hb with hb;subst hb;rfl
 |2,hb=>injection hb with hb;subst hb;rfl
 |3,hb=>injection hb with hb;subst hb;rfl
 |4,hb=>injection hb with hb;subst hb;rfl
theorem oo (w:World) (hfl:d9 w):
 Calls prog 26 #[] w fun e w'=>e= .returned (.bool true)∧ag [] w w':=by
 have H0:=aa hfl
 clear hfl
 go_enter func26,ntmps26
 go_upto_region 1 with fail
 go_upto_region 2 with (first
  |(go_at_call 92;rw[eqE1];refine (tJ [] [w.heap.size] rf _ _ _ _ _ _ _ (yu _ rf rfl rfl rfl rfl rfl) (by rw[Bn];exact aS.row (l:=[4,11,10,3,129,73]) (aC.new w _ _) (by unfold maxLen;decide)) (H0.o.keep ((ag.refl [] w).alloc _) (by simp)) (by unfold dJ;decide) (by unfold dJ;decide) Dh pkE1_p).mono ?_;rintro e w1 ⟨rfl,k1⟩;have K1:=aa (((ag.refl [] w).alloc _).then k1 (by simp));clear k1)
  |(go_at_call 92;rw[eqE2];refine (tJ [] [w1.heap.size] ru _ _ _ _ _ _ _ (yu _ ru rfl rfl rfl rfl rfl) (by rw[Bo];exact aS.row (l:=[5,12,11,130,44,0]) (aC.new w1 _ _) (by unfold maxLen;decide)) (H0.o.keep (K1.o.then ((ag.refl [] w1).alloc _) (by simp)) (by simp)) (by unfold dJ;decide) (by unfold dJ;decide) Di pkE2_p).mono ?_;rintro e w2 ⟨rfl,k1⟩;have K2:=aa ((K1.o.then ((ag.refl [] w1).alloc _) (by simp)).then k1 (by simp));clear k1)
  |(go_at_call 92;rw[eqE3];refine (tJ [] [w2.heap.size] tT _ _ _ _ _ _ _ (yu _ tT rfl rfl rfl rfl rfl) (by rw[Bp];exact aS.row (l:=[8,10,2,0,1]) (aC.new w2 _ _) (by unfold maxLen;decide)) (H0.o.keep (K2.o.then ((ag.refl [] w2).alloc _) (by simp)) (by simp)) (by unfold dJ;decide) (by unfold dJ;decide) Dj pkE3_p).mono ?_;rintro e w3 ⟨rfl,k1⟩;have K3:=aa ((K2.o.then ((ag.refl [] w2).alloc _) (by simp)).then k1 (by simp));clear k1))
 go_upto_region 3 with (first
  |(go_at_call 18;refine (j5 [w3.heap.size] cfE _ _ (bq.row (l:=[11,10]) (aC.new w3 _ _) (by unfold maxLen;decide)) cfE_ok).mono ?_;rintro e w4 ⟨u,G4,rfl,⟨A4,c4,g4,rfl,_,_,sn4,_⟩,nw4,kk4⟩;have K4:=aa ((K3.o.then ((ag.refl [] w3).alloc _) (by simp)).then kk4 (by simp));have H4:=aa sn4;clear sn4 nw4 kk4))
 have hbe:(jv cfE==[2,1,2,11,10])=true:=by rw[cfE_b];rfl
 go_wp2_with (first
  |(go_at_call 11;refine (gy A4 (some ⟨w4.heap.size,0,none⟩) g4 w4.heap.size c4 5 (jv cfE) [2,1,2,11,10] _ (H4.o.keep ((ag.refl [] w4).alloc _) (by simp)) (fun _=>⟨0,rfl,(aC.new w4 _ _).lt,fun j b hb=>by rw[(aC.new w4 _ _).cell];exact row5 j b hb⟩)).mono ?_;rintro e w5 ⟨rfl,rfl⟩;rw[hbe])
  |(go_at_call 9;rw[eqE4];refine (gI [] Dk _ _ _ _ _ _ (yu _ Dk rfl rfl rfl rfl rfl) (H0.o.keep (K4.o.then ((ag.refl [] w4).alloc _) (by simp)) (by simp)) (by unfold dJ;decide) (by unfold dJ;decide)).mono ?_;rintro e w6 ⟨rfl,k1⟩;rw[Dl];have K6:=aa ((K4.o.then ((ag.refl [] w4).alloc _) (by simp)).then k1 (by simp));clear k1)
  |(go_at_call 9;rw[eqE5];refine (gI [w6.heap.size] pkE5 _ _ _ _ _ _ ⟨aK,aM,aS.nil _ _,aS.nil _ _,bq.row (l:=[10,10]) (aC.new w6 _ _) (by unfold maxLen;decide),di.nil _ _,aS.nil _ _⟩ (H0.o.keep (K6.o.then ((ag.refl [] w6).alloc _) (by simp)) (by simp)) (by unfold dJ;decide) (by unfold dJ;decide)).mono ?_;rintro e w7 ⟨rfl,k1⟩;rw[Dm];have K7:=aa ((K6.o.then ((ag.refl [] w6).alloc _) (by simp)).then k1 (by simp));clear k1))
 go_ret
 exact⟨rfl,K7.o⟩
end Go.Proofs.YthfdkonhjpdflaaGreatDoor
