import Derived.Test.YthfdkonhjpdflaaGreatDoorPk33
namespace Go.Proofs.YthfdkonhjpdflaaGreatDoor
open Go.RowKit Go.Proofs.Tryz
set_option linter.unusedVariables false
set_option maxRecDepth 100000
set_option linter.unusedSimpArgs false
set_option maxHeartbeats 16000000
def oL (b:Int) (m:List UInt8):List UInt8:=if b=0 then[] else m
theorem aI_oL (b:Int) (l m:List UInt8):aI b l m=l++oL b m:=by unfold aI oL;split<;>simp
theorem yC {b:Int} (m:List UInt8) (h:b=0):oL b m=[]:=by unfold oL;rw[if_pos h]
theorem qL {b:Int} (m:List UInt8) (h:b≠0):oL b m=m:=by unfold oL;rw[if_neg h]
def tl9 (p:PK) (h:Int):List UInt8:=oL (U6 h 256) (cb p.bytes.length++p.bytes)++[]
def tl8 (p:PK) (h:Int):List UInt8:=oL (U6 h 128) (l7 1 p.votes.length++xD p.votes)++tl9 p h
def tl7 (p:PK) (h:Int):List UInt8:=oL (U6 h 64) (cb (WE p.conf).length++WE p.conf)++tl8 p h
def tl6 (p:PK) (h:Int):List UInt8:=oL (U6 h 32) (cb (UD p.ans).length++UD p.ans)++tl7 p h
def tl5 (p:PK) (h:Int):List UInt8:=oL (U6 h 16) (cb (dE p.req).length++dE p.req)++tl6 p h
def tl4 (p:PK) (h:Int):List UInt8:=oL (U6 h 8) (l7 1 (if p.ready then 1 else 0))++tl5 p h
def tl3 (p:PK) (h:Int):List UInt8:=oL (U6 h 4) (cb p.ballot.toNat)++tl4 p h
def tl2 (p:PK) (h:Int):List UInt8:=oL (U6 h 2) (cb (p.seq+1).toNat)++tl3 p h
def tl1 (p:PK) (h:Int):List UInt8:=oL (U6 h 1) (cb p.num.toNat)++tl2 p h
theorem GI (p:PK):wH p=l7 1 p.kind.toNat++(l7 1 p.frm.toNat++(l7 1 p.dst.toNat++tl1 p (l6 p.kind))):=by
 unfold wH xO wO EK CP BP yP xP vP rP xR
 simp only[aI_oL,tl1,tl2,tl3,tl4,tl5,tl6,tl7,tl8,tl9,List.append_assoc,List.nil_append,List.append_nil]
theorem RQ.same_iff (c d:RQ):c.same d=true↔c=d:=by
 obtain⟨a1,a2,a3,a4,a5,a6⟩:=c
 obtain⟨b1,b2,b3,b4,b5,b6⟩:=d
 simp[RQ.same]
theorem AN.same_iff (c d:AN):c.same d=true↔c=d:=by
 obtain⟨a1,a2,a3,a4,a5,a6,a7⟩:=c
 obtain⟨b1,b2,b3,b4,b5,b6,b7⟩:=d
 simp[AN.same]
theorem PK.same_iff (c d:PK):c.same d=true↔c=d:=by
 obtain⟨a1,a2,a3,a4,a5,a6,a7,a8,a9,a10,a11,a12⟩:=c
 obtain⟨b1,b2,b3,b4,b5,b6,b7,b8,b9,b10,b11,b12⟩:=d
 simp[PK.same,RQ.same_iff,AN.same_iff,CF.same_iff,vJ]
theorem PK.same_refl (p:PK):p.same p=true:=(PK.same_iff p p).2 rfl
theorem dM (F G:List Nat) (p:PK) (ev av cv vv bw wv:Value) (w:World) (h:wD w F p ev av cv vv bw) (hw:G7 w G wv (wH p)) (hfl:zB w) (hb1:OA p.frm) (hb2:OA p.dst) (hok:p.ok=true) (hpb:AA (wH p)=(p,0)):
 Calls prog 92 #[.agg (q8 p ev av cv vv bw).toArray,wv] w fun e w'=>e= .returned (.bool true)∧U1 [] w w':=by
 have k1:=(U1.refl [] w).alloc (.cells (q8 p ev av cv vv bw).toArray 34)
 have r1:=l5.new w 34 (q8 p ev av cv vv bw).toArray
 obtain⟨w1,hw1⟩:∃ w1,w.alloc (.cells (q8 p ev av cv vv bw).toArray 34)=w1:=⟨_,rfl⟩
 rw[hw1] at k1 r1
 have hI:(prog.info? 34).map (·.size)=some (q8 p ev av cv vv bw).length:=by rw[G8 h.rn h.an];exact I5
 have hpl:(wH p).length≤1000000:=by have:=(nM hok h.rn h.an).2.2.2.2.2.2.2.2.2;unfold wH;omega
 have hone:=yA h.re.one h.ae.one h.cc.one h.vs.one h.bs.one (p:=p)
 obtain⟨WA,wc,wg,rfl,_,_,hsw,_⟩:=id hw
 have HS:=U0 (U2 r1 (U2 hI (U2 k1 (U2 (h.keep k1 (by simp)) (U2 (hw.keep k1 (by simp)) (hfl.keep k1 (by simp)))))))
 have HP:=U0 (U2 hpl (U2 hpb (U2 hone (U2 h.rn (U2 h.an hsw)))))
 have HW:=U0 hw1
 clear k1 r1 hw1 h hI hfl hpl hpb hone hw hsw
 go_enter func92,ntmps92
 go_upto_region 1 with (with_reducible refine Z5 _ rfl 34 (.tmp 0) rfl _ rfl ?_)
 rw[HW.o]
 go_upto_region 2 with (first
  |(refine wpList_load_mid rfl 34 (.tmp 2) rfl w.heap.size 0 rfl (q8 p ev av cv vv bw) _ HS.o.1.rangeAll underlying34 rfl HS.o.2.1 ?_)
  |(go_at_call 7;refine (wI F p ev av cv vv bw _ HS.o.2.2.2.1 HS.o.2.2.2.2.2 hb1 hb2 hok).mono ?_;rintro e w2 ⟨u,G2,rfl,⟨A2,c2,g2,rfl,_,_,sn2,_⟩,nw2,kk2⟩;have H2:=U0 (U2 sn2 kk2);clear sn2 nw2 kk2))
 have K2:=U0 (HS.o.2.2.1.then H2.o.2 (by simp))
 have zv:=KE
 obtain⟨Z,hZ⟩:∃ Z,q8 G9 I4 I4 I4 I4 I4=Z:=⟨_,rfl⟩
 have zl:=IC
 rw[hZ] at zv zl
 have HZ:=U0 (U2 zv zl)
 clear zv zl hZ
 go_upto_region 3 with (first
  |(go_at_call 28;refine (GG G (wH p) _ _ (HS.o.2.2.2.2.1.keep H2.o.2 (by simp)) HP.o.1 (HS.o.2.2.2.2.2.keep H2.o.2 (by simp))).mono ?_;rintro e w3 ⟨ev',av',cv',vv',bw',G3,rfl,hv3,_,kk3⟩;rw[HP.o.2.1] at*;have H3:=U0 (U2 hv3 kk3);clear hv3 kk3)
  |(with_reducible refine F5 _ _ rfl 34 rfl _ HZ.o.1 rfl ?_)
  |(refine wpList_store_mid rfl 34 (.tmp 7) (.tmp 17) rfl w3.heap.size 0 (q8 p ev' av' cv' vv' bw').toArray rfl rfl ((l5.new w3 34 Z.toArray).there (by simp only[U4];have h1:=HZ.o.2;have h2:=G8 (p:=p) (ev:=ev') (av:=av') (cv:=cv') (vv:=vv') (bw:=bw') HP.o.2.2.2.1 HP.o.2.2.2.2.1;omega)) (by rw[U4,G8 HP.o.2.2.2.1 HP.o.2.2.2.2.1];exact I5) (all_oneCell_toArray (yA H3.o.1.re.one H3.o.1.ae.one H3.o.1.cc.one H3.o.1.vs.one H3.o.1.bs.one)) ?_))
 have k4a:=(U1.refl [] w3).alloc (.cells Z.toArray 34)
 have hl2:=G8 (p:=p) (ev:=ev') (av:=av') (cv:=cv') (vv:=vv') (bw:=bw') HP.o.2.2.2.1 HP.o.2.2.2.2.1
 have r4:=(l5.new w3 34 Z.toArray).setL (vs:=q8 p ev' av' cv' vv' bw') (o:=0)
 rw[F7 (by simp only[U4];have h1:=HZ.o.2;omega)] at r4
 have k4:U1 [] w3 ((w3.alloc (.cells Z.toArray 34)).setCells w3.heap.size 0 (q8 p ev' av' cv' vv' bw')):=k4a.setL (.inr (Nat.le_refl _))
 obtain⟨w4,hw4⟩:∃ w4,(w3.alloc (.cells Z.toArray 34)).setCells w3.heap.size 0 (q8 p ev' av' cv' vv' bw')=w4:=⟨_,rfl⟩
 rw[hw4] at r4 k4 ⊢
 obtain⟨tq,htq⟩:∃ t,w3.heap.size=t:=⟨_,rfl⟩
 rw[htq] at r4 ⊢
 have k24:=H3.o.2.then k4 (by simp)
 have k14:=H2.o.2.then k24 (by simp)
 have H4:=U0 (U2 r4 (U2 (k14.row HS.o.1 (by simp)) (U2 (HS.o.2.2.1.then k14 (by simp)) (U2 (H2.o.1.keep k24 (by simp)) (U2 (HP.o.2.2.2.2.2.keep (HS.o.2.2.1.then k14 (by simp)) (by simp)) (U2 (HS.o.2.2.2.1.keep k14 (by simp)) (U2 (H3.o.1.keep k4 (by simp)) (by rw[hl2];exact I5:(prog.info? 34).map (·.size)=some (q8 p ev' av' cv' vv' bw').length))))))))
 have hbeq:(wH p==wH p)=true:=by simp
 clear k4a hl2 r4 k4 hw4 htq k24 k14
 go_wp2_with (first
  |(go_at_call 11;refine (YC A2 WA g2 wg c2 wc (wH p) (wH p) _ H4.o.2.2.2.1 H4.o.2.2.2.2.1).mono ?_;rintro e w9 ⟨rfl,rfl⟩;rw[hbeq])
  |(refine j5 34 (.tmp 2) rfl w.heap.size 0 rfl (q8 p ev av cv vv bw) _ H4.o.2.1.rangeAll underlying34 rfl HS.o.2.1 ?_ ?_;·rfl)
  |(refine j5 34 (.tmp 7) rfl tq 0 rfl (q8 p ev' av' cv' vv' bw') _ H4.o.1.rangeAll underlying34 rfl H4.o.2.2.2.2.2.2.2 ?_ ?_;·rfl)
  |(go_at_call 12;refine (pF F G3 p p _ _ _ _ _ _ _ _ _ _ _ H4.o.2.2.2.2.2.1 H4.o.2.2.2.2.2.2.1).mono ?_;rintro e w10 ⟨rfl,k10⟩;rw[PK.same_refl];have K10:=U0 k10;clear k10))
 go_ret
 exact⟨rfl,H4.o.2.2.1.then K10.o (by simp)⟩
theorem RU {P:Program} (w:World) {ops:Array Oper} {rest:List Oper} {o:Oper} {a:Act} {Q:Exit→Act→World→Prop} (t:TypeId) (parts:Array (Nat × Operand)) (ho:o.op= .build t parts) (cells:Array Value)
 (hb:P.built t (parts.map fun (i,x)=>(i,a.eval x)).toList=some cells) (hw:Region.wanted o (yielded ops a.tmps)=true) (h:wpList P ops Q rest (a.put o.dst (.agg cells)) w):wpList P ops Q (o::rest) a w:=
 RD hw fun K hK=>by
  have hK':=hK _ _ h
  unfold Oper.wp execOp
  simp only[ho,Sem.run_bind,run_build w t _ cells hb,Result.andThen_ok]
  exact hK'
theorem JH (n:Nat) (h:n<128):cb n=[UInt8.ofNat n]:=by
 unfold cb
 rw[show n/128=0 by omega,kE,show n % 128=n by omega]
 rfl
theorem ET (n:Nat) (h1:128≤n) (h2:n<16384):cb n=[UInt8.ofNat (128+n/128),UInt8.ofNat (n % 128)]:=by
 unfold cb
 rw[wG (n/128) (by omega),show n/128/128=0 by omega,kE,show n/128 % 128=n/128 by omega]
 rfl
def FK:PK:=⟨4,11,10,3,200,0,false,I7,l8,V7,[],[]⟩
def GK:PK:=⟨5,12,11,300, -1,0,false,I7,l8,V7,[],[]⟩
def kM:PK:=⟨8,10,2,0,0,0,true,I7,l8,V7,[],[]⟩
def jW:PK:=⟨9,0,0,1,0,0,false,I7,l8,V7,[],[]⟩
def pkE5:PK:=⟨7,0,0,0,0,0,false,I7,l8,⟨0,1,[10,10]⟩,[],[]⟩
def cfE:CF:=⟨2,1,[11,10]⟩
theorem dW:FK.ok=true:=by kernel_rfl
theorem gW:GK.ok=true:=by kernel_rfl
theorem iW:kM.ok=true:=by kernel_rfl
theorem mW:jW.ok=false:=by kernel_rfl
theorem nW:pkE5.ok=false:=by kernel_rfl
theorem cfE_ok:cfE.ok=true:=by kernel_rfl
theorem lU:wH FK=[4,11,10,3,129,73]:=by
 rw[GI,show l6 FK.kind=3 from rfl]
 unfold tl1 tl2 tl3 tl4 tl5 tl6 tl7 tl8 tl9
 rw[qL _ (show U6 3 1≠0 by decide),qL _ (show U6 3 2≠0 by decide),yC _ (show U6 3 4=0 by decide),yC _ (show U6 3 8=0 by decide),yC _ (show U6 3 16=0 by decide),yC _ (show U6 3 32=0 by decide),yC _ (show U6 3 64=0 by decide),yC _ (show U6 3 128=0 by decide),yC _ (show U6 3 256=0 by decide)]
 rw[show FK.num.toNat=3 from rfl,show (FK.seq+1).toNat=201 from rfl,JH 3 (by omega),ET 201 (by omega) (by omega)]
 rfl
theorem mU:wH GK=[5,12,11,130,44,0]:=by
 rw[GI,show l6 GK.kind=3 from rfl]
 unfold tl1 tl2 tl3 tl4 tl5 tl6 tl7 tl8 tl9
 rw[qL _ (show U6 3 1≠0 by decide),qL _ (show U6 3 2≠0 by decide),yC _ (show U6 3 4=0 by decide),yC _ (show U6 3 8=0 by decide),yC _ (show U6 3 16=0 by decide),yC _ (show U6 3 32=0 by decide),yC _ (show U6 3 64=0 by decide),yC _ (show U6 3 128=0 by decide),yC _ (show U6 3 256=0 by decide)]
 rw[show GK.num.toNat=300 from rfl,show (GK.seq+1).toNat=0 from rfl,JH 0 (by omega),ET 300 (by omega) (by omega)]
 rfl
theorem nU:wH kM=[8,10,2,0,1]:=by
 rw[GI,show l6 kM.kind=9 from rfl]
 unfold tl1 tl2 tl3 tl4 tl5 tl6 tl7 tl8 tl9
 rw[qL _ (show U6 9 1≠0 by decide),yC _ (show U6 9 2=0 by decide),yC _ (show U6 9 4=0 by decide),qL _ (show U6 9 8≠0 by decide),yC _ (show U6 9 16=0 by decide),yC _ (show U6 9 32=0 by decide),yC _ (show U6 9 64=0 by decide),yC _ (show U6 9 128=0 by decide),yC _ (show U6 9 256=0 by decide)]
 rw[show kM.num.toNat=0 from rfl,JH 0 (by omega)]
 rfl
theorem cfE_b:WE cfE=[2,1,2,11,10]:=by
 unfold WE
 rw[show cfE.num.toNat=2 from rfl,JH 2 (by omega)]
 rfl
theorem pkE1_p:AA (wH FK)=(FK,0):=by rw[lU];kernel_rfl
theorem pkE2_p:AA (wH GK)=(GK,0):=by rw[mU];kernel_rfl
theorem pkE3_p:AA (wH kM)=(kM,0):=by rw[nU];kernel_rfl
theorem eqE1:(((((Tryz.zeroCells34.setIfInBounds 0 (.int .i64 4)).setIfInBounds 1 (.int .i64 11)).setIfInBounds 2 (.int .i64 10)).setIfInBounds 3 (.int .i64 3)).setIfInBounds 4 (.int .i64 200))=(q8 FK I4 I4 I4 I4 I4).toArray:=by kernel_rfl
theorem eqE2:(((((Tryz.zeroCells34.setIfInBounds 0 (.int .i64 5)).setIfInBounds 1 (.int .i64 12)).setIfInBounds 2 (.int .i64 11)).setIfInBounds 3 (.int .i64 300)).setIfInBounds 4 (.int .i64 (-1)))=(q8 GK I4 I4 I4 I4 I4).toArray:=by kernel_rfl
theorem eqE3:((((Tryz.zeroCells34.setIfInBounds 0 (.int .i64 8)).setIfInBounds 1 (.int .i64 10)).setIfInBounds 2 (.int .i64 2)).setIfInBounds 6 (.bool true))=(q8 kM I4 I4 I4 I4 I4).toArray:=by kernel_rfl
theorem eqE4:((Tryz.zeroCells34.setIfInBounds 0 (.int .i64 9)).setIfInBounds 3 (.int .i64 1))=(q8 jW I4 I4 I4 I4 I4).toArray:=by kernel_rfl
theorem eqE5 (A:Option Addr) (n c:Nat):((((Tryz.zeroCells34.setIfInBounds 0 (.int .i64 7)).setIfInBounds 82 (.int .i64 0)).setIfInBounds 83 (.int .i64 1)).setIfInBounds 84 (.slice A n c))=(q8 pkE5 I4 I4 (.slice A n c) I4 I4).toArray:=by kernel_rfl
theorem tQ (w:World) (p:PK) (hr:p.req=I7) (ha:p.ans=l8) (hc:p.conf=V7) (hv:p.votes=[]) (hb:p.bytes=[]):wD w [] p I4 I4 I4 I4 I4:=by
 obtain⟨a1,a2,a3,a4,a5,a6,a7,a8,a9,a10,a11,a12⟩:=p
 dsimp only at hr ha hc hv hb
 subst hr ha hc hv hb
 exact⟨j6,F6,G7.nil _ _,G7.nil _ _,F8.nil _ _,xA.nil _ _,G7.nil _ _⟩
theorem G7.row {w:World} {g:Nat} {t:TypeId} {l:List UInt8} (h:l5 w g t (l.map bv).toArray) (hm:l.length≤maxLen):G7 w [g] (.slice (some ⟨g,0,none⟩) l.length l.length) l:=
 ⟨_,_,g,rfl,Nat.le_refl _,hm,fun hne=>⟨0,rfl,h.lt,fun j b hb=>by rw[h.cell];simp[hb]⟩,fun _=>by simp⟩
theorem F8.row {w:World} {g:Nat} {t:TypeId} {l:List Int} (h:l5 w g t (l.map (Value.int .i64)).toArray) (hm:l.length≤maxLen):F8 w [g] (.slice (some ⟨g,0,none⟩) l.length l.length) l:=
 ⟨_,_,g,rfl,Nat.le_refl _,hm,⟨by simp,fun hne=>⟨0,rfl,h.lt,fun j u hu=>by rw[h.cell];simpa using hu⟩⟩,fun _=>by simp⟩
theorem row5 (j:Nat) (b:UInt8) (hb:([2,1,2,11,10]:List UInt8)[j]? =some b):(#[Value.int .u8 2,.int .u8 1,.int .u8 2,.int .u8 11,.int .u8 10]:Array Value)[0+j]? =some (bv b):=by
 rw[Nat.zero_add]
 match j,hb with
 |0,hb=>injection hb with hb;subst hb;rfl
 |1,hb=>injection hb with hb;subst hb;rfl
 |2,hb=>injection hb with hb;subst hb;rfl
 |3,hb=>injection hb with hb;subst hb;rfl
 |4,hb=>injection hb with hb;subst hb;rfl
theorem OI (w:World) (hfl:zB w):
 Calls prog 26 #[] w fun e w'=>e= .returned (.bool true)∧U1 [] w w':=by
 have H0:=U0 hfl
 clear hfl
 go_enter func26,ntmps26
 go_upto_region 1 with fail
 go_upto_region 2 with (first
  |(go_at_call 92;rw[eqE1];refine (dM [] [w.heap.size] FK _ _ _ _ _ _ _ (tQ _ FK rfl rfl rfl rfl rfl) (by rw[lU];exact G7.row (l:=[4,11,10,3,129,73]) (l5.new w _ _) (by unfold maxLen;decide)) (H0.o.keep ((U1.refl [] w).alloc _) (by simp)) (by unfold OA;decide) (by unfold OA;decide) dW pkE1_p).mono ?_;rintro e w1 ⟨rfl,k1⟩;have K1:=U0 (((U1.refl [] w).alloc _).then k1 (by simp));clear k1)
  |(go_at_call 92;rw[eqE2];refine (dM [] [w1.heap.size] GK _ _ _ _ _ _ _ (tQ _ GK rfl rfl rfl rfl rfl) (by rw[mU];exact G7.row (l:=[5,12,11,130,44,0]) (l5.new w1 _ _) (by unfold maxLen;decide)) (H0.o.keep (K1.o.then ((U1.refl [] w1).alloc _) (by simp)) (by simp)) (by unfold OA;decide) (by unfold OA;decide) gW pkE2_p).mono ?_;rintro e w2 ⟨rfl,k1⟩;have K2:=U0 ((K1.o.then ((U1.refl [] w1).alloc _) (by simp)).then k1 (by simp));clear k1)
  |(go_at_call 92;rw[eqE3];refine (dM [] [w2.heap.size] kM _ _ _ _ _ _ _ (tQ _ kM rfl rfl rfl rfl rfl) (by rw[nU];exact G7.row (l:=[8,10,2,0,1]) (l5.new w2 _ _) (by unfold maxLen;decide)) (H0.o.keep (K2.o.then ((U1.refl [] w2).alloc _) (by simp)) (by simp)) (by unfold OA;decide) (by unfold OA;decide) iW pkE3_p).mono ?_;rintro e w3 ⟨rfl,k1⟩;have K3:=U0 ((K2.o.then ((U1.refl [] w2).alloc _) (by simp)).then k1 (by simp));clear k1))
 go_upto_region 3 with (first
  |(go_at_call 18;refine (RF [w3.heap.size] cfE _ _ (F8.row (l:=[11,10]) (l5.new w3 _ _) (by unfold maxLen;decide)) cfE_ok).mono ?_;rintro e w4 ⟨u,G4,rfl,⟨A4,c4,g4,rfl,_,_,sn4,_⟩,nw4,kk4⟩;have K4:=U0 ((K3.o.then ((U1.refl [] w3).alloc _) (by simp)).then kk4 (by simp));have H4:=U0 sn4;clear sn4 nw4 kk4))
 have hbe:(WE cfE==[2,1,2,11,10])=true:=by rw[cfE_b];rfl
 go_wp2_with (first
  |(go_at_call 11;refine (YC A4 (some ⟨w4.heap.size,0,none⟩) g4 w4.heap.size c4 5 (WE cfE) [2,1,2,11,10] _ (H4.o.keep ((U1.refl [] w4).alloc _) (by simp)) (fun _=>⟨0,rfl,(l5.new w4 _ _).lt,fun j b hb=>by rw[(l5.new w4 _ _).cell];exact row5 j b hb⟩)).mono ?_;rintro e w5 ⟨rfl,rfl⟩;rw[hbe])
  |(go_at_call 9;rw[eqE4];refine (gD [] jW _ _ _ _ _ _ (tQ _ jW rfl rfl rfl rfl rfl) (H0.o.keep (K4.o.then ((U1.refl [] w4).alloc _) (by simp)) (by simp)) (by unfold OA;decide) (by unfold OA;decide)).mono ?_;rintro e w6 ⟨rfl,k1⟩;rw[mW];have K6:=U0 ((K4.o.then ((U1.refl [] w4).alloc _) (by simp)).then k1 (by simp));clear k1)
  |(go_at_call 9;rw[eqE5];refine (gD [w6.heap.size] pkE5 _ _ _ _ _ _ ⟨j6,F6,G7.nil _ _,G7.nil _ _,F8.row (l:=[10,10]) (l5.new w6 _ _) (by unfold maxLen;decide),xA.nil _ _,G7.nil _ _⟩ (H0.o.keep (K6.o.then ((U1.refl [] w6).alloc _) (by simp)) (by simp)) (by unfold OA;decide) (by unfold OA;decide)).mono ?_;rintro e w7 ⟨rfl,k1⟩;rw[nW];have K7:=U0 ((K6.o.then ((U1.refl [] w6).alloc _) (by simp)).then k1 (by simp));clear k1))
 go_ret
 exact⟨rfl,K7.o⟩
end Go.Proofs.YthfdkonhjpdflaaGreatDoor
