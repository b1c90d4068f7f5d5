import Derived.Test.YthfdkonhjpdflaaGreatDoorGRC
import Derived.Test.YthfdkonhjpdflaaGreatDoorNK
import Derived.Test.YthfdkonhjpdflaaGreatDoorRCA
namespace Go.Proofs.YthfdkonhjpdflaaGreatDoor
open Go.RowKit Go.Proofs.Tryz
set_option linter.unusedVariables false
set_option maxRecDepth 100000
set_option linter.unusedSimpArgs false
set_option maxHeartbeats 16000000
def vE (S:SF) (p g:Nat) (w:World) (e:Ending) (w':World):Prop:=∃ X,e= .returned (.tuple #[.agg (X:List Value).toArray,.int .i64 (R8 S.2.2 S.2.1.e)])∧X.length=87∧(∀ u∈X,u.oneCell'=true)∧(R8 S.2.2 S.2.1.e=0→∃ G,iB w' G (S.1,X)∧I9 w w' G∧YA w' p g S.2.1)∧U1 [p] w w'
structure oH (w0 w:World) (p g rb:Nat) (r:RS) (X Z:List Value):Prop where
 rd:YA w p g r
 lo:p<w0.heap.size
 gl:r.l≠[]→g<w0.heap.size
 hi:w0.heap.size<rb
 row:l5 w w0.heap.size 34 X.toArray
 res:l5 w rb 34 Z.toArray
 kp:U1 [p] w0 w
theorem oH.begin {w:World} {p g:Nat} {r:RS} {X Z:List Value} (hr:YA w p g r) {w1 w2:World} {rb:Nat} (h1:w.alloc (.cells X.toArray 34)=w1) (h2:w1.alloc (.cells Z.toArray 34)=w2) (h3:w1.heap.size=rb):oH w w2 p g rb r X Z:=by
 have k1:=(U1.refl [] w).alloc (.cells X.toArray 34)
 have r1:=l5.new w 34 X.toArray
 rw[h1] at k1 r1
 have k2:=(U1.refl [] w1).alloc (.cells Z.toArray 34)
 have r2:=l5.new w1 34 Z.toArray
 rw[h2] at k2 r2
 rw[h3] at r2
 exact⟨(hr.keep k1 (by simp) (by simp)).keep k2 (by simp) (by simp),hr.lt,fun hne=>hr.gl hne,by have:=r1.lt;omega,k2.row r1 (by simp),r2,(k1.then k2 (by simp)).more (by simp)⟩
theorem oH.over {w0 w w':World} {p g rb:Nat} {r:RS} {X Z:List Value} (h:oH w0 w p g rb r X Z) (hk:U1 [] w w'):oH w0 w' p g rb r X Z:=
 ⟨h.rd.keep hk (by simp) (by simp),h.lo,h.gl,h.hi,hk.row h.row (by simp),hk.row h.res (by simp),h.kp.then hk (by simp)⟩
theorem oH.read {w0 w w':World} {p g rb:Nat} {r r':RS} {X Z:List Value} (h:oH w0 w p g rb r X Z) (hr:YA w' p g r') (hk:U1 [p] w w') (hl:r'.l≠[]→r.l≠[]):oH w0 w' p g rb r' X Z:=
 ⟨hr,h.lo,fun hne=>h.gl (hl hne),h.hi,hk.row h.row (by have:=h.lo;simp;omega),hk.row h.res (by have:=h.lo;have:=h.hi;simp;omega),h.kp.then hk (fun x hx=> .inl hx)⟩
theorem oH.far {w0 w w':World} {p g rb:Nat} {r:RS} {X Z:List Value} {S:List Nat} (h:oH w0 w p g rb r X Z) (hk:U1 S w w') (hS:∀ x∈S,rb<x):oH w0 w' p g rb r X Z:=
 ⟨h.rd.keep hk (fun hm=>by have:=hS _ hm;have:=h.lo;have:=h.hi;omega) (fun hne hm=>by have:=hS _ hm;have:=h.gl hne;have:=h.hi;omega),h.lo,h.gl,h.hi,hk.row h.row (fun hm=>by have:=hS _ hm;have:=h.hi;omega),hk.row h.res (fun hm=>by have:=hS _ hm;omega),h.kp.then hk (fun x hx=> .inr (by have:=hS x hx;have:=h.hi;omega))⟩
theorem oH.put {w0 w w':World} {p g rb:Nat} {r:RS} {X X' Z:List Value} (h:oH w0 w p g rb r X Z) (hk:U1 [w0.heap.size] w w') (hrow:l5 w' w0.heap.size 34 X'.toArray):oH w0 w' p g rb r X' Z:=
 ⟨h.rd.keep hk (by have:=h.lo;simp;omega) (fun hne=>by have:=h.gl hne;simp;omega),h.lo,h.gl,h.hi,hrow,hk.row h.res (by have:=h.hi;simp;omega),h.kp.then hk (fun x hx=> .inr (by simp at hx;omega))⟩
theorem oH.setL {w0 w:World} {p g rb:Nat} {r:RS} {X X' Z:List Value} (h:oH w0 w p g rb r X Z) (k:Nat) (us:List Value) (he:KA X.toArray k us=X'.toArray):oH w0 (w.setCells w0.heap.size k us) p g rb r X' Z:=
 h.put ((U1.refl [w0.heap.size] w).setL (.inl (by simp))) (by rw[←he];exact h.row.setL)
theorem oH.set {w0 w:World} {p g rb:Nat} {r:RS} {X X' Z:List Value} (h:oH w0 w p g rb r X Z) (k:Nat) (u:Value) (he:X.toArray.setIfInBounds k u=X'.toArray):oH w0 (w.setCell ⟨w0.heap.size,k,none⟩ u) p g rb r X' Z:=
 h.put ((U1.refl [w0.heap.size] w).setCell ⟨w0.heap.size,k,none⟩ u (.inl (by simp))) (by rw[←he];exact h.row.set k u)
theorem oH.at {w0 w:World} {p g rb:Nat} {r:RS} {X Z:List Value} (h:oH w0 w p g rb r X Z) {k:Nat} {v:Value} (hv:X.toArray[k]? =some v):w.cell? ⟨w0.heap.size,k,none⟩=some v:=(h.row.cell k).trans hv
theorem QF {w0 W:World} {p g rb:Nat} {r':RS} {X Z:List Value} {S:SF} {E:Int} (h:oH w0 W p g rb r' X Z) (hl:X.length=87) (ho:∀ u∈X,u.oneCell'=true) (hE:R8 S.2.2 S.2.1.e=E) (hv:E=0→S.2.1=r'∧∃ G,iB W G (S.1,X)∧I9 w0 W G∧∀ y∈G,y≠rb):vE S p g w0 (.returned (.tuple #[.agg X.toArray,.int .i64 E])) (W.setCells rb 0 X):=by
 have ks:U1 [rb] W (W.setCells rb 0 X):=(U1.refl [rb] W).setL (.inl (by simp))
 have hi:=h.hi
 have lo:=h.lo
 refine⟨X,by rw[hE],hl,ho,fun e0=> ?_,h.kp.setL (.inr (Nat.le_of_lt hi))⟩
 rw[hE] at e0
 obtain⟨e1,G,i1,n1,a1⟩:=hv e0
 refine⟨G,i1.keep ks (fun y hy=>by have:=a1 y hy;simp;omega),fun y hy=>⟨(n1 y hy).1,Nat.lt_of_lt_of_le (n1 y hy).2 ks.size⟩,?_⟩
 rw[e1]
 exact h.rd.keep ks (by simp;omega) (fun hne=>by have:=h.gl hne;simp;omega)
theorem nD {wx:World} {rb:Nat} {X Z:List Value} (hx:X.length=87) (hz:Z.length=87) (hh:l5 wx rb 34 Z.toArray):l5 (wx.setCells rb 0 X) rb 34 X.toArray:=by
 have:=hh.setL (vs:=X) (o:=0)
 rw[F7 (by rw[U4,hz,hx])] at this
 exact this
theorem bodyRq (p g:Nat) (q:PK) (r:RS) (w:World) (hk:q.kind=1∨q.kind=3) (hv:∀ wx F,wD wx F q I4 I4 I4 I4 I4) (hr:YA w p g r) (hb:r.l.length≤1000000):
 Calls prog 100 #[.pointer (some ⟨p,0,none⟩),.agg (q8 q I4 I4 I4 I4 I4).toArray] w (vE (OE (l6 q.kind) (q,r,0)) p g w):=by
 obtain⟨k0,hk0⟩:∃ k,q.kind=k:=⟨_,rfl⟩
 obtain⟨S,hS⟩:∃ s,OE (l6 q.kind) (q,r,0)=s:=⟨_,rfl⟩
 obtain⟨X0,hX0⟩:∃ X,q8 q I4 I4 I4 I4 I4=X:=⟨_,rfl⟩
 have xl:X0.length=87:=by rw[←hX0];exact G8 (hv w []).rn (hv w []).an
 have xo:∀ u∈X0,u.oneCell'=true:=by rw[←hX0];exact yA rfl rfl rfl rfl rfl
 have xk:X0.toArray[0]? =some (.int .i64 k0):=by rw[←hX0,←hk0];rfl
 obtain⟨Z,hZ⟩:∃ Z,q8 G9 I4 I4 I4 I4 I4=Z:=⟨_,rfl⟩
 have zv:=KE
 have zl:=IC
 rw[hZ] at zv zl
 obtain⟨t,r1,h1⟩:∃ t r1,r.text 2048=(t,r1):=⟨_,_,rfl⟩
 have s1:(r1.l≠[]→r.l≠[])∧t.length≤r.l.length:=by rw[show r1=(r.text 2048).2 by rw[h1],show t=(r.text 2048).1 by rw[h1]];exact⟨cB,tF _ _⟩
 have HG:V5 (r1.e=0→S=({q with req:=(JA t).1},r1,(JA t).2)∧R8 S.2.2 S.2.1.e=(JA t).2):=U0 (fun he=>by
  have e1:S=({q with req:=(JA t).1},r1,(JA t).2):=by rw[←hS,TS hk];show (({q with req:=(sD r 0).1}:PK),(sD r 0).2.1,(sD r 0).2.2)=_;rw[NR h1 he]
  exact⟨e1,by rw[e1];exact GJ he⟩)
 have HBd:V5 (r1.e≠0→R8 S.2.2 S.2.1.e=r1.e):=U0 (fun he=>by
  have e1:S=({q with req:=(sD r 0).1},(sD r 0).2.1,(sD r 0).2.2):=by rw[←hS,TS hk]
  rw[e1,CU h1 he];rfl)
 have HT1:=U0 (U2 h1 s1)
 have HK1:V5 (bG.contains k0=true):=U0 (by rw[←hk0];rcases hk with h|h<;>rw[h]<;>rfl)
 clear h1 s1 hk hk0
 rw[hS,hX0]
 obtain⟨w1,hw1⟩:∃ W,w.alloc (.cells X0.toArray 34)=W:=⟨_,rfl⟩
 obtain⟨rb,hrb⟩:∃ n,w1.heap.size=n:=⟨_,rfl⟩
 obtain⟨w2,hw2⟩:∃ W,w1.alloc (.cells Z.toArray 34)=W:=⟨_,rfl⟩
 have P0:=U0 (oH.begin hr hw1 hw2 hrb)
 have HW:=U0 (U2 hw1 (U2 hw2 (U2 hrb zv)))
 have HX:=U0 (U2 xl (U2 xo (U2 xk (U2 zl (U2 hb (U2 hX0 hv))))))
 have iX:(prog.info? 34).map (·.size)=some X0.length:=by rw[xl];exact I5
 have HI:=U0 iX
 clear xl xo xk zv zl hr hw1 hw2 hrb hb iX hZ hX0 hS hv
 go_enter func100,ntmps100
 go_upto_region 1 with (first
  |(with_reducible refine Z4 _ _ rfl 34 (.tmp 1) rfl _ rfl HW.o.1 ?_)
  |(with_reducible refine F5 _ _ rfl 34 rfl _ HW.o.2.2.2 HW.o.2.1 ?_;rw[HW.o.2.2.1]))
 have c0:=P0.o.at HX.o.2.2.1
 go_upto_region 2 with (first
  |(go_at_call 57;refine (OD k0 _).mono ?_;rintro e c1w ⟨rfl,k1⟩;rw[HK1.o];have P1:=U0 (P0.o.over k1);have c1:=P1.o.at HX.o.2.2.1;clear k1))
 go_upto_region 3 with (first
  |(go_at_call 109;refine (uE p g r 2048 _ P1.o.rd (by have:=HX.o.2.2.2.2.1;omega)).mono ?_;intro e u2 hq;unfold GD at hq;rw[HT1.o.1] at hq;obtain⟨ue,rfl,hfr,hr,hk⟩:=hq;obtain⟨A6,c6,G6,rfl,hb6,hn6⟩:=hfr.gives;have P2:=U0 (P1.o.read hr hk HT1.o.2.1);have B6:=U0 (U2 hb6 (show t.length≤1000000 by have:=HT1.o.2.2;have:=HX.o.2.2.2.2.1;omega));have c2:=P2.o.at HX.o.2.2.1;clear hr hk hfr hb6 hn6))
 try clear c0
 clear c1 P0 P1
 by_cases he:r1.e=0
 ·have hg:=HG.o he
  have HV:=U0 hg
  have he':(r1.e !=0)=false:=by simp[he]
  clear he hg
  go_upto_region 6 with (first
   |(go_at_call 110;refine (p8 p g r1 _ P2.o.rd).mono ?_;rintro e wy ⟨rfl,rfl⟩)
   |(go_at_call 57;refine (OD k0 _).mono ?_;rintro e c3w ⟨rfl,k1⟩;rw[HK1.o];have P3:=U0 (P2.o.over k1);have c3:=P3.o.at HX.o.2.2.1;have B7:=U0 (U2 (B6.o.1.keep k1 (by simp)) B6.o.2);clear k1))
  clear c2 c3
  go_upto_region 7 with (first
   |(go_at_call 31;refine (mH G6 t _ _ B7.o.1 B7.o.2).mono ?_;rintro e u3 ⟨cv,G,rfl,i3,n3,k3⟩;have ol:cv.oneCell'=true:=(by obtain⟨A9,c9,g9,rfl,_⟩:=id i3.2;rfl);obtain⟨C,hC⟩:∃ C,U8 (JA t).1 cv=C:=⟨_,rfl⟩;have cl:C.length=37:=(by rw[←hC];exact O8 i3.1);have co:∀ u∈C,u.oneCell'=true:=(by rw[←hC];exact fB _ ol);rw[hC];obtain⟨tc,htc⟩:∃ b,u3.heap.size=b:=⟨_,rfl⟩;obtain⟨u4,hu4⟩:∃ W,u3.alloc (.cells (U8 I7 I4).toArray 26)=W:=⟨_,rfl⟩;have k4:U1 [] u3 u4:=hu4▸(U1.refl [] u3).alloc _;have r4:l5 u4 tc 26 (U8 I7 I4).toArray:=htc▸hu4▸l5.new _ _ _;have HU:=U0 (U2 hu4 htc);have HC:=U0 (U2 cl co);have H3:=U0 (U2 i3 (U2 n3 (U2 k3 (U2 k4 (U2 r4 (U2 hC ol))))));clear i3 n3 k3 hC htc hu4 k4 r4 ol cl co)
   |(with_reducible refine F5 _ _ rfl 26 rfl _ nI HU.o.1 ?_;rw[HU.o.2])
   |(refine wpList_store_mid rfl 26 (.tmp 7) (.tmp 45) rfl tc 0 C.toArray rfl rfl (H3.o.2.2.2.2.1.there (by rw[U4,HC.o.1];exact Nat.le_refl _)) (by rw[U4,HC.o.1];exact D9) (all_oneCell_toArray HC.o.2) ?_))
  have P4:=(P3.o.over H3.o.2.2.1).over H3.o.2.2.2.1
  have htb:rb<tc:=by have:=(P3.o.over H3.o.2.2.1).res.lt;have:=HU.o.2;omega
  have k5:U1 [tc] u4 (u4.setCells tc 0 C):=(U1.refl [tc] u4).setL (.inl (by simp))
  have P5:=P4.far k5 (fun x hx=>by simp at hx;omega)
  have r5:l5 (u4.setCells tc 0 C) tc 26 C.toArray:=by
   have:=H3.o.2.2.2.2.1.setL (vs:=C) (o:=0)
   rw[F7 (by rw[U4,HC.o.1];exact (O8 j6).symm)] at this
   exact this
  obtain⟨q6,hq6⟩:∃ x,({q with req:=(JA t).1}:PK)=x:=⟨_,rfl⟩
  obtain⟨X6,hX6⟩:∃ X,q8 q6 cv I4 I4 I4 I4=X:=⟨_,rfl⟩
  have ep:KA X0.toArray 7 C=X6.toArray:=by rw[←HX.o.2.2.2.2.2.1,←H3.o.2.2.2.2.2.1,←hX6,←hq6];exact mF _ _ (HX.o.2.2.2.2.2.2 w []).rn H3.o.1.1
  have HT2:=U0 (P5.row.there (o:=7) (n:=C.toArray.size) (by rw[U4,U4,HC.o.1,HX.o.1];decide))
  have P6:=P5.setL 7 C ep
  have k6:U1 [w.heap.size] (u4.setCells tc 0 C) ((u4.setCells tc 0 C).setCells w.heap.size 7 C):=(U1.refl [w.heap.size] _).setL (.inl (by simp))
  have hlo:rb<u3.heap.size:=(P3.o.over H3.o.2.2.1).res.lt
  have hG:∀ y∈G,rb<y∧y<tc∧w.heap.size<y:=fun y hy=>by
   have h1:=H3.o.2.1 y hy
   have h2:=P3.o.res.lt
   have h3:=P3.o.hi
   have h4:=HU.o.2
   omega
  have i6:=H3.o.1
  have it:iB ((u4.setCells tc 0 C).setCells w.heap.size 7 C) G (q6,X6):=by
   have i7:=U2 i6.1 (((i6.2.keep H3.o.2.2.2.1 (by simp)).keep k5 (fun y hy=>by have:=hG y hy;simp;omega)).keep k6 (fun y hy=>by have:=hG y hy;simp;omega))
   rw[←hX6,←hq6]
   exact⟨_,_,_,_,_,rfl,⟨i7.1,(HX.o.2.2.2.2.2.2 w G).an,i7.2,(HX.o.2.2.2.2.2.2 _ G).ae,(HX.o.2.2.2.2.2.2 _ G).cc,(HX.o.2.2.2.2.2.2 _ G).vs,(HX.o.2.2.2.2.2.2 _ G).bs⟩⟩
  have nG:I9 w ((u4.setCells tc 0 C).setCells w.heap.size 7 C) G:=fun y hy=>⟨by have:=hG y hy;omega,by
   have h1:=hG y hy;have h2:=HU.o.2;have h3:=H3.o.2.2.2.1.size;have h4:=k5.size;have h5:=k6.size
   omega⟩
  have HT:=U0 (QF (S:=S) P6 it.len it.one HV.o.2 (fun _=>⟨by rw[HV.o.1],G,by rw[HV.o.1,hq6];exact it,nG,fun y hy=>by have:=hG y hy;omega⟩))
  have HP:=U0 (U2 P6 (U2 r5 (U2 it.len (U2 it.one HX.o.2.2.2.1))))
  clear P4 k5 P5 r5 ep P6 hX6 hq6 k6 htb hlo hG i6 it nG
  go_wp2_with (first
   |(refine wpList_load_mid rfl 26 (.tmp 7) rfl tc 0 rfl _ _ HP.o.2.1.rangeAll underlying26 rfl (by rw[HC.o.1];exact D9) ?_)
   |(refine wpList_store_mid rfl 26 (.tmp 48) (.tmp 47) rfl w.heap.size 7 C.toArray rfl rfl (HT2.o) (by rw[U4,HC.o.1];exact D9) (all_oneCell_toArray HC.o.2) ?_)
   |(refine wpList_load_mid rfl 34 (.tmp 3) rfl w.heap.size 0 rfl _ _ HP.o.1.row.rangeAll underlying34 rfl (by rw[HP.o.2.2.1];exact I5) ?_)
   |(refine wpList_store_mid rfl 34 (.tmp 4) (.tmp 49) rfl rb 0 X6.toArray rfl rfl (HP.o.1.res.there (by rw[U4,U4,HP.o.2.2.1,HP.o.2.2.2.2];exact Nat.le_refl _)) (by rw[U4,HP.o.2.2.1];exact I5) (all_oneCell_toArray HP.o.2.2.2.1) ?_))
  refine bodyPost_ret (U5 rfl _ _ rb 34 _ (0,0) _ rfl (nD HP.o.2.2.1 HP.o.2.2.2.2 HP.o.1.res) underlying34 rfl (by rw[U4,HP.o.2.2.1];exact I5)) rfl ?_
  exact HT.o
 ·have hB:=HBd.o he
  have HV:=U0 hB
  have HN:=U0 he
  have he':(r1.e !=0)=true:=by simp[he]
  clear he hB
  go_upto_region 4 with (first
   |(go_at_call 110;refine (p8 p g r1 _ P2.o.rd).mono ?_;rintro e wy ⟨rfl,rfl⟩))
  have Pd:=U0 (P2.o.over ((U1.refl [] _).drew))
  have HF:=U0 (U2 HX.o.1 (U2 HX.o.2.1 HX.o.2.2.2.1))
  have HT:=U0 (QF (S:=S) Pd.o HF.o.1 HF.o.2.1 HV.o (fun e0=>absurd e0 HN.o))
  refine wp_region_held_drew (S:=fun _=>True) (by kernel_rfl) trivial (fun _=> ?_)
  refine wpAnyH_ready (rs:=[0,1]) (by kernel_rfl) (by simp) ?_
  refine AllReadyH.cons (o:=⟨_,_,_,_,_,_⟩) rfl (fun K hK=> ?_) (q9 rfl (fun K hK=> ?_))
  ·refine Z7 rfl 34 (.tmp 3) rfl w.heap.size 0 rfl X0 _ Pd.o.row.rangeAll underlying34 rfl (by rw[HF.o.1];exact I5) ?_
   refine hK.out _ _ trivial (fun _=> ?_)
   clear hK K
   try simp only[Act.put,F3,U3,V3]
   refine wpAnyH_ready (rs:=[1]) (by kernel_rfl) (by simp) ?_
   refine q9 rfl (fun K hK=> ?_)
   go_simp
   refine hK.out _ _ trivial (fun _=> ?_)
   clear hK K
   try simp only[Act.put,F3,U3,V3]
   refine wpAnyH_ready (rs:=[2]) (by kernel_rfl) (by simp) ?_
   refine q9 rfl (fun K hK=> ?_)
   go_simp
   refine (p8 p g r1 _ Pd.o.rd).mono ?_
   rintro e wy ⟨rfl,rfl⟩
   go_wp2_with fail
   refine hK.out _ _ trivial (fun _=> ?_)
   clear hK K
   try simp only[Act.put,F3,U3,V3]
   refine wpAnyH_ready (rs:=[3]) (by kernel_rfl) (by simp) ?_
   refine q9 rfl (fun K hK=> ?_)
   refine I6 rfl 34 (.tmp 4) (.tmp 35) rfl rb 0 X0.toArray rfl rfl (Pd.o.res.there (by rw[U4,U4,HF.o.2.2,HF.o.1];exact Nat.le_refl _)) (by rw[U4,HF.o.1];exact I5) (all_oneCell_toArray HF.o.2.1) ?_
   refine hK.out _ _ trivial (fun _=> ?_)
   clear hK K
   try simp only[Act.put,F3,U3,V3]
   refine wpAnyH_ready (rs:=[4]) (by kernel_rfl) (by simp) ?_
   refine q9 rfl (fun K hK=> ?_)
   go_simp
   refine hK.out _ _ trivial (fun _=> ?_)
   clear hK K
   try simp only[Act.put,F3,U3,V3]
   refine wpAnyH_done (by kernel_rfl) ?_ _
   go_wp2_with fail
   refine bodyPost_ret (U5 rfl _ _ rb 34 _ (0,0) _ rfl (nD HF.o.1 HF.o.2.2 Pd.o.res) underlying34 rfl (by rw[U4,HF.o.1];exact I5)) rfl ?_
   exact HT.o
  ·go_simp
   refine hK.out _ _ trivial (fun _=> ?_)
   clear hK K
   try simp only[Act.put,F3,U3,V3]
   refine wpAnyH_ready (rs:=[0,2]) (by kernel_rfl) (by simp) ?_
   refine AllReadyH.cons (o:=⟨_,_,_,_,_,_⟩) rfl (fun K hK=> ?_) (q9 rfl (fun K hK=> ?_))
   ·refine Z7 rfl 34 (.tmp 3) rfl w.heap.size 0 rfl X0 _ Pd.o.row.rangeAll underlying34 rfl (by rw[HF.o.1];exact I5) ?_
    refine hK.out _ _ trivial (fun _=> ?_)
    clear hK K
    try simp only[Act.put,F3,U3,V3]
    refine wpAnyH_ready (rs:=[2]) (by kernel_rfl) (by simp) ?_
    refine q9 rfl (fun K hK=> ?_)
    go_simp
    refine (p8 p g r1 _ Pd.o.rd).mono ?_
    rintro e wy ⟨rfl,rfl⟩
    go_wp2_with fail
    refine hK.out _ _ trivial (fun _=> ?_)
    clear hK K
    try simp only[Act.put,F3,U3,V3]
    refine wpAnyH_ready (rs:=[3]) (by kernel_rfl) (by simp) ?_
    refine q9 rfl (fun K hK=> ?_)
    refine I6 rfl 34 (.tmp 4) (.tmp 35) rfl rb 0 X0.toArray rfl rfl (Pd.o.res.there (by rw[U4,U4,HF.o.2.2,HF.o.1];exact Nat.le_refl _)) (by rw[U4,HF.o.1];exact I5) (all_oneCell_toArray HF.o.2.1) ?_
    refine hK.out _ _ trivial (fun _=> ?_)
    clear hK K
    try simp only[Act.put,F3,U3,V3]
    refine wpAnyH_ready (rs:=[4]) (by kernel_rfl) (by simp) ?_
    refine q9 rfl (fun K hK=> ?_)
    go_simp
    refine hK.out _ _ trivial (fun _=> ?_)
    clear hK K
    try simp only[Act.put,F3,U3,V3]
    refine wpAnyH_done (by kernel_rfl) ?_ _
    go_wp2_with fail
    refine bodyPost_ret (U5 rfl _ _ rb 34 _ (0,0) _ rfl (nD HF.o.1 HF.o.2.2 Pd.o.res) underlying34 rfl (by rw[U4,HF.o.1];exact I5)) rfl ?_
    exact HT.o
   ·go_simp
    refine (p8 p g r1 _ Pd.o.rd).mono ?_
    rintro e wy ⟨rfl,rfl⟩
    go_wp2_with fail
    refine hK.out _ _ trivial (fun _=> ?_)
    clear hK K
    try simp only[Act.put,F3,U3,V3]
    refine wpAnyH_ready (rs:=[0]) (by kernel_rfl) (by simp) ?_
    refine q9 rfl (fun K hK=> ?_)
    refine Z7 rfl 34 (.tmp 3) rfl w.heap.size 0 rfl X0 _ Pd.o.row.rangeAll underlying34 rfl (by rw[HF.o.1];exact I5) ?_
    refine hK.out _ _ trivial (fun _=> ?_)
    clear hK K
    try simp only[Act.put,F3,U3,V3]
    refine wpAnyH_ready (rs:=[3]) (by kernel_rfl) (by simp) ?_
    refine q9 rfl (fun K hK=> ?_)
    refine I6 rfl 34 (.tmp 4) (.tmp 35) rfl rb 0 X0.toArray rfl rfl (Pd.o.res.there (by rw[U4,U4,HF.o.2.2,HF.o.1];exact Nat.le_refl _)) (by rw[U4,HF.o.1];exact I5) (all_oneCell_toArray HF.o.2.1) ?_
    refine hK.out _ _ trivial (fun _=> ?_)
    clear hK K
    try simp only[Act.put,F3,U3,V3]
    refine wpAnyH_ready (rs:=[4]) (by kernel_rfl) (by simp) ?_
    refine q9 rfl (fun K hK=> ?_)
    go_simp
    refine hK.out _ _ trivial (fun _=> ?_)
    clear hK K
    try simp only[Act.put,F3,U3,V3]
    refine wpAnyH_done (by kernel_rfl) ?_ _
    go_wp2_with fail
    refine bodyPost_ret (U5 rfl _ _ rb 34 _ (0,0) _ rfl (nD HF.o.1 HF.o.2.2 Pd.o.res) underlying34 rfl (by rw[U4,HF.o.1];exact I5)) rfl ?_
    exact HT.o
theorem bodyAn (p g:Nat) (q:PK) (r:RS) (w:World) (hk:q.kind=2) (hv:∀ wx F,wD wx F q I4 I4 I4 I4 I4) (hr:YA w p g r) (hb:r.l.length≤1000000):
 Calls prog 100 #[.pointer (some ⟨p,0,none⟩),.agg (q8 q I4 I4 I4 I4 I4).toArray] w (vE (OE (l6 q.kind) (q,r,0)) p g w):=by
 obtain⟨k0,hk0⟩:∃ k,q.kind=k:=⟨_,rfl⟩
 obtain⟨S,hS⟩:∃ s,OE (l6 q.kind) (q,r,0)=s:=⟨_,rfl⟩
 obtain⟨X0,hX0⟩:∃ X,q8 q I4 I4 I4 I4 I4=X:=⟨_,rfl⟩
 have xl:X0.length=87:=by rw[←hX0];exact G8 (hv w []).rn (hv w []).an
 have xo:∀ u∈X0,u.oneCell'=true:=by rw[←hX0];exact yA rfl rfl rfl rfl rfl
 have xk:X0.toArray[0]? =some (.int .i64 k0):=by rw[←hX0,←hk0];rfl
 obtain⟨Z,hZ⟩:∃ Z,q8 G9 I4 I4 I4 I4 I4=Z:=⟨_,rfl⟩
 have zv:=KE
 have zl:=IC
 rw[hZ] at zv zl
 obtain⟨t,r1,h1⟩:∃ t r1,r.text 2048=(t,r1):=⟨_,_,rfl⟩
 have s1:(r1.l≠[]→r.l≠[])∧t.length≤r.l.length:=by rw[show r1=(r.text 2048).2 by rw[h1],show t=(r.text 2048).1 by rw[h1]];exact⟨cB,tF _ _⟩
 have HG:V5 (r1.e=0→S=({q with ans:=(IA t).1},r1,(IA t).2)∧R8 S.2.2 S.2.1.e=(IA t).2):=U0 (fun he=>by
  have e1:S=({q with ans:=(IA t).1},r1,(IA t).2):=by rw[←hS,show l6 q.kind=l6 2 by rw[hk],NS];show (({q with ans:=(rD r 0).1}:PK),(rD r 0).2.1,(rD r 0).2.2)=_;rw[KR h1 he]
  exact⟨e1,by rw[e1];exact GJ he⟩)
 have HBd:V5 (r1.e≠0→R8 S.2.2 S.2.1.e=r1.e):=U0 (fun he=>by
  have e1:S=({q with ans:=(rD r 0).1},(rD r 0).2.1,(rD r 0).2.2):=by rw[←hS,show l6 q.kind=l6 2 by rw[hk],NS]
  rw[e1,zU h1 he];rfl)
 have HT1:=U0 (U2 h1 s1)
 have HK1:V5 (bG.contains k0=false):=U0 (by rw[←hk0];rw[hk];rfl)
 have b2:(k0==2)=true:=by rw[←hk0,hk];rfl
 clear h1 s1 hk hk0
 rw[hS,hX0]
 obtain⟨w1,hw1⟩:∃ W,w.alloc (.cells X0.toArray 34)=W:=⟨_,rfl⟩
 obtain⟨rb,hrb⟩:∃ n,w1.heap.size=n:=⟨_,rfl⟩
 obtain⟨w2,hw2⟩:∃ W,w1.alloc (.cells Z.toArray 34)=W:=⟨_,rfl⟩
 have P0:=U0 (oH.begin hr hw1 hw2 hrb)
 have HW:=U0 (U2 hw1 (U2 hw2 (U2 hrb zv)))
 have HX:=U0 (U2 xl (U2 xo (U2 xk (U2 zl (U2 hb (U2 hX0 hv))))))
 have iX:(prog.info? 34).map (·.size)=some X0.length:=by rw[xl];exact I5
 have HI:=U0 iX
 clear xl xo xk zv zl hr hw1 hw2 hrb hb iX hZ hX0 hS hv
 go_enter func100,ntmps100
 go_upto_region 1 with (first
  |(with_reducible refine Z4 _ _ rfl 34 (.tmp 1) rfl _ rfl HW.o.1 ?_)
  |(with_reducible refine F5 _ _ rfl 34 rfl _ HW.o.2.2.2 HW.o.2.1 ?_;rw[HW.o.2.2.1]))
 have c0:=P0.o.at HX.o.2.2.1
 go_upto_region 2 with (first
  |(go_at_call 57;refine (OD k0 _).mono ?_;rintro e c1w ⟨rfl,k1⟩;rw[HK1.o];have P1:=U0 (P0.o.over k1);have c1:=P1.o.at HX.o.2.2.1;clear k1))
 go_upto_region 3 with (first
  |(go_at_call 109;refine (uE p g r 2048 _ P1.o.rd (by have:=HX.o.2.2.2.2.1;omega)).mono ?_;intro e u2 hq;unfold GD at hq;rw[HT1.o.1] at hq;obtain⟨ue,rfl,hfr,hr,hk⟩:=hq;obtain⟨A6,c6,G6,rfl,hb6,hn6⟩:=hfr.gives;have P2:=U0 (P1.o.read hr hk HT1.o.2.1);have B6:=U0 (U2 hb6 (show t.length≤1000000 by have:=HT1.o.2.2;have:=HX.o.2.2.2.2.1;omega));have c2:=P2.o.at HX.o.2.2.1;clear hr hk hfr hb6 hn6))
 try clear c0
 clear c1 P0 P1
 by_cases he:r1.e=0
 ·have hg:=HG.o he
  have HV:=U0 hg
  have he':(r1.e !=0)=false:=by simp[he]
  clear he hg
  go_upto_region 10 with (first
   |(go_at_call 110;refine (p8 p g r1 _ P2.o.rd).mono ?_;rintro e wy ⟨rfl,rfl⟩)
   |(go_at_call 57;refine (OD k0 _).mono ?_;rintro e c3w ⟨rfl,k1⟩;rw[HK1.o];have P3:=U0 (P2.o.over k1);have c3:=P3.o.at HX.o.2.2.1;have B7:=U0 (U2 (B6.o.1.keep k1 (by simp)) B6.o.2);clear k1))
  clear c2 c3
  go_upto_region 11 with (first
   |(go_at_call 33;refine (lH G6 t _ _ B7.o.1 B7.o.2).mono ?_;rintro e u3 ⟨cv,G,rfl,i3,n3,k3⟩;have ol:cv.oneCell'=true:=(by obtain⟨A9,c9,g9,rfl,_⟩:=id i3.2;rfl);obtain⟨C,hC⟩:∃ C,x9 (IA t).1 cv=C:=⟨_,rfl⟩;have cl:C.length=38:=(by rw[←hC];exact y9 i3.1);have co:∀ u∈C,u.oneCell'=true:=(by rw[←hC];exact IB _ ol);rw[hC];obtain⟨tc,htc⟩:∃ b,u3.heap.size=b:=⟨_,rfl⟩;obtain⟨u4,hu4⟩:∃ W,u3.alloc (.cells (x9 l8 I4).toArray 28)=W:=⟨_,rfl⟩;have k4:U1 [] u3 u4:=hu4▸(U1.refl [] u3).alloc _;have r4:l5 u4 tc 28 (x9 l8 I4).toArray:=htc▸hu4▸l5.new _ _ _;have HU:=U0 (U2 hu4 htc);have HC:=U0 (U2 cl co);have H3:=U0 (U2 i3 (U2 n3 (U2 k3 (U2 k4 (U2 r4 (U2 hC ol))))));clear i3 n3 k3 hC htc hu4 k4 r4 ol cl co)
   |(with_reducible refine F5 _ _ rfl 28 rfl _ vK HU.o.1 ?_;rw[HU.o.2])
   |(refine wpList_store_mid rfl 28 (.tmp 9) (.tmp 58) rfl tc 0 C.toArray rfl rfl (H3.o.2.2.2.2.1.there (by rw[U4,HC.o.1];exact Nat.le_refl _)) (by rw[U4,HC.o.1];exact Q9) (all_oneCell_toArray HC.o.2) ?_))
  have P4:=(P3.o.over H3.o.2.2.1).over H3.o.2.2.2.1
  have htb:rb<tc:=by have:=(P3.o.over H3.o.2.2.1).res.lt;have:=HU.o.2;omega
  have k5:U1 [tc] u4 (u4.setCells tc 0 C):=(U1.refl [tc] u4).setL (.inl (by simp))
  have P5:=P4.far k5 (fun x hx=>by simp at hx;omega)
  have r5:l5 (u4.setCells tc 0 C) tc 28 C.toArray:=by
   have:=H3.o.2.2.2.2.1.setL (vs:=C) (o:=0)
   rw[F7 (by rw[U4,HC.o.1];exact (y9 F6).symm)] at this
   exact this
  obtain⟨q6,hq6⟩:∃ x,({q with ans:=(IA t).1}:PK)=x:=⟨_,rfl⟩
  obtain⟨X6,hX6⟩:∃ X,q8 q6 I4 cv I4 I4 I4=X:=⟨_,rfl⟩
  have ep:KA X0.toArray 44 C=X6.toArray:=by rw[←HX.o.2.2.2.2.2.1,←H3.o.2.2.2.2.2.1,←hX6,←hq6];exact IG _ _ (HX.o.2.2.2.2.2.2 w []).rn (HX.o.2.2.2.2.2.2 w []).an H3.o.1.1
  have HT2:=U0 (P5.row.there (o:=44) (n:=C.toArray.size) (by rw[U4,U4,HC.o.1,HX.o.1];decide))
  have P6:=P5.setL 44 C ep
  have k6:U1 [w.heap.size] (u4.setCells tc 0 C) ((u4.setCells tc 0 C).setCells w.heap.size 44 C):=(U1.refl [w.heap.size] _).setL (.inl (by simp))
  have hlo:rb<u3.heap.size:=(P3.o.over H3.o.2.2.1).res.lt
  have hG:∀ y∈G,rb<y∧y<tc∧w.heap.size<y:=fun y hy=>by
   have h1:=H3.o.2.1 y hy
   have h2:=P3.o.res.lt
   have h3:=P3.o.hi
   have h4:=HU.o.2
   omega
  have i6:=H3.o.1
  have it:iB ((u4.setCells tc 0 C).setCells w.heap.size 44 C) G (q6,X6):=by
   have i7:=U2 i6.1 (((i6.2.keep H3.o.2.2.2.1 (by simp)).keep k5 (fun y hy=>by have:=hG y hy;simp;omega)).keep k6 (fun y hy=>by have:=hG y hy;simp;omega))
   rw[←hX6,←hq6]
   exact⟨_,_,_,_,_,rfl,⟨(HX.o.2.2.2.2.2.2 w G).rn,i7.1,(HX.o.2.2.2.2.2.2 _ G).re,i7.2,(HX.o.2.2.2.2.2.2 _ G).cc,(HX.o.2.2.2.2.2.2 _ G).vs,(HX.o.2.2.2.2.2.2 _ G).bs⟩⟩
  have nG:I9 w ((u4.setCells tc 0 C).setCells w.heap.size 44 C) G:=fun y hy=>⟨by have:=hG y hy;omega,by
   have h1:=hG y hy;have h2:=HU.o.2;have h3:=H3.o.2.2.2.1.size;have h4:=k5.size;have h5:=k6.size
   omega⟩
  have HT:=U0 (QF (S:=S) P6 it.len it.one HV.o.2 (fun _=>⟨by rw[HV.o.1],G,by rw[HV.o.1,hq6];exact it,nG,fun y hy=>by have:=hG y hy;omega⟩))
  have HP:=U0 (U2 P6 (U2 r5 (U2 it.len (U2 it.one HX.o.2.2.2.1))))
  clear P4 k5 P5 r5 ep P6 hX6 hq6 k6 htb hlo hG i6 it nG
  go_wp2_with (first
   |(refine wpList_load_mid rfl 28 (.tmp 9) rfl tc 0 rfl _ _ HP.o.2.1.rangeAll underlying28 rfl (by rw[HC.o.1];exact Q9) ?_)
   |(refine wpList_store_mid rfl 28 (.tmp 61) (.tmp 60) rfl w.heap.size 44 C.toArray rfl rfl (HT2.o) (by rw[U4,HC.o.1];exact Q9) (all_oneCell_toArray HC.o.2) ?_)
   |(refine wpList_load_mid rfl 34 (.tmp 3) rfl w.heap.size 0 rfl _ _ HP.o.1.row.rangeAll underlying34 rfl (by rw[HP.o.2.2.1];exact I5) ?_)
   |(refine wpList_store_mid rfl 34 (.tmp 4) (.tmp 62) rfl rb 0 X6.toArray rfl rfl (HP.o.1.res.there (by rw[U4,U4,HP.o.2.2.1,HP.o.2.2.2.2];exact Nat.le_refl _)) (by rw[U4,HP.o.2.2.1];exact I5) (all_oneCell_toArray HP.o.2.2.2.1) ?_))
  refine bodyPost_ret (U5 rfl _ _ rb 34 _ (0,0) _ rfl (nD HP.o.2.2.1 HP.o.2.2.2.2 HP.o.1.res) underlying34 rfl (by rw[U4,HP.o.2.2.1];exact I5)) rfl ?_
  exact HT.o
 ·have hB:=HBd.o he
  have HV:=U0 hB
  have HN:=U0 he
  have he':(r1.e !=0)=true:=by simp[he]
  clear he hB
  go_upto_region 4 with (first
   |(go_at_call 110;refine (p8 p g r1 _ P2.o.rd).mono ?_;rintro e wy ⟨rfl,rfl⟩))
  have Pd:=U0 (P2.o.over ((U1.refl [] _).drew))
  have HF:=U0 (U2 HX.o.1 (U2 HX.o.2.1 HX.o.2.2.2.1))
  have HT:=U0 (QF (S:=S) Pd.o HF.o.1 HF.o.2.1 HV.o (fun e0=>absurd e0 HN.o))
  refine wp_region_held_drew (S:=fun _=>True) (by kernel_rfl) trivial (fun _=> ?_)
  refine wpAnyH_ready (rs:=[0,1]) (by kernel_rfl) (by simp) ?_
  refine AllReadyH.cons (o:=⟨_,_,_,_,_,_⟩) rfl (fun K hK=> ?_) (q9 rfl (fun K hK=> ?_))
  ·refine Z7 rfl 34 (.tmp 3) rfl w.heap.size 0 rfl X0 _ Pd.o.row.rangeAll underlying34 rfl (by rw[HF.o.1];exact I5) ?_
   refine hK.out _ _ trivial (fun _=> ?_)
   clear hK K
   try simp only[Act.put,F3,U3,V3]
   refine wpAnyH_ready (rs:=[1]) (by kernel_rfl) (by simp) ?_
   refine q9 rfl (fun K hK=> ?_)
   go_simp
   refine hK.out _ _ trivial (fun _=> ?_)
   clear hK K
   try simp only[Act.put,F3,U3,V3]
   refine wpAnyH_ready (rs:=[2]) (by kernel_rfl) (by simp) ?_
   refine q9 rfl (fun K hK=> ?_)
   go_simp
   refine (p8 p g r1 _ Pd.o.rd).mono ?_
   rintro e wy ⟨rfl,rfl⟩
   go_wp2_with fail
   refine hK.out _ _ trivial (fun _=> ?_)
   clear hK K
   try simp only[Act.put,F3,U3,V3]
   refine wpAnyH_ready (rs:=[3]) (by kernel_rfl) (by simp) ?_
   refine q9 rfl (fun K hK=> ?_)
   refine I6 rfl 34 (.tmp 4) (.tmp 35) rfl rb 0 X0.toArray rfl rfl (Pd.o.res.there (by rw[U4,U4,HF.o.2.2,HF.o.1];exact Nat.le_refl _)) (by rw[U4,HF.o.1];exact I5) (all_oneCell_toArray HF.o.2.1) ?_
   refine hK.out _ _ trivial (fun _=> ?_)
   clear hK K
   try simp only[Act.put,F3,U3,V3]
   refine wpAnyH_ready (rs:=[4]) (by kernel_rfl) (by simp) ?_
   refine q9 rfl (fun K hK=> ?_)
   go_simp
   refine hK.out _ _ trivial (fun _=> ?_)
   clear hK K
   try simp only[Act.put,F3,U3,V3]
   refine wpAnyH_done (by kernel_rfl) ?_ _
   go_wp2_with fail
   refine bodyPost_ret (U5 rfl _ _ rb 34 _ (0,0) _ rfl (nD HF.o.1 HF.o.2.2 Pd.o.res) underlying34 rfl (by rw[U4,HF.o.1];exact I5)) rfl ?_
   exact HT.o
  ·go_simp
   refine hK.out _ _ trivial (fun _=> ?_)
   clear hK K
   try simp only[Act.put,F3,U3,V3]
   refine wpAnyH_ready (rs:=[0,2]) (by kernel_rfl) (by simp) ?_
   refine AllReadyH.cons (o:=⟨_,_,_,_,_,_⟩) rfl (fun K hK=> ?_) (q9 rfl (fun K hK=> ?_))
   ·refine Z7 rfl 34 (.tmp 3) rfl w.heap.size 0 rfl X0 _ Pd.o.row.rangeAll underlying34 rfl (by rw[HF.o.1];exact I5) ?_
    refine hK.out _ _ trivial (fun _=> ?_)
    clear hK K
    try simp only[Act.put,F3,U3,V3]
    refine wpAnyH_ready (rs:=[2]) (by kernel_rfl) (by simp) ?_
    refine q9 rfl (fun K hK=> ?_)
    go_simp
    refine (p8 p g r1 _ Pd.o.rd).mono ?_
    rintro e wy ⟨rfl,rfl⟩
    go_wp2_with fail
    refine hK.out _ _ trivial (fun _=> ?_)
    clear hK K
    try simp only[Act.put,F3,U3,V3]
    refine wpAnyH_ready (rs:=[3]) (by kernel_rfl) (by simp) ?_
    refine q9 rfl (fun K hK=> ?_)
    refine I6 rfl 34 (.tmp 4) (.tmp 35) rfl rb 0 X0.toArray rfl rfl (Pd.o.res.there (by rw[U4,U4,HF.o.2.2,HF.o.1];exact Nat.le_refl _)) (by rw[U4,HF.o.1];exact I5) (all_oneCell_toArray HF.o.2.1) ?_
    refine hK.out _ _ trivial (fun _=> ?_)
    clear hK K
    try simp only[Act.put,F3,U3,V3]
    refine wpAnyH_ready (rs:=[4]) (by kernel_rfl) (by simp) ?_
    refine q9 rfl (fun K hK=> ?_)
    go_simp
    refine hK.out _ _ trivial (fun _=> ?_)
    clear hK K
    try simp only[Act.put,F3,U3,V3]
    refine wpAnyH_done (by kernel_rfl) ?_ _
    go_wp2_with fail
    refine bodyPost_ret (U5 rfl _ _ rb 34 _ (0,0) _ rfl (nD HF.o.1 HF.o.2.2 Pd.o.res) underlying34 rfl (by rw[U4,HF.o.1];exact I5)) rfl ?_
    exact HT.o
   ·go_simp
    refine (p8 p g r1 _ Pd.o.rd).mono ?_
    rintro e wy ⟨rfl,rfl⟩
    go_wp2_with fail
    refine hK.out _ _ trivial (fun _=> ?_)
    clear hK K
    try simp only[Act.put,F3,U3,V3]
    refine wpAnyH_ready (rs:=[0]) (by kernel_rfl) (by simp) ?_
    refine q9 rfl (fun K hK=> ?_)
    refine Z7 rfl 34 (.tmp 3) rfl w.heap.size 0 rfl X0 _ Pd.o.row.rangeAll underlying34 rfl (by rw[HF.o.1];exact I5) ?_
    refine hK.out _ _ trivial (fun _=> ?_)
    clear hK K
    try simp only[Act.put,F3,U3,V3]
    refine wpAnyH_ready (rs:=[3]) (by kernel_rfl) (by simp) ?_
    refine q9 rfl (fun K hK=> ?_)
    refine I6 rfl 34 (.tmp 4) (.tmp 35) rfl rb 0 X0.toArray rfl rfl (Pd.o.res.there (by rw[U4,U4,HF.o.2.2,HF.o.1];exact Nat.le_refl _)) (by rw[U4,HF.o.1];exact I5) (all_oneCell_toArray HF.o.2.1) ?_
    refine hK.out _ _ trivial (fun _=> ?_)
    clear hK K
    try simp only[Act.put,F3,U3,V3]
    refine wpAnyH_ready (rs:=[4]) (by kernel_rfl) (by simp) ?_
    refine q9 rfl (fun K hK=> ?_)
    go_simp
    refine hK.out _ _ trivial (fun _=> ?_)
    clear hK K
    try simp only[Act.put,F3,U3,V3]
    refine wpAnyH_done (by kernel_rfl) ?_ _
    go_wp2_with fail
    refine bodyPost_ret (U5 rfl _ _ rb 34 _ (0,0) _ rfl (nD HF.o.1 HF.o.2.2 Pd.o.res) underlying34 rfl (by rw[U4,HF.o.1];exact I5)) rfl ?_
    exact HT.o
end Go.Proofs.YthfdkonhjpdflaaGreatDoor
