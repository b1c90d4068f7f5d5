import Derived.Test.YthfdkonhjpdflaaGreatDoorGR7a
namespace Go.Proofs.YthfdkonhjpdflaaGreatDoor
open Go.RowKit Go.Proofs.Tryz
set_option linter.unusedVariables false
set_option maxRecDepth 100000
set_option linter.unusedSimpArgs false
set_option maxHeartbeats 16000000
theorem bodyCf (p g:Nat) (q:PK) (r:RS) (w:World) (hk:q.kind=7∨q.kind=12) (hv:∀ wx F,wD wx F q I4 I4 I4 I4 I4) (hr:YA w p g r) (hb:r.l.length≤1000000):
 Calls prog 100 #[.pointer (some ⟨p,0,none⟩),.agg (q8 q I4 I4 I4 I4 I4).toArray] w (vE (OE (l6 q.kind) (q,r,0)) p g w):=by
 obtain⟨k0,hk0⟩:∃ k,q.kind=k:=⟨_,rfl⟩
 obtain⟨S,hS⟩:∃ s,OE (l6 q.kind) (q,r,0)=s:=⟨_,rfl⟩
 obtain⟨X0,hX0⟩:∃ X,q8 q I4 I4 I4 I4 I4=X:=⟨_,rfl⟩
 have xl:X0.length=87:=by rw[←hX0];exact G8 (hv w []).rn (hv w []).an
 have xo:∀ u∈X0,u.oneCell'=true:=by rw[←hX0];exact yA rfl rfl rfl rfl rfl
 have xk:X0.toArray[0]? =some (.int .i64 k0):=by rw[←hX0,←hk0];rfl
 obtain⟨Z,hZ⟩:∃ Z,q8 G9 I4 I4 I4 I4 I4=Z:=⟨_,rfl⟩
 have zv:=KE
 have zl:=IC
 rw[hZ] at zv zl
 obtain⟨t,r1,h1⟩:∃ t r1,r.text 2048=(t,r1):=⟨_,_,rfl⟩
 have s1:(r1.l≠[]→r.l≠[])∧t.length≤r.l.length:=by rw[show r1=(r.text 2048).2 by rw[h1],show t=(r.text 2048).1 by rw[h1]];exact⟨cB,tF _ _⟩
 have HG:V5 (r1.e=0→S=({q with conf:=(dA t).1},r1,(dA t).2)∧R8 S.2.2 S.2.1.e=(dA t).2):=U0 (fun he=>by
  have e1:S=({q with conf:=(dA t).1},r1,(dA t).2):=by rw[←hS,QS hk];show (({q with conf:=(yB r 0).1}:PK),(yB r 0).2.1,(yB r 0).2.2)=_;rw[MR h1 he]
  exact⟨e1,by rw[e1];exact GJ he⟩)
 have HBd:V5 (r1.e≠0→R8 S.2.2 S.2.1.e=r1.e):=U0 (fun he=>by
  have e1:S=({q with conf:=(yB r 0).1},(yB r 0).2.1,(yB r 0).2.2):=by rw[←hS,QS hk]
  rw[e1,BU h1 he];rfl)
 have HT1:=U0 (U2 h1 s1)
 have HK1:V5 (bG.contains k0=false):=U0 (by rw[←hk0];rcases hk with h|h<;>rw[h]<;>rfl)
 have b2:(k0==2)=false:=by rw[←hk0];rcases hk with h|h<;>rw[h]<;>rfl
 have HK3:V5 (UC.contains k0=true):=U0 (by rw[←hk0];rcases hk with h|h<;>rw[h]<;>rfl)
 clear h1 s1 hk hk0
 rw[hS,hX0]
 obtain⟨w1,hw1⟩:∃ W,w.alloc (.cells X0.toArray 34)=W:=⟨_,rfl⟩
 obtain⟨rb,hrb⟩:∃ n,w1.heap.size=n:=⟨_,rfl⟩
 obtain⟨w2,hw2⟩:∃ W,w1.alloc (.cells Z.toArray 34)=W:=⟨_,rfl⟩
 have P0:=U0 (oH.begin hr hw1 hw2 hrb)
 have HW:=U0 (U2 hw1 (U2 hw2 (U2 hrb zv)))
 have HX:=U0 (U2 xl (U2 xo (U2 xk (U2 zl (U2 hb (U2 hX0 hv))))))
 have iX:(prog.info? 34).map (·.size)=some X0.length:=by rw[xl];exact I5
 have HI:=U0 iX
 clear xl xo xk zv zl hr hw1 hw2 hrb hb iX hZ hX0 hS hv
 go_enter func100,ntmps100
 go_upto_region 1 with (first
  |(with_reducible refine Z4 _ _ rfl 34 (.tmp 1) rfl _ rfl HW.o.1 ?_)
  |(with_reducible refine F5 _ _ rfl 34 rfl _ HW.o.2.2.2 HW.o.2.1 ?_;rw[HW.o.2.2.1]))
 have c0:=P0.o.at HX.o.2.2.1
 go_upto_region 2 with (first
  |(go_at_call 57;refine (OD k0 _).mono ?_;rintro e c1w ⟨rfl,k1⟩;rw[HK1.o];have P1:=U0 (P0.o.over k1);have c1:=P1.o.at HX.o.2.2.1;clear k1)
  |(go_at_call 59;refine (XF k0 _).mono ?_;rintro e c1bw ⟨rfl,k1⟩;rw[HK3.o];have P1b:=U0 (P1.o.over k1);have c1b:=P1b.o.at HX.o.2.2.1;clear k1))
 go_upto_region 3 with (first
  |(go_at_call 109;refine (uE p g r 2048 _ P1b.o.rd (by have:=HX.o.2.2.2.2.1;omega)).mono ?_;intro e u2 hq;unfold GD at hq;rw[HT1.o.1] at hq;obtain⟨ue,rfl,hfr,hr,hk⟩:=hq;obtain⟨A6,c6,G6,rfl,hb6,hn6⟩:=hfr.gives;have P2:=U0 (P1b.o.read hr hk HT1.o.2.1);have B6:=U0 (U2 hb6 (show t.length≤1000000 by have:=HT1.o.2.2;have:=HX.o.2.2.2.2.1;omega));have c2:=P2.o.at HX.o.2.2.1;clear hr hk hfr hb6 hn6))
 try clear c0
 clear c1 c1b P0 P1
 by_cases he:r1.e=0
 ·have hg:=HG.o he
  have HV:=U0 hg
  have he':(r1.e !=0)=false:=by simp[he]
  clear he hg
  go_upto_region 13 with (first
   |(go_at_call 110;refine (p8 p g r1 _ P2.o.rd).mono ?_;rintro e wy ⟨rfl,rfl⟩)
   |(go_at_call 57;refine (OD k0 _).mono ?_;rintro e c3w ⟨rfl,k1⟩;rw[HK1.o];have P3:=U0 (P2.o.over k1);have c3:=P3.o.at HX.o.2.2.1;have B7:=U0 (U2 (B6.o.1.keep k1 (by simp)) B6.o.2);clear k1))
  clear c2 c3
  go_upto_region 14 with (first
   |(go_at_call 35;refine (lF G6 t _ _ B7.o.1 B7.o.2).mono ?_;rintro e u3 ⟨cv,G,rfl,i3,n3,k3⟩;have ol:cv.oneCell'=true:=(by obtain⟨A9,c9,g9,rfl,_⟩:=id i3;rfl);obtain⟨C,hC⟩:∃ C,bA (dA t).1 cv=C:=⟨_,rfl⟩;have cl:C.length=3:=(by rw[←hC];exact rfl);have co:∀ u∈C,u.oneCell'=true:=(by rw[←hC];exact MC _ ol);rw[hC];obtain⟨tc,htc⟩:∃ b,u3.heap.size=b:=⟨_,rfl⟩;obtain⟨u4,hu4⟩:∃ W,u3.alloc (.cells (bA V7 I4).toArray 31)=W:=⟨_,rfl⟩;have k4:U1 [] u3 u4:=hu4▸(U1.refl [] u3).alloc _;have r4:l5 u4 tc 31 (bA V7 I4).toArray:=htc▸hu4▸l5.new _ _ _;have HU:=U0 (U2 hu4 htc);have HC:=U0 (U2 cl co);have H3:=U0 (U2 i3 (U2 n3 (U2 k3 (U2 k4 (U2 r4 (U2 hC ol))))));clear i3 n3 k3 hC htc hu4 k4 r4 ol cl co)
   |(with_reducible refine F5 _ _ rfl 31 rfl _ kJ HU.o.1 ?_;rw[HU.o.2])
   |(refine wpList_store_mid rfl 31 (.tmp 11) (.tmp 67) rfl tc 0 C.toArray rfl rfl (H3.o.2.2.2.2.1.there (by rw[U4,HC.o.1];exact Nat.le_refl _)) (by rw[U4,HC.o.1];exact S9) (all_oneCell_toArray HC.o.2) ?_))
  have P4:=(P3.o.over H3.o.2.2.1).over H3.o.2.2.2.1
  have htb:rb<tc:=by have:=(P3.o.over H3.o.2.2.1).res.lt;have:=HU.o.2;omega
  have k5:U1 [tc] u4 (u4.setCells tc 0 C):=(U1.refl [tc] u4).setL (.inl (by simp))
  have P5:=P4.far k5 (fun x hx=>by simp at hx;omega)
  have r5:l5 (u4.setCells tc 0 C) tc 31 C.toArray:=by
   have:=H3.o.2.2.2.2.1.setL (vs:=C) (o:=0)
   rw[F7 (by rw[U4,HC.o.1];rfl)] at this
   exact this
  obtain⟨q6,hq6⟩:∃ x,({q with conf:=(dA t).1}:PK)=x:=⟨_,rfl⟩
  obtain⟨X6,hX6⟩:∃ X,q8 q6 I4 I4 cv I4 I4=X:=⟨_,rfl⟩
  have ep:KA X0.toArray 82 C=X6.toArray:=by rw[←HX.o.2.2.2.2.2.1,←H3.o.2.2.2.2.2.1,←hX6,←hq6];exact JG _ _ (HX.o.2.2.2.2.2.2 w []).rn (HX.o.2.2.2.2.2.2 w []).an
  have HT2:=U0 (P5.row.there (o:=82) (n:=C.toArray.size) (by rw[U4,U4,HC.o.1,HX.o.1];decide))
  have P6:=P5.setL 82 C ep
  have k6:U1 [w.heap.size] (u4.setCells tc 0 C) ((u4.setCells tc 0 C).setCells w.heap.size 82 C):=(U1.refl [w.heap.size] _).setL (.inl (by simp))
  have hlo:rb<u3.heap.size:=(P3.o.over H3.o.2.2.1).res.lt
  have hG:∀ y∈G,rb<y∧y<tc∧w.heap.size<y:=fun y hy=>by
   have h1:=H3.o.2.1 y hy
   have h2:=P3.o.res.lt
   have h3:=P3.o.hi
   have h4:=HU.o.2
   omega
  have i6:=H3.o.1
  have it:iB ((u4.setCells tc 0 C).setCells w.heap.size 82 C) G (q6,X6):=by
   have i7:=((i6.keep H3.o.2.2.2.1 (by simp)).keep k5 (fun y hy=>by have:=hG y hy;simp;omega)).keep k6 (fun y hy=>by have:=hG y hy;simp;omega)
   rw[←hX6,←hq6]
   exact⟨_,_,_,_,_,rfl,⟨(HX.o.2.2.2.2.2.2 w G).rn,(HX.o.2.2.2.2.2.2 w G).an,(HX.o.2.2.2.2.2.2 _ G).re,(HX.o.2.2.2.2.2.2 _ G).ae,i7,(HX.o.2.2.2.2.2.2 _ G).vs,(HX.o.2.2.2.2.2.2 _ G).bs⟩⟩
  have nG:I9 w ((u4.setCells tc 0 C).setCells w.heap.size 82 C) G:=fun y hy=>⟨by have:=hG y hy;omega,by
   have h1:=hG y hy;have h2:=HU.o.2;have h3:=H3.o.2.2.2.1.size;have h4:=k5.size;have h5:=k6.size
   omega⟩
  have HT:=U0 (QF (S:=S) P6 it.len it.one HV.o.2 (fun _=>⟨by rw[HV.o.1],G,by rw[HV.o.1,hq6];exact it,nG,fun y hy=>by have:=hG y hy;omega⟩))
  have HP:=U0 (U2 P6 (U2 r5 (U2 it.len (U2 it.one HX.o.2.2.2.1))))
  clear P4 k5 P5 r5 ep P6 hX6 hq6 k6 htb hlo hG i6 it nG
  go_wp2_with (first
   |(refine wpList_load_mid rfl 31 (.tmp 11) rfl tc 0 rfl _ _ HP.o.2.1.rangeAll underlying31 rfl (by rw[HC.o.1];exact S9) ?_)
   |(refine wpList_store_mid rfl 31 (.tmp 70) (.tmp 69) rfl w.heap.size 82 C.toArray rfl rfl (HT2.o) (by rw[U4,HC.o.1];exact S9) (all_oneCell_toArray HC.o.2) ?_)
   |(refine wpList_load_mid rfl 34 (.tmp 3) rfl w.heap.size 0 rfl _ _ HP.o.1.row.rangeAll underlying34 rfl (by rw[HP.o.2.2.1];exact I5) ?_)
   |(refine wpList_store_mid rfl 34 (.tmp 4) (.tmp 71) rfl rb 0 X6.toArray rfl rfl (HP.o.1.res.there (by rw[U4,U4,HP.o.2.2.1,HP.o.2.2.2.2];exact Nat.le_refl _)) (by rw[U4,HP.o.2.2.1];exact I5) (all_oneCell_toArray HP.o.2.2.2.1) ?_))
  refine bodyPost_ret (U5 rfl _ _ rb 34 _ (0,0) _ rfl (nD HP.o.2.2.1 HP.o.2.2.2.2 HP.o.1.res) underlying34 rfl (by rw[U4,HP.o.2.2.1];exact I5)) rfl ?_
  exact HT.o
 ·have hB:=HBd.o he
  have HV:=U0 hB
  have HN:=U0 he
  have he':(r1.e !=0)=true:=by simp[he]
  clear he hB
  go_upto_region 4 with (first
   |(go_at_call 110;refine (p8 p g r1 _ P2.o.rd).mono ?_;rintro e wy ⟨rfl,rfl⟩))
  have Pd:=U0 (P2.o.over ((U1.refl [] _).drew))
  have HF:=U0 (U2 HX.o.1 (U2 HX.o.2.1 HX.o.2.2.2.1))
  have HT:=U0 (QF (S:=S) Pd.o HF.o.1 HF.o.2.1 HV.o (fun e0=>absurd e0 HN.o))
  refine wp_region_held_drew (S:=fun _=>True) (by kernel_rfl) trivial (fun _=> ?_)
  refine wpAnyH_ready (rs:=[0,1]) (by kernel_rfl) (by simp) ?_
  refine AllReadyH.cons (o:=⟨_,_,_,_,_,_⟩) rfl (fun K hK=> ?_) (q9 rfl (fun K hK=> ?_))
  ·refine Z7 rfl 34 (.tmp 3) rfl w.heap.size 0 rfl X0 _ Pd.o.row.rangeAll underlying34 rfl (by rw[HF.o.1];exact I5) ?_
   refine hK.out _ _ trivial (fun _=> ?_)
   clear hK K
   try simp only[Act.put,F3,U3,V3]
   refine wpAnyH_ready (rs:=[1]) (by kernel_rfl) (by simp) ?_
   refine q9 rfl (fun K hK=> ?_)
   go_simp
   refine hK.out _ _ trivial (fun _=> ?_)
   clear hK K
   try simp only[Act.put,F3,U3,V3]
   refine wpAnyH_ready (rs:=[2]) (by kernel_rfl) (by simp) ?_
   refine q9 rfl (fun K hK=> ?_)
   go_simp
   refine (p8 p g r1 _ Pd.o.rd).mono ?_
   rintro e wy ⟨rfl,rfl⟩
   go_wp2_with fail
   refine hK.out _ _ trivial (fun _=> ?_)
   clear hK K
   try simp only[Act.put,F3,U3,V3]
   refine wpAnyH_ready (rs:=[3]) (by kernel_rfl) (by simp) ?_
   refine q9 rfl (fun K hK=> ?_)
   refine I6 rfl 34 (.tmp 4) (.tmp 35) rfl rb 0 X0.toArray rfl rfl (Pd.o.res.there (by rw[U4,U4,HF.o.2.2,HF.o.1];exact Nat.le_refl _)) (by rw[U4,HF.o.1];exact I5) (all_oneCell_toArray HF.o.2.1) ?_
   refine hK.out _ _ trivial (fun _=> ?_)
   clear hK K
   try simp only[Act.put,F3,U3,V3]
   refine wpAnyH_ready (rs:=[4]) (by kernel_rfl) (by simp) ?_
   refine q9 rfl (fun K hK=> ?_)
   go_simp
   refine hK.out _ _ trivial (fun _=> ?_)
   clear hK K
   try simp only[Act.put,F3,U3,V3]
   refine wpAnyH_done (by kernel_rfl) ?_ _
   go_wp2_with fail
   refine bodyPost_ret (U5 rfl _ _ rb 34 _ (0,0) _ rfl (nD HF.o.1 HF.o.2.2 Pd.o.res) underlying34 rfl (by rw[U4,HF.o.1];exact I5)) rfl ?_
   exact HT.o
  ·go_simp
   refine hK.out _ _ trivial (fun _=> ?_)
   clear hK K
   try simp only[Act.put,F3,U3,V3]
   refine wpAnyH_ready (rs:=[0,2]) (by kernel_rfl) (by simp) ?_
   refine AllReadyH.cons (o:=⟨_,_,_,_,_,_⟩) rfl (fun K hK=> ?_) (q9 rfl (fun K hK=> ?_))
   ·refine Z7 rfl 34 (.tmp 3) rfl w.heap.size 0 rfl X0 _ Pd.o.row.rangeAll underlying34 rfl (by rw[HF.o.1];exact I5) ?_
    refine hK.out _ _ trivial (fun _=> ?_)
    clear hK K
    try simp only[Act.put,F3,U3,V3]
    refine wpAnyH_ready (rs:=[2]) (by kernel_rfl) (by simp) ?_
    refine q9 rfl (fun K hK=> ?_)
    go_simp
    refine (p8 p g r1 _ Pd.o.rd).mono ?_
    rintro e wy ⟨rfl,rfl⟩
    go_wp2_with fail
    refine hK.out _ _ trivial (fun _=> ?_)
    clear hK K
    try simp only[Act.put,F3,U3,V3]
    refine wpAnyH_ready (rs:=[3]) (by kernel_rfl) (by simp) ?_
    refine q9 rfl (fun K hK=> ?_)
    refine I6 rfl 34 (.tmp 4) (.tmp 35) rfl rb 0 X0.toArray rfl rfl (Pd.o.res.there (by rw[U4,U4,HF.o.2.2,HF.o.1];exact Nat.le_refl _)) (by rw[U4,HF.o.1];exact I5) (all_oneCell_toArray HF.o.2.1) ?_
    refine hK.out _ _ trivial (fun _=> ?_)
    clear hK K
    try simp only[Act.put,F3,U3,V3]
    refine wpAnyH_ready (rs:=[4]) (by kernel_rfl) (by simp) ?_
    refine q9 rfl (fun K hK=> ?_)
    go_simp
    refine hK.out _ _ trivial (fun _=> ?_)
    clear hK K
    try simp only[Act.put,F3,U3,V3]
    refine wpAnyH_done (by kernel_rfl) ?_ _
    go_wp2_with fail
    refine bodyPost_ret (U5 rfl _ _ rb 34 _ (0,0) _ rfl (nD HF.o.1 HF.o.2.2 Pd.o.res) underlying34 rfl (by rw[U4,HF.o.1];exact I5)) rfl ?_
    exact HT.o
   ·go_simp
    refine (p8 p g r1 _ Pd.o.rd).mono ?_
    rintro e wy ⟨rfl,rfl⟩
    go_wp2_with fail
    refine hK.out _ _ trivial (fun _=> ?_)
    clear hK K
    try simp only[Act.put,F3,U3,V3]
    refine wpAnyH_ready (rs:=[0]) (by kernel_rfl) (by simp) ?_
    refine q9 rfl (fun K hK=> ?_)
    refine Z7 rfl 34 (.tmp 3) rfl w.heap.size 0 rfl X0 _ Pd.o.row.rangeAll underlying34 rfl (by rw[HF.o.1];exact I5) ?_
    refine hK.out _ _ trivial (fun _=> ?_)
    clear hK K
    try simp only[Act.put,F3,U3,V3]
    refine wpAnyH_ready (rs:=[3]) (by kernel_rfl) (by simp) ?_
    refine q9 rfl (fun K hK=> ?_)
    refine I6 rfl 34 (.tmp 4) (.tmp 35) rfl rb 0 X0.toArray rfl rfl (Pd.o.res.there (by rw[U4,U4,HF.o.2.2,HF.o.1];exact Nat.le_refl _)) (by rw[U4,HF.o.1];exact I5) (all_oneCell_toArray HF.o.2.1) ?_
    refine hK.out _ _ trivial (fun _=> ?_)
    clear hK K
    try simp only[Act.put,F3,U3,V3]
    refine wpAnyH_ready (rs:=[4]) (by kernel_rfl) (by simp) ?_
    refine q9 rfl (fun K hK=> ?_)
    go_simp
    refine hK.out _ _ trivial (fun _=> ?_)
    clear hK K
    try simp only[Act.put,F3,U3,V3]
    refine wpAnyH_done (by kernel_rfl) ?_ _
    go_wp2_with fail
    refine bodyPost_ret (U5 rfl _ _ rb 34 _ (0,0) _ rfl (nD HF.o.1 HF.o.2.2 Pd.o.res) underlying34 rfl (by rw[U4,HF.o.1];exact I5)) rfl ?_
    exact HT.o
theorem bodyNo (p g:Nat) (q:PK) (r:RS) (w:World) (hk:q.kind=4∨q.kind=5∨q.kind=8∨q.kind=9∨q.kind=10∨q.kind=13∨q.kind=14) (hv:∀ wx F,wD wx F q I4 I4 I4 I4 I4) (hr:YA w p g r) (hb:r.l.length≤1000000):
 Calls prog 100 #[.pointer (some ⟨p,0,none⟩),.agg (q8 q I4 I4 I4 I4 I4).toArray] w (vE (OE (l6 q.kind) (q,r,0)) p g w):=by
 obtain⟨k0,hk0⟩:∃ k,q.kind=k:=⟨_,rfl⟩
 obtain⟨S,hS⟩:∃ s,OE (l6 q.kind) (q,r,0)=s:=⟨_,rfl⟩
 obtain⟨X0,hX0⟩:∃ X,q8 q I4 I4 I4 I4 I4=X:=⟨_,rfl⟩
 have xl:X0.length=87:=by rw[←hX0];exact G8 (hv w []).rn (hv w []).an
 have xo:∀ u∈X0,u.oneCell'=true:=by rw[←hX0];exact yA rfl rfl rfl rfl rfl
 have xk:X0.toArray[0]? =some (.int .i64 k0):=by rw[←hX0,←hk0];rfl
 obtain⟨Z,hZ⟩:∃ Z,q8 G9 I4 I4 I4 I4 I4=Z:=⟨_,rfl⟩
 have zv:=KE
 have zl:=IC
 rw[hZ] at zv zl
 have HS0:V5 (S=(q,r,0)):=U0 (by rw[←hS];exact bdS_no hk _)
 have HK1:V5 (bG.contains k0=false):=U0 (by rw[←hk0];rcases hk with h|h|h|h|h|h|h<;>rw[h]<;>rfl)
 have HK3:V5 (UC.contains k0=false):=U0 (by rw[←hk0];rcases hk with h|h|h|h|h|h|h<;>rw[h]<;>rfl)
 have b2:(k0==2)=false:=by rw[←hk0];rcases hk with h|h|h|h|h|h|h<;>rw[h]<;>rfl
 have b6:(k0==6)=false:=by rw[←hk0];rcases hk with h|h|h|h|h|h|h<;>rw[h]<;>rfl
 have b11:(k0==11)=false:=by rw[←hk0];rcases hk with h|h|h|h|h|h|h<;>rw[h]<;>rfl
 clear hk hk0
 rw[hS,hX0]
 obtain⟨w1,hw1⟩:∃ W,w.alloc (.cells X0.toArray 34)=W:=⟨_,rfl⟩
 obtain⟨rb,hrb⟩:∃ n,w1.heap.size=n:=⟨_,rfl⟩
 obtain⟨w2,hw2⟩:∃ W,w1.alloc (.cells Z.toArray 34)=W:=⟨_,rfl⟩
 have P0:=U0 (oH.begin hr hw1 hw2 hrb)
 have HW:=U0 (U2 hw1 (U2 hw2 (U2 hrb zv)))
 have HX:=U0 (U2 xl (U2 xo (U2 xk (U2 zl (U2 hb (U2 hX0 hv))))))
 have iX:(prog.info? 34).map (·.size)=some X0.length:=by rw[xl];exact I5
 have HI:=U0 iX
 clear xl xo xk zv zl hr hw1 hw2 hrb hb iX hZ hX0 hS hv
 go_enter func100,ntmps100
 go_upto_region 1 with (first
  |(with_reducible refine Z4 _ _ rfl 34 (.tmp 1) rfl _ rfl HW.o.1 ?_)
  |(with_reducible refine F5 _ _ rfl 34 rfl _ HW.o.2.2.2 HW.o.2.1 ?_;rw[HW.o.2.2.1]))
 have c0:=P0.o.at HX.o.2.2.1
 go_upto_region 2 with (first
  |(go_at_call 57;refine (OD k0 _).mono ?_;rintro e c1w ⟨rfl,k1⟩;rw[HK1.o];have P1:=U0 (P0.o.over k1);have c1:=P1.o.at HX.o.2.2.1;clear k1)
  |(go_at_call 59;refine (XF k0 _).mono ?_;rintro e c2w ⟨rfl,k1⟩;rw[HK3.o];have P2:=U0 (P1.o.over k1);have c2:=P2.o.at HX.o.2.2.1;clear k1))
 clear c0 c1
 go_upto_region 27 with fail
 clear c2
 have Pd:=U0 (P2.o.over ((U1.refl [] _).drew))
 have HF:=U0 (U2 HX.o.1 (U2 HX.o.2.1 HX.o.2.2.2.1))
 have HT:=U0 (QF (S:=S) Pd.o HF.o.1 HF.o.2.1 (show R8 S.2.2 S.2.1.e=r.e by rw[HS0.o];rfl) (fun _=>⟨by rw[HS0.o],[],by rw[HS0.o,←HX.o.2.2.2.2.2.1];exact⟨_,_,_,_,_,rfl,HX.o.2.2.2.2.2.2 _ _⟩,by simp[I9],by simp⟩))
 refine wp_region_held_drew (S:=fun _=>True) (by kernel_rfl) trivial (fun _=> ?_)
 refine wpAnyH_ready (rs:=[0,1]) (by kernel_rfl) (by simp) ?_
 refine AllReadyH.cons (o:=⟨_,_,_,_,_,_⟩) rfl (fun K hK=> ?_) (q9 rfl (fun K hK=> ?_))
 ·refine Z7 rfl 34 (.tmp 3) rfl w.heap.size 0 rfl X0 _ Pd.o.row.rangeAll underlying34 rfl (by rw[HF.o.1];exact I5) ?_
  refine hK.out _ _ trivial (fun _=> ?_)
  clear hK K
  try simp only[Act.put,F3,U3,V3]
  refine wpAnyH_ready (rs:=[1]) (by kernel_rfl) (by simp) ?_
  refine q9 rfl (fun K hK=> ?_)
  go_simp
  refine hK.out _ _ trivial (fun _=> ?_)
  clear hK K
  try simp only[Act.put,F3,U3,V3]
  refine wpAnyH_ready (rs:=[2]) (by kernel_rfl) (by simp) ?_
  refine q9 rfl (fun K hK=> ?_)
  go_simp
  refine (p8 p g r _ Pd.o.rd).mono ?_
  rintro e wy ⟨rfl,rfl⟩
  go_wp2_with fail
  refine hK.out _ _ trivial (fun _=> ?_)
  clear hK K
  try simp only[Act.put,F3,U3,V3]
  refine wpAnyH_ready (rs:=[3]) (by kernel_rfl) (by simp) ?_
  refine q9 rfl (fun K hK=> ?_)
  refine I6 rfl 34 (.tmp 4) (.tmp 108) rfl rb 0 X0.toArray rfl rfl (Pd.o.res.there (by rw[U4,U4,HF.o.2.2,HF.o.1];exact Nat.le_refl _)) (by rw[U4,HF.o.1];exact I5) (all_oneCell_toArray HF.o.2.1) ?_
  refine hK.out _ _ trivial (fun _=> ?_)
  clear hK K
  try simp only[Act.put,F3,U3,V3]
  refine wpAnyH_ready (rs:=[4]) (by kernel_rfl) (by simp) ?_
  refine q9 rfl (fun K hK=> ?_)
  go_simp
  refine hK.out _ _ trivial (fun _=> ?_)
  clear hK K
  try simp only[Act.put,F3,U3,V3]
  refine wpAnyH_done (by kernel_rfl) ?_ _
  go_wp2_with fail
  refine bodyPost_ret (U5 rfl _ _ rb 34 _ (0,0) _ rfl (nD HF.o.1 HF.o.2.2 Pd.o.res) underlying34 rfl (by rw[U4,HF.o.1];exact I5)) rfl ?_
  exact HT.o
 ·go_simp
  refine hK.out _ _ trivial (fun _=> ?_)
  clear hK K
  try simp only[Act.put,F3,U3,V3]
  refine wpAnyH_ready (rs:=[0,2]) (by kernel_rfl) (by simp) ?_
  refine AllReadyH.cons (o:=⟨_,_,_,_,_,_⟩) rfl (fun K hK=> ?_) (q9 rfl (fun K hK=> ?_))
  ·refine Z7 rfl 34 (.tmp 3) rfl w.heap.size 0 rfl X0 _ Pd.o.row.rangeAll underlying34 rfl (by rw[HF.o.1];exact I5) ?_
   refine hK.out _ _ trivial (fun _=> ?_)
   clear hK K
   try simp only[Act.put,F3,U3,V3]
   refine wpAnyH_ready (rs:=[2]) (by kernel_rfl) (by simp) ?_
   refine q9 rfl (fun K hK=> ?_)
   go_simp
   refine (p8 p g r _ Pd.o.rd).mono ?_
   rintro e wy ⟨rfl,rfl⟩
   go_wp2_with fail
   refine hK.out _ _ trivial (fun _=> ?_)
   clear hK K
   try simp only[Act.put,F3,U3,V3]
   refine wpAnyH_ready (rs:=[3]) (by kernel_rfl) (by simp) ?_
   refine q9 rfl (fun K hK=> ?_)
   refine I6 rfl 34 (.tmp 4) (.tmp 108) rfl rb 0 X0.toArray rfl rfl (Pd.o.res.there (by rw[U4,U4,HF.o.2.2,HF.o.1];exact Nat.le_refl _)) (by rw[U4,HF.o.1];exact I5) (all_oneCell_toArray HF.o.2.1) ?_
   refine hK.out _ _ trivial (fun _=> ?_)
   clear hK K
   try simp only[Act.put,F3,U3,V3]
   refine wpAnyH_ready (rs:=[4]) (by kernel_rfl) (by simp) ?_
   refine q9 rfl (fun K hK=> ?_)
   go_simp
   refine hK.out _ _ trivial (fun _=> ?_)
   clear hK K
   try simp only[Act.put,F3,U3,V3]
   refine wpAnyH_done (by kernel_rfl) ?_ _
   go_wp2_with fail
   refine bodyPost_ret (U5 rfl _ _ rb 34 _ (0,0) _ rfl (nD HF.o.1 HF.o.2.2 Pd.o.res) underlying34 rfl (by rw[U4,HF.o.1];exact I5)) rfl ?_
   exact HT.o
  ·go_simp
   refine (p8 p g r _ Pd.o.rd).mono ?_
   rintro e wy ⟨rfl,rfl⟩
   go_wp2_with fail
   refine hK.out _ _ trivial (fun _=> ?_)
   clear hK K
   try simp only[Act.put,F3,U3,V3]
   refine wpAnyH_ready (rs:=[0]) (by kernel_rfl) (by simp) ?_
   refine q9 rfl (fun K hK=> ?_)
   refine Z7 rfl 34 (.tmp 3) rfl w.heap.size 0 rfl X0 _ Pd.o.row.rangeAll underlying34 rfl (by rw[HF.o.1];exact I5) ?_
   refine hK.out _ _ trivial (fun _=> ?_)
   clear hK K
   try simp only[Act.put,F3,U3,V3]
   refine wpAnyH_ready (rs:=[3]) (by kernel_rfl) (by simp) ?_
   refine q9 rfl (fun K hK=> ?_)
   refine I6 rfl 34 (.tmp 4) (.tmp 108) rfl rb 0 X0.toArray rfl rfl (Pd.o.res.there (by rw[U4,U4,HF.o.2.2,HF.o.1];exact Nat.le_refl _)) (by rw[U4,HF.o.1];exact I5) (all_oneCell_toArray HF.o.2.1) ?_
   refine hK.out _ _ trivial (fun _=> ?_)
   clear hK K
   try simp only[Act.put,F3,U3,V3]
   refine wpAnyH_ready (rs:=[4]) (by kernel_rfl) (by simp) ?_
   refine q9 rfl (fun K hK=> ?_)
   go_simp
   refine hK.out _ _ trivial (fun _=> ?_)
   clear hK K
   try simp only[Act.put,F3,U3,V3]
   refine wpAnyH_done (by kernel_rfl) ?_ _
   go_wp2_with fail
   refine bodyPost_ret (U5 rfl _ _ rb 34 _ (0,0) _ rfl (nD HF.o.1 HF.o.2.2 Pd.o.res) underlying34 rfl (by rw[U4,HF.o.1];exact I5)) rfl ?_
   exact HT.o
theorem bodyBs (p g:Nat) (q:PK) (r:RS) (w:World) (hk:q.kind=6) (hv:∀ wx F,wD wx F q I4 I4 I4 I4 I4) (hr:YA w p g r) (hb:r.l.length≤1000000):
 Calls prog 100 #[.pointer (some ⟨p,0,none⟩),.agg (q8 q I4 I4 I4 I4 I4).toArray] w (vE (OE (l6 q.kind) (q,r,0)) p g w):=by
 obtain⟨k0,hk0⟩:∃ k,q.kind=k:=⟨_,rfl⟩
 obtain⟨S,hS⟩:∃ s,OE (l6 q.kind) (q,r,0)=s:=⟨_,rfl⟩
 obtain⟨X0,hX0⟩:∃ X,q8 q I4 I4 I4 I4 I4=X:=⟨_,rfl⟩
 have xl:X0.length=87:=by rw[←hX0];exact G8 (hv w []).rn (hv w []).an
 have xo:∀ u∈X0,u.oneCell'=true:=by rw[←hX0];exact yA rfl rfl rfl rfl rfl
 have xk:X0.toArray[0]? =some (.int .i64 k0):=by rw[←hX0,←hk0];rfl
 obtain⟨Z,hZ⟩:∃ Z,q8 G9 I4 I4 I4 I4 I4=Z:=⟨_,rfl⟩
 have zv:=KE
 have zl:=IC
 rw[hZ] at zv zl
 obtain⟨t,r1,h1⟩:∃ t r1,r.text 32768=(t,r1):=⟨_,_,rfl⟩
 have s1:(r1.l≠[]→r.l≠[]):=by rw[show r1=(r.text 32768).2 by rw[h1]];exact cB
 have HS0:V5 (S=({q with bytes:=t},r1,0)):=U0 (by rw[←hS,show l6 q.kind=l6 6 by rw[hk],PS];show (({q with bytes:=(r.text 32768).1}:PK),(r.text 32768).2,(0:Int))=_;rw[h1])
 have HT1:=U0 (U2 h1 s1)
 have HK1:V5 (bG.contains k0=false):=U0 (by rw[←hk0,hk];rfl)
 have HK3:V5 (UC.contains k0=false):=U0 (by rw[←hk0,hk];rfl)
 have b2:(k0==2)=false:=by rw[←hk0,hk];rfl
 have b6:(k0==6)=true:=by rw[←hk0,hk];rfl
 have b11:(k0==11)=false:=by rw[←hk0,hk];rfl
 have HK0:=U0 hk0
 clear h1 s1 hk hk0
 rw[hS,hX0]
 obtain⟨w1,hw1⟩:∃ W,w.alloc (.cells X0.toArray 34)=W:=⟨_,rfl⟩
 obtain⟨rb,hrb⟩:∃ n,w1.heap.size=n:=⟨_,rfl⟩
 obtain⟨w2,hw2⟩:∃ W,w1.alloc (.cells Z.toArray 34)=W:=⟨_,rfl⟩
 have P0:=U0 (oH.begin hr hw1 hw2 hrb)
 have HW:=U0 (U2 hw1 (U2 hw2 (U2 hrb zv)))
 have HX:=U0 (U2 xl (U2 xo (U2 xk (U2 zl (U2 hb (U2 hX0 hv))))))
 have iX:(prog.info? 34).map (·.size)=some X0.length:=by rw[xl];exact I5
 have HI:=U0 iX
 clear xl xo xk zv zl hr hw1 hw2 hrb hb iX hZ hX0 hS hv
 go_enter func100,ntmps100
 go_upto_region 1 with (first
  |(with_reducible refine Z4 _ _ rfl 34 (.tmp 1) rfl _ rfl HW.o.1 ?_)
  |(with_reducible refine F5 _ _ rfl 34 rfl _ HW.o.2.2.2 HW.o.2.1 ?_;rw[HW.o.2.2.1]))
 have c0:=P0.o.at HX.o.2.2.1
 go_upto_region 2 with (first
  |(go_at_call 57;refine (OD k0 _).mono ?_;rintro e c1w ⟨rfl,k1⟩;rw[HK1.o];have P1:=U0 (P0.o.over k1);have c1:=P1.o.at HX.o.2.2.1;clear k1)
  |(go_at_call 59;refine (XF k0 _).mono ?_;rintro e c2w ⟨rfl,k1⟩;rw[HK3.o];have P2:=U0 (P1.o.over k1);have c2:=P2.o.at HX.o.2.2.1;clear k1))
 clear c0 c1
 go_upto_region 18 with (first
  |(go_at_call 109;refine (uE p g r 32768 _ P2.o.rd (by have:=HX.o.2.2.2.2.1;omega)).mono ?_;intro e u2 hq;unfold GD at hq;rw[HT1.o.1] at hq;obtain⟨ue,rfl,hfr,hr,hk⟩:=hq;obtain⟨A6,c6,G6,rfl,hb6,hn6⟩:=hfr.gives;have P3:=U0 (P2.o.read hr hk HT1.o.2);have B6:=U0 (U2 hb6 hn6);have y:u2.cell? ⟨w.heap.size,86,none⟩=some I4:=(by have hp:=P3.o.row;rw[←HX.o.2.2.2.2.2.1] at hp;exact (hp.pk (HX.o.2.2.2.2.2.2 w []).rn (HX.o.2.2.2.2.2.2 w []).an).d4);have y2:=P3.o.row.free 86;clear hr hk hfr hb6 hn6))
 clear c2
 obtain⟨q6,hq6⟩:∃ x,({q with bytes:=t}:PK)=x:=⟨_,rfl⟩
 obtain⟨X6,hX6⟩:∃ X,q8 q6 I4 I4 I4 I4 (.slice A6 t.length c6)=X:=⟨_,rfl⟩
 have rn:=(HX.o.2.2.2.2.2.2 w []).rn
 have an:=(HX.o.2.2.2.2.2.2 w []).an
 have P4:=U0 (P3.o.set 86 (.slice A6 t.length c6) (show X0.toArray.setIfInBounds 86 (.slice A6 t.length c6)=X6.toArray by rw[←HX.o.2.2.2.2.2.1,←hX6,←hq6];exact aH rn an _ _))
 have k6:U1 [w.heap.size] u2 (u2.setCell ⟨w.heap.size,86,none⟩ (.slice A6 t.length c6)):=(U1.refl [w.heap.size] _).setCell _ _ (.inl (by simp))
 have hG:∀ y∈G6,rb<y:=fun y hy=>by have h1:=B6.o.2 y hy;have h2:=P2.o.res.lt;omega
 have hi:=P3.o.hi
 have it:iB (u2.setCell ⟨w.heap.size,86,none⟩ (.slice A6 t.length c6)) G6 (q6,X6):=by
  rw[←hX6,←hq6]
  exact⟨_,_,_,_,_,rfl,rn,an,(HX.o.2.2.2.2.2.2 _ G6).re,(HX.o.2.2.2.2.2.2 _ G6).ae,(HX.o.2.2.2.2.2.2 _ G6).cc,(HX.o.2.2.2.2.2.2 _ G6).vs,B6.o.1.keep k6 (fun y hy=>by have:=hG y hy;simp;omega)⟩
 have nG:I9 w (u2.setCell ⟨w.heap.size,86,none⟩ (.slice A6 t.length c6)) G6:=fun y hy=>⟨by have:=hG y hy;omega,by have h1:=B6.o.2 y hy;have h2:=k6.size;omega⟩
 have IT:=U0 (U2 it (U2 nG (fun y hy=>(by have:=hG y hy;omega:y≠rb))))
 have HS1:=U0 (show S.1=q6 by rw[HS0.o];exact hq6)
 have c4:=P4.o.at (k:=0) (v:= .int .i64 k0) (by rw[←hX6,←hq6,←HK0.o];rfl)
 clear rn an k6 hG hi it nG hX6 hq6 y y2 P3 B6
 obtain⟨u4,hu4⟩:∃ W,u2.setCell ⟨w.heap.size,86,none⟩ (.slice A6 t.length c6)=W:=⟨_,rfl⟩
 rw[hu4] at P4 IT c4
 rw[hu4]
 clear hu4
 go_upto_region 27 with fail
 clear c4
 have Pd:=U0 (P4.o.over ((U1.refl [] _).drew))
 have HF:=U0 (U2 IT.o.1.len (U2 IT.o.1.one HX.o.2.2.2.1))
 have HT:=U0 (QF (S:=S) Pd.o HF.o.1 HF.o.2.1 (show R8 S.2.2 S.2.1.e=r1.e by rw[HS0.o];rfl) (fun _=>⟨by rw[HS0.o],G6,by rw[HS1.o];exact IT.o.1.keep ((U1.refl [] _).drew) (by simp),fun y hy=>IT.o.2.1 y hy,IT.o.2.2⟩))
 refine wp_region_held_drew (S:=fun _=>True) (by kernel_rfl) trivial (fun _=> ?_)
 refine wpAnyH_ready (rs:=[0,1]) (by kernel_rfl) (by simp) ?_
 refine AllReadyH.cons (o:=⟨_,_,_,_,_,_⟩) rfl (fun K hK=> ?_) (q9 rfl (fun K hK=> ?_))
 ·refine Z7 rfl 34 (.tmp 3) rfl w.heap.size 0 rfl X6 _ Pd.o.row.rangeAll underlying34 rfl (by rw[HF.o.1];exact I5) ?_
  refine hK.out _ _ trivial (fun _=> ?_)
  clear hK K
  try simp only[Act.put,F3,U3,V3]
  refine wpAnyH_ready (rs:=[1]) (by kernel_rfl) (by simp) ?_
  refine q9 rfl (fun K hK=> ?_)
  go_simp
  refine hK.out _ _ trivial (fun _=> ?_)
  clear hK K
  try simp only[Act.put,F3,U3,V3]
  refine wpAnyH_ready (rs:=[2]) (by kernel_rfl) (by simp) ?_
  refine q9 rfl (fun K hK=> ?_)
  go_simp
  refine (p8 p g r1 _ Pd.o.rd).mono ?_
  rintro e wy ⟨rfl,rfl⟩
  go_wp2_with fail
  refine hK.out _ _ trivial (fun _=> ?_)
  clear hK K
  try simp only[Act.put,F3,U3,V3]
  refine wpAnyH_ready (rs:=[3]) (by kernel_rfl) (by simp) ?_
  refine q9 rfl (fun K hK=> ?_)
  refine I6 rfl 34 (.tmp 4) (.tmp 108) rfl rb 0 X6.toArray rfl rfl (Pd.o.res.there (by rw[U4,U4,HF.o.2.2,HF.o.1];exact Nat.le_refl _)) (by rw[U4,HF.o.1];exact I5) (all_oneCell_toArray HF.o.2.1) ?_
  refine hK.out _ _ trivial (fun _=> ?_)
  clear hK K
  try simp only[Act.put,F3,U3,V3]
  refine wpAnyH_ready (rs:=[4]) (by kernel_rfl) (by simp) ?_
  refine q9 rfl (fun K hK=> ?_)
  go_simp
  refine hK.out _ _ trivial (fun _=> ?_)
  clear hK K
  try simp only[Act.put,F3,U3,V3]
  refine wpAnyH_done (by kernel_rfl) ?_ _
  go_wp2_with fail
  refine bodyPost_ret (U5 rfl _ _ rb 34 _ (0,0) _ rfl (nD HF.o.1 HF.o.2.2 Pd.o.res) underlying34 rfl (by rw[U4,HF.o.1];exact I5)) rfl ?_
  exact HT.o
 ·go_simp
  refine hK.out _ _ trivial (fun _=> ?_)
  clear hK K
  try simp only[Act.put,F3,U3,V3]
  refine wpAnyH_ready (rs:=[0,2]) (by kernel_rfl) (by simp) ?_
  refine AllReadyH.cons (o:=⟨_,_,_,_,_,_⟩) rfl (fun K hK=> ?_) (q9 rfl (fun K hK=> ?_))
  ·refine Z7 rfl 34 (.tmp 3) rfl w.heap.size 0 rfl X6 _ Pd.o.row.rangeAll underlying34 rfl (by rw[HF.o.1];exact I5) ?_
   refine hK.out _ _ trivial (fun _=> ?_)
   clear hK K
   try simp only[Act.put,F3,U3,V3]
   refine wpAnyH_ready (rs:=[2]) (by kernel_rfl) (by simp) ?_
   refine q9 rfl (fun K hK=> ?_)
   go_simp
   refine (p8 p g r1 _ Pd.o.rd).mono ?_
   rintro e wy ⟨rfl,rfl⟩
   go_wp2_with fail
   refine hK.out _ _ trivial (fun _=> ?_)
   clear hK K
   try simp only[Act.put,F3,U3,V3]
   refine wpAnyH_ready (rs:=[3]) (by kernel_rfl) (by simp) ?_
   refine q9 rfl (fun K hK=> ?_)
   refine I6 rfl 34 (.tmp 4) (.tmp 108) rfl rb 0 X6.toArray rfl rfl (Pd.o.res.there (by rw[U4,U4,HF.o.2.2,HF.o.1];exact Nat.le_refl _)) (by rw[U4,HF.o.1];exact I5) (all_oneCell_toArray HF.o.2.1) ?_
   refine hK.out _ _ trivial (fun _=> ?_)
   clear hK K
   try simp only[Act.put,F3,U3,V3]
   refine wpAnyH_ready (rs:=[4]) (by kernel_rfl) (by simp) ?_
   refine q9 rfl (fun K hK=> ?_)
   go_simp
   refine hK.out _ _ trivial (fun _=> ?_)
   clear hK K
   try simp only[Act.put,F3,U3,V3]
   refine wpAnyH_done (by kernel_rfl) ?_ _
   go_wp2_with fail
   refine bodyPost_ret (U5 rfl _ _ rb 34 _ (0,0) _ rfl (nD HF.o.1 HF.o.2.2 Pd.o.res) underlying34 rfl (by rw[U4,HF.o.1];exact I5)) rfl ?_
   exact HT.o
  ·go_simp
   refine (p8 p g r1 _ Pd.o.rd).mono ?_
   rintro e wy ⟨rfl,rfl⟩
   go_wp2_with fail
   refine hK.out _ _ trivial (fun _=> ?_)
   clear hK K
   try simp only[Act.put,F3,U3,V3]
   refine wpAnyH_ready (rs:=[0]) (by kernel_rfl) (by simp) ?_
   refine q9 rfl (fun K hK=> ?_)
   refine Z7 rfl 34 (.tmp 3) rfl w.heap.size 0 rfl X6 _ Pd.o.row.rangeAll underlying34 rfl (by rw[HF.o.1];exact I5) ?_
   refine hK.out _ _ trivial (fun _=> ?_)
   clear hK K
   try simp only[Act.put,F3,U3,V3]
   refine wpAnyH_ready (rs:=[3]) (by kernel_rfl) (by simp) ?_
   refine q9 rfl (fun K hK=> ?_)
   refine I6 rfl 34 (.tmp 4) (.tmp 108) rfl rb 0 X6.toArray rfl rfl (Pd.o.res.there (by rw[U4,U4,HF.o.2.2,HF.o.1];exact Nat.le_refl _)) (by rw[U4,HF.o.1];exact I5) (all_oneCell_toArray HF.o.2.1) ?_
   refine hK.out _ _ trivial (fun _=> ?_)
   clear hK K
   try simp only[Act.put,F3,U3,V3]
   refine wpAnyH_ready (rs:=[4]) (by kernel_rfl) (by simp) ?_
   refine q9 rfl (fun K hK=> ?_)
   go_simp
   refine hK.out _ _ trivial (fun _=> ?_)
   clear hK K
   try simp only[Act.put,F3,U3,V3]
   refine wpAnyH_done (by kernel_rfl) ?_ _
   go_wp2_with fail
   refine bodyPost_ret (U5 rfl _ _ rb 34 _ (0,0) _ rfl (nD HF.o.1 HF.o.2.2 Pd.o.res) underlying34 rfl (by rw[U4,HF.o.1];exact I5)) rfl ?_
   exact HT.o
end Go.Proofs.YthfdkonhjpdflaaGreatDoor
