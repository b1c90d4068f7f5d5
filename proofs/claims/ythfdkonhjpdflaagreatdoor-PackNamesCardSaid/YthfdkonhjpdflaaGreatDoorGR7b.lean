import Derived.Test.YthfdkonhjpdflaaGreatDoorGR7a
namespace Go.Proofs.YthfdkonhjpdflaaGreatDoor
open Go.RowKit Go.Proofs.Tryz
set_option linter.unusedVariables false
set_option maxRecDepth 100000
set_option linter.unusedSimpArgs false
set_option maxHeartbeats 16000000
theorem bodyCf (p g:Nat) (q:PK) (r:RS) (w:World) (hk:q.kind=7∨q.kind=12) (hv:∀ wx F,gX wx F q ay ay ay ay ay) (hr:dL w p g r) (hb:r.l.length≤1000000):
 Calls prog 100 #[.pointer (some ⟨p,0,none⟩),.agg (bz q ay ay ay ay ay).toArray] w (iW (ji (aL q.kind) (q,r,0)) p g w):=by
 obtain⟨k0,hk0⟩:∃ k,q.kind=k:=⟨_,rfl⟩
 obtain⟨S,hS⟩:∃ s,ji (aL q.kind) (q,r,0)=s:=⟨_,rfl⟩
 obtain⟨X0,hX0⟩:∃ X,bz q ay ay ay ay ay=X:=⟨_,rfl⟩
 have xl:X0.length=87:=by rw[←hX0];exact bA (hv w []).rn (hv w []).an
 have xo:∀ u∈X0,u.oneCell'=true:=by rw[←hX0];exact dz rfl rfl rfl rfl rfl
 have xk:X0.toArray[0]? =some (.int .i64 k0):=by rw[←hX0,←hk0];rfl
 obtain⟨Z,hZ⟩:∃ Z,bz bO ay ay ay ay ay=Z:=⟨_,rfl⟩
 have zv:=jh
 have zl:=fQ
 rw[hZ] at zv zl
 obtain⟨t,r1,h1⟩:∃ t r1,r.text 2048=(t,r1):=⟨_,_,rfl⟩
 have s1:(r1.l≠[]→r.l≠[])∧t.length≤r.l.length:=by rw[show r1=(r.text 2048).2 by rw[h1],show t=(r.text 2048).1 by rw[h1]];exact⟨dO,jN _ _⟩
 have HG:aH (r1.e=0→S=({q with conf:=(cz t).1},r1,(cz t).2)∧bD S.2.2 S.2.1.e=(cz t).2):=aa (fun he=>by
  have e1:S=({q with conf:=(cz t).1},r1,(cz t).2):=by rw[←hS,Ak hk];show (({q with conf:=(dZ r 0).1}:PK),(dZ r 0).2.1,(dZ r 0).2.2)=_;rw[zM h1 he]
  exact⟨e1,by rw[e1];exact p9 he⟩)
 have HBd:aH (r1.e≠0→bD S.2.2 S.2.1.e=r1.e):=aa (fun he=>by
  have e1:S=({q with conf:=(dZ r 0).1},(dZ r 0).2.1,(dZ r 0).2.2):=by rw[←hS,Ak hk]
  rw[e1,BI h1 he];rfl)
 have HT1:=aa (ah h1 s1)
 have HK1:aH (kG.contains k0=false):=aa (by rw[←hk0];rcases hk with h|h<;>rw[h]<;>rfl)
 have b2:(k0==2)=false:=by rw[←hk0];rcases hk with h|h<;>rw[h]<;>rfl
 have HK3:aH (gm.contains k0=true):=aa (by rw[←hk0];rcases hk with h|h<;>rw[h]<;>rfl)
 clear h1 s1 hk hk0
 rw[hS,hX0]
 obtain⟨w1,hw1⟩:∃ W,w.alloc (.cells X0.toArray 34)=W:=⟨_,rfl⟩
 obtain⟨rb,hrb⟩:∃ n,w1.heap.size=n:=⟨_,rfl⟩
 obtain⟨w2,hw2⟩:∃ W,w1.alloc (.cells Z.toArray 34)=W:=⟨_,rfl⟩
 have P0:=aa (mo.begin hr hw1 hw2 hrb)
 have HW:=aa (ah hw1 (ah hw2 (ah hrb zv)))
 have HX:=aa (ah xl (ah xo (ah xk (ah zl (ah hb (ah hX0 hv))))))
 have iX:(prog.info? 34).map (·.size)=some X0.length:=by rw[xl];exact aF
 have HI:=aa iX
 clear xl xo xk zv zl hr hw1 hw2 hrb hb iX hZ hX0 hS hv
 go_enter func100,ntmps100
 go_upto_region 1 with (first
  |(with_reducible refine aA _ _ rfl 34 (.tmp 1) rfl _ rfl HW.o.1 ?_)
  |(with_reducible refine aD _ _ rfl 34 rfl _ HW.o.2.2.2 HW.o.2.1 ?_;rw[HW.o.2.2.1]))
 have c0:=P0.o.at HX.o.2.2.1
 go_upto_region 2 with (first
  |(go_at_call 57;refine (iD k0 _).mono ?_;rintro e c1w ⟨rfl,k1⟩;rw[HK1.o];have P1:=aa (P0.o.over k1);have c1:=P1.o.at HX.o.2.2.1;clear k1)
  |(go_at_call 59;refine (kr k0 _).mono ?_;rintro e c1bw ⟨rfl,k1⟩;rw[HK3.o];have P1b:=aa (P1.o.over k1);have c1b:=P1b.o.at HX.o.2.2.1;clear k1))
 go_upto_region 3 with (first
  |(go_at_call 109;refine (iV p g r 2048 _ P1b.o.rd (by have:=HX.o.2.2.2.2.1;omega)).mono ?_;intro e u2 hq;unfold iy at hq;rw[HT1.o.1] at hq;obtain⟨ue,rfl,hfr,hr,hk⟩:=hq;obtain⟨A6,c6,G6,rfl,hb6,hn6⟩:=hfr.gives;have P2:=aa (P1b.o.read hr hk HT1.o.2.1);have B6:=aa (ah hb6 (show t.length≤1000000 by have:=HT1.o.2.2;have:=HX.o.2.2.2.2.1;omega));have c2:=P2.o.at HX.o.2.2.1;clear hr hk hfr hb6 hn6))
 try clear c0
 clear c1 c1b P0 P1
 by_cases he:r1.e=0
 ·have hg:=HG.o he
  have HV:=aa hg
  have he':(r1.e !=0)=false:=by simp[he]
  clear he hg
  go_upto_region 13 with (first
   |(go_at_call 110;refine (aZ p g r1 _ P2.o.rd).mono ?_;rintro e wy ⟨rfl,rfl⟩)
   |(go_at_call 57;refine (iD k0 _).mono ?_;rintro e c3w ⟨rfl,k1⟩;rw[HK1.o];have P3:=aa (P2.o.over k1);have c3:=P3.o.at HX.o.2.2.1;have B7:=aa (ah (B6.o.1.keep k1 (by simp)) B6.o.2);clear k1))
  clear c2 c3
  go_upto_region 14 with (first
   |(go_at_call 35;refine (jH G6 t _ _ B7.o.1 B7.o.2).mono ?_;rintro e u3 ⟨cv,G,rfl,i3,n3,k3⟩;have ol:cv.oneCell'=true:=(by obtain⟨A9,c9,g9,rfl,_⟩:=id i3;rfl);obtain⟨C,hC⟩:∃ C,bZ (cz t).1 cv=C:=⟨_,rfl⟩;have cl:C.length=3:=(by rw[←hC];exact rfl);have co:∀ u∈C,u.oneCell'=true:=(by rw[←hC];exact fM _ ol);rw[hC];obtain⟨tc,htc⟩:∃ b,u3.heap.size=b:=⟨_,rfl⟩;obtain⟨u4,hu4⟩:∃ W,u3.alloc (.cells (bZ aW ay).toArray 31)=W:=⟨_,rfl⟩;have k4:ag [] u3 u4:=hu4▸(ag.refl [] u3).alloc _;have r4:aC u4 tc 31 (bZ aW ay).toArray:=htc▸hu4▸aC.new _ _ _;have HU:=aa (ah hu4 htc);have HC:=aa (ah cl co);have H3:=aa (ah i3 (ah n3 (ah k3 (ah k4 (ah r4 (ah hC ol))))));clear i3 n3 k3 hC htc hu4 k4 r4 ol cl co)
   |(with_reducible refine aD _ _ rfl 31 rfl _ oW HU.o.1 ?_;rw[HU.o.2])
   |(refine wpList_store_mid rfl 31 (.tmp 11) (.tmp 67) rfl tc 0 C.toArray rfl rfl (H3.o.2.2.2.2.1.there (by rw[az,HC.o.1];exact Nat.le_refl _)) (by rw[az,HC.o.1];exact bS) (all_oneCell_toArray HC.o.2) ?_))
  have P4:=(P3.o.over H3.o.2.2.1).over H3.o.2.2.2.1
  have htb:rb<tc:=by have:=(P3.o.over H3.o.2.2.1).res.lt;have:=HU.o.2;omega
  have k5:ag [tc] u4 (u4.setCells tc 0 C):=(ag.refl [tc] u4).setL (.inl (by simp))
  have P5:=P4.far k5 (fun x hx=>by simp at hx;omega)
  have r5:aC (u4.setCells tc 0 C) tc 31 C.toArray:=by
   have:=H3.o.2.2.2.2.1.setL (vs:=C) (o:=0)
   rw[aR (by rw[az,HC.o.1];rfl)] at this
   exact this
  obtain⟨q6,hq6⟩:∃ x,({q with conf:=(cz t).1}:PK)=x:=⟨_,rfl⟩
  obtain⟨X6,hX6⟩:∃ X,bz q6 ay ay cv ay ay=X:=⟨_,rfl⟩
  have ep:dD X0.toArray 82 C=X6.toArray:=by rw[←HX.o.2.2.2.2.2.1,←H3.o.2.2.2.2.2.1,←hX6,←hq6];exact lD _ _ (HX.o.2.2.2.2.2.2 w []).rn (HX.o.2.2.2.2.2.2 w []).an
  have HT2:=aa (P5.row.there (o:=82) (n:=C.toArray.size) (by rw[az,az,HC.o.1,HX.o.1];decide))
  have P6:=P5.setL 82 C ep
  have k6:ag [w.heap.size] (u4.setCells tc 0 C) ((u4.setCells tc 0 C).setCells w.heap.size 82 C):=(ag.refl [w.heap.size] _).setL (.inl (by simp))
  have hlo:rb<u3.heap.size:=(P3.o.over H3.o.2.2.1).res.lt
  have hG:∀ y∈G,rb<y∧y<tc∧w.heap.size<y:=fun y hy=>by
   have h1:=H3.o.2.1 y hy
   have h2:=P3.o.res.lt
   have h3:=P3.o.hi
   have h4:=HU.o.2
   omega
  have i6:=H3.o.1
  have it:dS ((u4.setCells tc 0 C).setCells w.heap.size 82 C) G (q6,X6):=by
   have i7:=((i6.keep H3.o.2.2.2.1 (by simp)).keep k5 (fun y hy=>by have:=hG y hy;simp;omega)).keep k6 (fun y hy=>by have:=hG y hy;simp;omega)
   rw[←hX6,←hq6]
   exact⟨_,_,_,_,_,rfl,⟨(HX.o.2.2.2.2.2.2 w G).rn,(HX.o.2.2.2.2.2.2 w G).an,(HX.o.2.2.2.2.2.2 _ G).re,(HX.o.2.2.2.2.2.2 _ G).ae,i7,(HX.o.2.2.2.2.2.2 _ G).vs,(HX.o.2.2.2.2.2.2 _ G).bs⟩⟩
  have nG:bP w ((u4.setCells tc 0 C).setCells w.heap.size 82 C) G:=fun y hy=>⟨by have:=hG y hy;omega,by
   have h1:=hG y hy;have h2:=HU.o.2;have h3:=H3.o.2.2.2.1.size;have h4:=k5.size;have h5:=k6.size
   omega⟩
  have HT:=aa (jZ (S:=S) P6 it.len it.one HV.o.2 (fun _=>⟨by rw[HV.o.1],G,by rw[HV.o.1,hq6];exact it,nG,fun y hy=>by have:=hG y hy;omega⟩))
  have HP:=aa (ah P6 (ah r5 (ah it.len (ah it.one HX.o.2.2.2.1))))
  clear P4 k5 P5 r5 ep P6 hX6 hq6 k6 htb hlo hG i6 it nG
  go_wp2_with (first
   |(refine wpList_load_mid rfl 31 (.tmp 11) rfl tc 0 rfl _ _ HP.o.2.1.rangeAll underlying31 rfl (by rw[HC.o.1];exact bS) ?_)
   |(refine wpList_store_mid rfl 31 (.tmp 70) (.tmp 69) rfl w.heap.size 82 C.toArray rfl rfl (HT2.o) (by rw[az,HC.o.1];exact bS) (all_oneCell_toArray HC.o.2) ?_)
   |(refine wpList_load_mid rfl 34 (.tmp 3) rfl w.heap.size 0 rfl _ _ HP.o.1.row.rangeAll underlying34 rfl (by rw[HP.o.2.2.1];exact aF) ?_)
   |(refine wpList_store_mid rfl 34 (.tmp 4) (.tmp 71) rfl rb 0 X6.toArray rfl rfl (HP.o.1.res.there (by rw[az,az,HP.o.2.2.1,HP.o.2.2.2.2];exact Nat.le_refl _)) (by rw[az,HP.o.2.2.1];exact aF) (all_oneCell_toArray HP.o.2.2.2.1) ?_))
  refine bodyPost_ret (aG rfl _ _ rb 34 _ (0,0) _ rfl (gM HP.o.2.2.1 HP.o.2.2.2.2 HP.o.1.res) underlying34 rfl (by rw[az,HP.o.2.2.1];exact aF)) rfl ?_
  exact HT.o
 ·have hB:=HBd.o he
  have HV:=aa hB
  have HN:=aa he
  have he':(r1.e !=0)=true:=by simp[he]
  clear he hB
  go_upto_region 4 with (first
   |(go_at_call 110;refine (aZ p g r1 _ P2.o.rd).mono ?_;rintro e wy ⟨rfl,rfl⟩))
  have Pd:=aa (P2.o.over ((ag.refl [] _).drew))
  have HF:=aa (ah HX.o.1 (ah HX.o.2.1 HX.o.2.2.2.1))
  have HT:=aa (jZ (S:=S) Pd.o HF.o.1 HF.o.2.1 HV.o (fun e0=>absurd e0 HN.o))
  refine wp_region_held_drew (S:=fun _=>True) (by kernel_rfl) trivial (fun _=> ?_)
  refine wpAnyH_ready (rs:=[0,1]) (by kernel_rfl) (by simp) ?_
  refine AllReadyH.cons (o:=⟨_,_,_,_,_,_⟩) rfl (fun K hK=> ?_) (bM rfl (fun K hK=> ?_))
  ·refine aU rfl 34 (.tmp 3) rfl w.heap.size 0 rfl X0 _ Pd.o.row.rangeAll underlying34 rfl (by rw[HF.o.1];exact aF) ?_
   refine hK.out _ _ trivial (fun _=> ?_)
   clear hK K
   try simp only[Act.put,aj,au,ax]
   refine wpAnyH_ready (rs:=[1]) (by kernel_rfl) (by simp) ?_
   refine bM rfl (fun K hK=> ?_)
   go_simp
   refine hK.out _ _ trivial (fun _=> ?_)
   clear hK K
   try simp only[Act.put,aj,au,ax]
   refine wpAnyH_ready (rs:=[2]) (by kernel_rfl) (by simp) ?_
   refine bM rfl (fun K hK=> ?_)
   go_simp
   refine (aZ p g r1 _ Pd.o.rd).mono ?_
   rintro e wy ⟨rfl,rfl⟩
   go_wp2_with fail
   refine hK.out _ _ trivial (fun _=> ?_)
   clear hK K
   try simp only[Act.put,aj,au,ax]
   refine wpAnyH_ready (rs:=[3]) (by kernel_rfl) (by simp) ?_
   refine bM rfl (fun K hK=> ?_)
   refine aO rfl 34 (.tmp 4) (.tmp 35) rfl rb 0 X0.toArray rfl rfl (Pd.o.res.there (by rw[az,az,HF.o.2.2,HF.o.1];exact Nat.le_refl _)) (by rw[az,HF.o.1];exact aF) (all_oneCell_toArray HF.o.2.1) ?_
   refine hK.out _ _ trivial (fun _=> ?_)
   clear hK K
   try simp only[Act.put,aj,au,ax]
   refine wpAnyH_ready (rs:=[4]) (by kernel_rfl) (by simp) ?_
   refine bM rfl (fun K hK=> ?_)
   go_simp
   refine hK.out _ _ trivial (fun _=> ?_)
   clear hK K
   try simp only[Act.put,aj,au,ax]
   refine wpAnyH_done (by kernel_rfl) ?_ _
   go_wp2_with fail
   refine bodyPost_ret (aG rfl _ _ rb 34 _ (0,0) _ rfl (gM HF.o.1 HF.o.2.2 Pd.o.res) underlying34 rfl (by rw[az,HF.o.1];exact aF)) rfl ?_
   exact HT.o
  ·go_simp
   refine hK.out _ _ trivial (fun _=> ?_)
   clear hK K
   try simp only[Act.put,aj,au,ax]
   refine wpAnyH_ready (rs:=[0,2]) (by kernel_rfl) (by simp) ?_
   refine AllReadyH.cons (o:=⟨_,_,_,_,_,_⟩) rfl (fun K hK=> ?_) (bM rfl (fun K hK=> ?_))
   ·refine aU rfl 34 (.tmp 3) rfl w.heap.size 0 rfl X0 _ Pd.o.row.rangeAll underlying34 rfl (by rw[HF.o.1];exact aF) ?_
    refine hK.out _ _ trivial (fun _=> ?_)
    clear hK K
    try simp only[Act.put,aj,au,ax]
    refine wpAnyH_ready (rs:=[2]) (by kernel_rfl) (by simp) ?_
    refine bM rfl (fun K hK=> ?_)
    go_simp
    refine (aZ p g r1 _ Pd.o.rd).mono ?_
    rintro e wy ⟨rfl,rfl⟩
    go_wp2_with fail
    refine hK.out _ _ trivial (fun _=> ?_)
    clear hK K
    try simp only[Act.put,aj,au,ax]
    refine wpAnyH_ready (rs:=[3]) (by kernel_rfl) (by simp) ?_
    refine bM rfl (fun K hK=> ?_)
    refine aO rfl 34 (.tmp 4) (.tmp 35) rfl rb 0 X0.toArray rfl rfl (Pd.o.res.there (by rw[az,az,HF.o.2.2,HF.o.1];exact Nat.le_refl _)) (by rw[az,HF.o.1];exact aF) (all_oneCell_toArray HF.o.2.1) ?_
    refine hK.out _ _ trivial (fun _=> ?_)
    clear hK K
    try simp only[Act.put,aj,au,ax]
    refine wpAnyH_ready (rs:=[4]) (by kernel_rfl) (by simp) ?_
    refine bM rfl (fun K hK=> ?_)
    go_simp
    refine hK.out _ _ trivial (fun _=> ?_)
    clear hK K
    try simp only[Act.put,aj,au,ax]
    refine wpAnyH_done (by kernel_rfl) ?_ _
    go_wp2_with fail
    refine bodyPost_ret (aG rfl _ _ rb 34 _ (0,0) _ rfl (gM HF.o.1 HF.o.2.2 Pd.o.res) underlying34 rfl (by rw[az,HF.o.1];exact aF)) rfl ?_
    exact HT.o
   ·go_simp
    refine (aZ p g r1 _ Pd.o.rd).mono ?_
    rintro e wy ⟨rfl,rfl⟩
    go_wp2_with fail
    refine hK.out _ _ trivial (fun _=> ?_)
    clear hK K
    try simp only[Act.put,aj,au,ax]
    refine wpAnyH_ready (rs:=[0]) (by kernel_rfl) (by simp) ?_
    refine bM rfl (fun K hK=> ?_)
    refine aU rfl 34 (.tmp 3) rfl w.heap.size 0 rfl X0 _ Pd.o.row.rangeAll underlying34 rfl (by rw[HF.o.1];exact aF) ?_
    refine hK.out _ _ trivial (fun _=> ?_)
    clear hK K
    try simp only[Act.put,aj,au,ax]
    refine wpAnyH_ready (rs:=[3]) (by kernel_rfl) (by simp) ?_
    refine bM rfl (fun K hK=> ?_)
    refine aO rfl 34 (.tmp 4) (.tmp 35) rfl rb 0 X0.toArray rfl rfl (Pd.o.res.there (by rw[az,az,HF.o.2.2,HF.o.1];exact Nat.le_refl _)) (by rw[az,HF.o.1];exact aF) (all_oneCell_toArray HF.o.2.1) ?_
    refine hK.out _ _ trivial (fun _=> ?_)
    clear hK K
    try simp only[Act.put,aj,au,ax]
    refine wpAnyH_ready (rs:=[4]) (by kernel_rfl) (by simp) ?_
    refine bM rfl (fun K hK=> ?_)
    go_simp
    refine hK.out _ _ trivial (fun _=> ?_)
    clear hK K
    try simp only[Act.put,aj,au,ax]
    refine wpAnyH_done (by kernel_rfl) ?_ _
    go_wp2_with fail
    refine bodyPost_ret (aG rfl _ _ rb 34 _ (0,0) _ rfl (gM HF.o.1 HF.o.2.2 Pd.o.res) underlying34 rfl (by rw[az,HF.o.1];exact aF)) rfl ?_
    exact HT.o
theorem bodyNo (p g:Nat) (q:PK) (r:RS) (w:World) (hk:q.kind=4∨q.kind=5∨q.kind=8∨q.kind=9∨q.kind=10∨q.kind=13∨q.kind=14) (hv:∀ wx F,gX wx F q ay ay ay ay ay) (hr:dL w p g r) (hb:r.l.length≤1000000):
 Calls prog 100 #[.pointer (some ⟨p,0,none⟩),.agg (bz q ay ay ay ay ay).toArray] w (iW (ji (aL q.kind) (q,r,0)) p g w):=by
 obtain⟨k0,hk0⟩:∃ k,q.kind=k:=⟨_,rfl⟩
 obtain⟨S,hS⟩:∃ s,ji (aL q.kind) (q,r,0)=s:=⟨_,rfl⟩
 obtain⟨X0,hX0⟩:∃ X,bz q ay ay ay ay ay=X:=⟨_,rfl⟩
 have xl:X0.length=87:=by rw[←hX0];exact bA (hv w []).rn (hv w []).an
 have xo:∀ u∈X0,u.oneCell'=true:=by rw[←hX0];exact dz rfl rfl rfl rfl rfl
 have xk:X0.toArray[0]? =some (.int .i64 k0):=by rw[←hX0,←hk0];rfl
 obtain⟨Z,hZ⟩:∃ Z,bz bO ay ay ay ay ay=Z:=⟨_,rfl⟩
 have zv:=jh
 have zl:=fQ
 rw[hZ] at zv zl
 have HS0:aH (S=(q,r,0)):=aa (by rw[←hS];exact bdS_no hk _)
 have HK1:aH (kG.contains k0=false):=aa (by rw[←hk0];rcases hk with h|h|h|h|h|h|h<;>rw[h]<;>rfl)
 have HK3:aH (gm.contains k0=false):=aa (by rw[←hk0];rcases hk with h|h|h|h|h|h|h<;>rw[h]<;>rfl)
 have b2:(k0==2)=false:=by rw[←hk0];rcases hk with h|h|h|h|h|h|h<;>rw[h]<;>rfl
 have b6:(k0==6)=false:=by rw[←hk0];rcases hk with h|h|h|h|h|h|h<;>rw[h]<;>rfl
 have b11:(k0==11)=false:=by rw[←hk0];rcases hk with h|h|h|h|h|h|h<;>rw[h]<;>rfl
 clear hk hk0
 rw[hS,hX0]
 obtain⟨w1,hw1⟩:∃ W,w.alloc (.cells X0.toArray 34)=W:=⟨_,rfl⟩
 obtain⟨rb,hrb⟩:∃ n,w1.heap.size=n:=⟨_,rfl⟩
 obtain⟨w2,hw2⟩:∃ W,w1.alloc (.cells Z.toArray 34)=W:=⟨_,rfl⟩
 have P0:=aa (mo.begin hr hw1 hw2 hrb)
 have HW:=aa (ah hw1 (ah hw2 (ah hrb zv)))
 have HX:=aa (ah xl (ah xo (ah xk (ah zl (ah hb (ah hX0 hv))))))
 have iX:(prog.info? 34).map (·.size)=some X0.length:=by rw[xl];exact aF
 have HI:=aa iX
 clear xl xo xk zv zl hr hw1 hw2 hrb hb iX hZ hX0 hS hv
 go_enter func100,ntmps100
 go_upto_region 1 with (first
  |(with_reducible refine aA _ _ rfl 34 (.tmp 1) rfl _ rfl HW.o.1 ?_)
  |(with_reducible refine aD _ _ rfl 34 rfl _ HW.o.2.2.2 HW.o.2.1 ?_;rw[HW.o.2.2.1]))
 have c0:=P0.o.at HX.o.2.2.1
 go_upto_region 2 with (first
  |(go_at_call 57;refine (iD k0 _).mono ?_;rintro e c1w ⟨rfl,k1⟩;rw[HK1.o];have P1:=aa (P0.o.over k1);have c1:=P1.o.at HX.o.2.2.1;clear k1)
  |(go_at_call 59;refine (kr k0 _).mono ?_;rintro e c2w ⟨rfl,k1⟩;rw[HK3.o];have P2:=aa (P1.o.over k1);have c2:=P2.o.at HX.o.2.2.1;clear k1))
 clear c0 c1
 go_upto_region 27 with fail
 clear c2
 have Pd:=aa (P2.o.over ((ag.refl [] _).drew))
 have HF:=aa (ah HX.o.1 (ah HX.o.2.1 HX.o.2.2.2.1))
 have HT:=aa (jZ (S:=S) Pd.o HF.o.1 HF.o.2.1 (show bD S.2.2 S.2.1.e=r.e by rw[HS0.o];rfl) (fun _=>⟨by rw[HS0.o],[],by rw[HS0.o,←HX.o.2.2.2.2.2.1];exact⟨_,_,_,_,_,rfl,HX.o.2.2.2.2.2.2 _ _⟩,by simp[bP],by simp⟩))
 refine wp_region_held_drew (S:=fun _=>True) (by kernel_rfl) trivial (fun _=> ?_)
 refine wpAnyH_ready (rs:=[0,1]) (by kernel_rfl) (by simp) ?_
 refine AllReadyH.cons (o:=⟨_,_,_,_,_,_⟩) rfl (fun K hK=> ?_) (bM rfl (fun K hK=> ?_))
 ·refine aU rfl 34 (.tmp 3) rfl w.heap.size 0 rfl X0 _ Pd.o.row.rangeAll underlying34 rfl (by rw[HF.o.1];exact aF) ?_
  refine hK.out _ _ trivial (fun _=> ?_)
  clear hK K
  try simp only[Act.put,aj,au,ax]
  refine wpAnyH_ready (rs:=[1]) (by kernel_rfl) (by simp) ?_
  refine bM rfl (fun K hK=> ?_)
  go_simp
  refine hK.out _ _ trivial (fun _=> ?_)
  clear hK K
  try simp only[Act.put,aj,au,ax]
  refine wpAnyH_ready (rs:=[2]) (by kernel_rfl) (by simp) ?_
  refine bM rfl (fun K hK=> ?_)
  go_simp
  refine (aZ p g r _ Pd.o.rd).mono ?_
  rintro e wy ⟨rfl,rfl⟩
  go_wp2_with fail
  refine hK.out _ _ trivial (fun _=> ?_)
  clear hK K
  try simp only[Act.put,aj,au,ax]
  refine wpAnyH_ready (rs:=[3]) (by kernel_rfl) (by simp) ?_
  refine bM rfl (fun K hK=> ?_)
  refine aO rfl 34 (.tmp 4) (.tmp 108) rfl rb 0 X0.toArray rfl rfl (Pd.o.res.there (by rw[az,az,HF.o.2.2,HF.o.1];exact Nat.le_refl _)) (by rw[az,HF.o.1];exact aF) (all_oneCell_toArray HF.o.2.1) ?_
  refine hK.out _ _ trivial (fun _=> ?_)
  clear hK K
  try simp only[Act.put,aj,au,ax]
  refine wpAnyH_ready (rs:=[4]) (by kernel_rfl) (by simp) ?_
  refine bM rfl (fun K hK=> ?_)
  go_simp
  refine hK.out _ _ trivial (fun _=> ?_)
  clear hK K
  try simp only[Act.put,aj,au,ax]
  refine wpAnyH_done (by kernel_rfl) ?_ _
  go_wp2_with fail
  refine bodyPost_ret (aG rfl _ _ rb 34 _ (0,0) _ rfl (gM HF.o.1 HF.o.2.2 Pd.o.res) underlying34 rfl (by rw[az,HF.o.1];exact aF)) rfl ?_
  exact HT.o
 ·go_simp
  refine hK.out _ _ trivial (fun _=> ?_)
  clear hK K
  try simp only[Act.put,aj,au,ax]
  refine wpAnyH_ready (rs:=[0,2]) (by kernel_rfl) (by simp) ?_
  refine AllReadyH.cons (o:=⟨_,_,_,_,_,_⟩) rfl (fun K hK=> ?_) (bM rfl (fun K hK=> ?_))
  ·refine aU rfl 34 (.tmp 3) rfl w.heap.size 0 rfl X0 _ Pd.o.row.rangeAll underlying34 rfl (by rw[HF.o.1];exact aF) ?_
   refine hK.out _ _ trivial (fun _=> ?_)
   clear hK K
   try simp only[Act.put,aj,au,ax]
   refine wpAnyH_ready (rs:=[2]) (by kernel_rfl) (by simp) ?_
   refine bM rfl (fun K hK=> ?_)
   go_simp
   refine (aZ p g r _ Pd.o.rd).mono ?_
   rintro e wy ⟨rfl,rfl⟩
   go_wp2_with fail
   refine hK.out _ _ trivial (fun _=> ?_)
   clear hK K
   try simp only[Act.put,aj,au,ax]
   refine wpAnyH_ready (rs:=[3]) (by kernel_rfl) (by simp) ?_
   refine bM rfl (fun K hK=> ?_)
   refine aO rfl 34 (.tmp 4) (.tmp 108) rfl rb 0 X0.toArray rfl rfl (Pd.o.res.there (by rw[az,az,HF.o.2.2,HF.o.1];exact Nat.le_refl _)) (by rw[az,HF.o.1];exact aF) (all_oneCell_toArray HF.o.2.1) ?_
   refine hK.out _ _ trivial (fun _=> ?_)
   clear hK K
   try simp only[Act.put,aj,au,ax]
   refine wpAnyH_ready (rs:=[4]) (by kernel_rfl) (by simp) ?_
   refine bM rfl (fun K hK=> ?_)
   go_simp
   refine hK.out _ _ trivial (fun _=> ?_)
   clear hK K
   try simp only[Act.put,aj,au,ax]
   refine wpAnyH_done (by kernel_rfl) ?_ _
   go_wp2_with fail
   refine bodyPost_ret (aG rfl _ _ rb 34 _ (0,0) _ rfl (gM HF.o.1 HF.o.2.2 Pd.o.res) underlying34 rfl (by rw[az,HF.o.1];exact aF)) rfl ?_
   exact HT.o
  ·go_simp
   refine (aZ p g r _ Pd.o.rd).mono ?_
   rintro e wy ⟨rfl,rfl⟩
   go_wp2_with fail
   refine hK.out _ _ trivial (fun _=> ?_)
   clear hK K
   try simp only[Act.put,aj,au,ax]
   refine wpAnyH_ready (rs:=[0]) (by kernel_rfl) (by simp) ?_
   refine bM rfl (fun K hK=> ?_)
   refine aU rfl 34 (.tmp 3) rfl w.heap.size 0 rfl X0 _ Pd.o.row.rangeAll underlying34 rfl (by rw[HF.o.1];exact aF) ?_
   refine hK.out _ _ trivial (fun _=> ?_)
   clear hK K
   try simp only[Act.put,aj,au,ax]
   refine wpAnyH_ready (rs:=[3]) (by kernel_rfl) (by simp) ?_
   refine bM rfl (fun K hK=> ?_)
   refine aO rfl 34 (.tmp 4) (.tmp 108) rfl rb 0 X0.toArray rfl rfl (Pd.o.res.there (by rw[az,az,HF.o.2.2,HF.o.1];exact Nat.le_refl _)) (by rw[az,HF.o.1];exact aF) (all_oneCell_toArray HF.o.2.1) ?_
   refine hK.out _ _ trivial (fun _=> ?_)
   clear hK K
   try simp only[Act.put,aj,au,ax]
   refine wpAnyH_ready (rs:=[4]) (by kernel_rfl) (by simp) ?_
   refine bM rfl (fun K hK=> ?_)
   go_simp
   refine hK.out _ _ trivial (fun _=> ?_)
   clear hK K
   try simp only[Act.put,aj,au,ax]
   refine wpAnyH_done (by kernel_rfl) ?_ _
   go_wp2_with fail
   refine bodyPost_ret (aG rfl _ _ rb 34 _ (0,0) _ rfl (gM HF.o.1 HF.o.2.2 Pd.o.res) underlying34 rfl (by rw[az,HF.o.1];exact aF)) rfl ?_
   exact HT.o
theorem bodyBs (p g:Nat) (q:PK) (r:RS) (w:World) (hk:q.kind=6) (hv:∀ wx F,gX wx F q ay ay ay ay ay) (hr:dL w p g r) (hb:r.l.length≤1000000):
 Calls prog 100 #[.pointer (some ⟨p,0,none⟩),.agg (bz q ay ay ay ay ay).toArray] w (iW (ji (aL q.kind) (q,r,0)) p g w):=by
 obtain⟨k0,hk0⟩:∃ k,q.kind=k:=⟨_,rfl⟩
 obtain⟨S,hS⟩:∃ s,ji (aL q.kind) (q,r,0)=s:=⟨_,rfl⟩
 obtain⟨X0,hX0⟩:∃ X,bz q ay ay ay ay ay=X:=⟨_,rfl⟩
 have xl:X0.length=87:=by rw[←hX0];exact bA (hv w []).rn (hv w []).an
 have xo:∀ u∈X0,u.oneCell'=true:=by rw[←hX0];exact dz rfl rfl rfl rfl rfl
 have xk:X0.toArray[0]? =some (.int .i64 k0):=by rw[←hX0,←hk0];rfl
 obtain⟨Z,hZ⟩:∃ Z,bz bO ay ay ay ay ay=Z:=⟨_,rfl⟩
 have zv:=jh
 have zl:=fQ
 rw[hZ] at zv zl
 obtain⟨t,r1,h1⟩:∃ t r1,r.text 32768=(t,r1):=⟨_,_,rfl⟩
 have s1:(r1.l≠[]→r.l≠[]):=by rw[show r1=(r.text 32768).2 by rw[h1]];exact dO
 have HS0:aH (S=({q with bytes:=t},r1,0)):=aa (by rw[←hS,show aL q.kind=aL 6 by rw[hk],Aj];show (({q with bytes:=(r.text 32768).1}:PK),(r.text 32768).2,(0:Int))=_;rw[h1])
 have HT1:=aa (ah h1 s1)
 have HK1:aH (kG.contains k0=false):=aa (by rw[←hk0,hk];rfl)
 have HK3:aH (gm.contains k0=false):=aa (by rw[←hk0,hk];rfl)
 have b2:(k0==2)=false:=by rw[←hk0,hk];rfl
 have b6:(k0==6)=true:=by rw[←hk0,hk];rfl
 have b11:(k0==11)=false:=by rw[←hk0,hk];rfl
 have HK0:=aa hk0
 clear h1 s1 hk hk0
 rw[hS,hX0]
 obtain⟨w1,hw1⟩:∃ W,w.alloc (.cells X0.toArray 34)=W:=⟨_,rfl⟩
 obtain⟨rb,hrb⟩:∃ n,w1.heap.size=n:=⟨_,rfl⟩
 obtain⟨w2,hw2⟩:∃ W,w1.alloc (.cells Z.toArray 34)=W:=⟨_,rfl⟩
 have P0:=aa (mo.begin hr hw1 hw2 hrb)
 have HW:=aa (ah hw1 (ah hw2 (ah hrb zv)))
 have HX:=aa (ah xl (ah xo (ah xk (ah zl (ah hb (ah hX0 hv))))))
 have iX:(prog.info? 34).map (·.size)=some X0.length:=by rw[xl];exact aF
 have HI:=aa iX
 clear xl xo xk zv zl hr hw1 hw2 hrb hb iX hZ hX0 hS hv
 go_enter func100,ntmps100
 go_upto_region 1 with (first
  |(with_reducible refine aA _ _ rfl 34 (.tmp 1) rfl _ rfl HW.o.1 ?_)
  |(with_reducible refine aD _ _ rfl 34 rfl _ HW.o.2.2.2 HW.o.2.1 ?_;rw[HW.o.2.2.1]))
 have c0:=P0.o.at HX.o.2.2.1
 go_upto_region 2 with (first
  |(go_at_call 57;refine (iD k0 _).mono ?_;rintro e c1w ⟨rfl,k1⟩;rw[HK1.o];have P1:=aa (P0.o.over k1);have c1:=P1.o.at HX.o.2.2.1;clear k1)
  |(go_at_call 59;refine (kr k0 _).mono ?_;rintro e c2w ⟨rfl,k1⟩;rw[HK3.o];have P2:=aa (P1.o.over k1);have c2:=P2.o.at HX.o.2.2.1;clear k1))
 clear c0 c1
 go_upto_region 18 with (first
  |(go_at_call 109;refine (iV p g r 32768 _ P2.o.rd (by have:=HX.o.2.2.2.2.1;omega)).mono ?_;intro e u2 hq;unfold iy at hq;rw[HT1.o.1] at hq;obtain⟨ue,rfl,hfr,hr,hk⟩:=hq;obtain⟨A6,c6,G6,rfl,hb6,hn6⟩:=hfr.gives;have P3:=aa (P2.o.read hr hk HT1.o.2);have B6:=aa (ah hb6 hn6);have y:u2.cell? ⟨w.heap.size,86,none⟩=some ay:=(by have hp:=P3.o.row;rw[←HX.o.2.2.2.2.2.1] at hp;exact (hp.pk (HX.o.2.2.2.2.2.2 w []).rn (HX.o.2.2.2.2.2.2 w []).an).d4);have y2:=P3.o.row.free 86;clear hr hk hfr hb6 hn6))
 clear c2
 obtain⟨q6,hq6⟩:∃ x,({q with bytes:=t}:PK)=x:=⟨_,rfl⟩
 obtain⟨X6,hX6⟩:∃ X,bz q6 ay ay ay ay (.slice A6 t.length c6)=X:=⟨_,rfl⟩
 have rn:=(HX.o.2.2.2.2.2.2 w []).rn
 have an:=(HX.o.2.2.2.2.2.2 w []).an
 have P4:=aa (P3.o.set 86 (.slice A6 t.length c6) (show X0.toArray.setIfInBounds 86 (.slice A6 t.length c6)=X6.toArray by rw[←HX.o.2.2.2.2.2.1,←hX6,←hq6];exact lY rn an _ _))
 have k6:ag [w.heap.size] u2 (u2.setCell ⟨w.heap.size,86,none⟩ (.slice A6 t.length c6)):=(ag.refl [w.heap.size] _).setCell _ _ (.inl (by simp))
 have hG:∀ y∈G6,rb<y:=fun y hy=>by have h1:=B6.o.2 y hy;have h2:=P2.o.res.lt;omega
 have hi:=P3.o.hi
 have it:dS (u2.setCell ⟨w.heap.size,86,none⟩ (.slice A6 t.length c6)) G6 (q6,X6):=by
  rw[←hX6,←hq6]
  exact⟨_,_,_,_,_,rfl,rn,an,(HX.o.2.2.2.2.2.2 _ G6).re,(HX.o.2.2.2.2.2.2 _ G6).ae,(HX.o.2.2.2.2.2.2 _ G6).cc,(HX.o.2.2.2.2.2.2 _ G6).vs,B6.o.1.keep k6 (fun y hy=>by have:=hG y hy;simp;omega)⟩
 have nG:bP w (u2.setCell ⟨w.heap.size,86,none⟩ (.slice A6 t.length c6)) G6:=fun y hy=>⟨by have:=hG y hy;omega,by have h1:=B6.o.2 y hy;have h2:=k6.size;omega⟩
 have IT:=aa (ah it (ah nG (fun y hy=>(by have:=hG y hy;omega:y≠rb))))
 have HS1:=aa (show S.1=q6 by rw[HS0.o];exact hq6)
 have c4:=P4.o.at (k:=0) (v:= .int .i64 k0) (by rw[←hX6,←hq6,←HK0.o];rfl)
 clear rn an k6 hG hi it nG hX6 hq6 y y2 P3 B6
 obtain⟨u4,hu4⟩:∃ W,u2.setCell ⟨w.heap.size,86,none⟩ (.slice A6 t.length c6)=W:=⟨_,rfl⟩
 rw[hu4] at P4 IT c4
 rw[hu4]
 clear hu4
 go_upto_region 27 with fail
 clear c4
 have Pd:=aa (P4.o.over ((ag.refl [] _).drew))
 have HF:=aa (ah IT.o.1.len (ah IT.o.1.one HX.o.2.2.2.1))
 have HT:=aa (jZ (S:=S) Pd.o HF.o.1 HF.o.2.1 (show bD S.2.2 S.2.1.e=r1.e by rw[HS0.o];rfl) (fun _=>⟨by rw[HS0.o],G6,by rw[HS1.o];exact IT.o.1.keep ((ag.refl [] _).drew) (by simp),fun y hy=>IT.o.2.1 y hy,IT.o.2.2⟩))
 refine wp_region_held_drew (S:=fun _=>True) (by kernel_rfl) trivial (fun _=> ?_)
 refine wpAnyH_ready (rs:=[0,1]) (by kernel_rfl) (by simp) ?_
 refine AllReadyH.cons (o:=⟨_,_,_,_,_,_⟩) rfl (fun K hK=> ?_) (bM rfl (fun K hK=> ?_))
 ·refine aU rfl 34 (.tmp 3) rfl w.heap.size 0 rfl X6 _ Pd.o.row.rangeAll underlying34 rfl (by rw[HF.o.1];exact aF) ?_
  refine hK.out _ _ trivial (fun _=> ?_)
  clear hK K
  try simp only[Act.put,aj,au,ax]
  refine wpAnyH_ready (rs:=[1]) (by kernel_rfl) (by simp) ?_
  refine bM rfl (fun K hK=> ?_)
  go_simp
  refine hK.out _ _ trivial (fun _=> ?_)
  clear hK K
  try simp only[Act.put,aj,au,ax]
  refine wpAnyH_ready (rs:=[2]) (by kernel_rfl) (by simp) ?_
  refine bM rfl (fun K hK=> ?_)
  go_simp
  refine (aZ p g r1 _ Pd.o.rd).mono ?_
  rintro e wy ⟨rfl,rfl⟩
  go_wp2_with fail
  refine hK.out _ _ trivial (fun _=> ?_)
  clear hK K
  try simp only[Act.put,aj,au,ax]
  refine wpAnyH_ready (rs:=[3]) (by kernel_rfl) (by simp) ?_
  refine bM rfl (fun K hK=> ?_)
  refine aO rfl 34 (.tmp 4) (.tmp 108) rfl rb 0 X6.toArray rfl rfl (Pd.o.res.there (by rw[az,az,HF.o.2.2,HF.o.1];exact Nat.le_refl _)) (by rw[az,HF.o.1];exact aF) (all_oneCell_toArray HF.o.2.1) ?_
  refine hK.out _ _ trivial (fun _=> ?_)
  clear hK K
  try simp only[Act.put,aj,au,ax]
  refine wpAnyH_ready (rs:=[4]) (by kernel_rfl) (by simp) ?_
  refine bM rfl (fun K hK=> ?_)
  go_simp
  refine hK.out _ _ trivial (fun _=> ?_)
  clear hK K
  try simp only[Act.put,aj,au,ax]
  refine wpAnyH_done (by kernel_rfl) ?_ _
  go_wp2_with fail
  refine bodyPost_ret (aG rfl _ _ rb 34 _ (0,0) _ rfl (gM HF.o.1 HF.o.2.2 Pd.o.res) underlying34 rfl (by rw[az,HF.o.1];exact aF)) rfl ?_
  exact HT.o
 ·go_simp
  refine hK.out _ _ trivial (fun _=> ?_)
  clear hK K
  try simp only[Act.put,aj,au,ax]
  refine wpAnyH_ready (rs:=[0,2]) (by kernel_rfl) (by simp) ?_
  refine AllReadyH.cons (o:=⟨_,_,_,_,_,_⟩) rfl (fun K hK=> ?_) (bM rfl (fun K hK=> ?_))
  ·refine aU rfl 34 (.tmp 3) rfl w.heap.size 0 rfl X6 _ Pd.o.row.rangeAll underlying34 rfl (by rw[HF.o.1];exact aF) ?_
   refine hK.out _ _ trivial (fun _=> ?_)
   clear hK K
   try simp only[Act.put,aj,au,ax]
   refine wpAnyH_ready (rs:=[2]) (by kernel_rfl) (by simp) ?_
   refine bM rfl (fun K hK=> ?_)
   go_simp
   refine (aZ p g r1 _ Pd.o.rd).mono ?_
   rintro e wy ⟨rfl,rfl⟩
   go_wp2_with fail
   refine hK.out _ _ trivial (fun _=> ?_)
   clear hK K
   try simp only[Act.put,aj,au,ax]
   refine wpAnyH_ready (rs:=[3]) (by kernel_rfl) (by simp) ?_
   refine bM rfl (fun K hK=> ?_)
   refine aO rfl 34 (.tmp 4) (.tmp 108) rfl rb 0 X6.toArray rfl rfl (Pd.o.res.there (by rw[az,az,HF.o.2.2,HF.o.1];exact Nat.le_refl _)) (by rw[az,HF.o.1];exact aF) (all_oneCell_toArray HF.o.2.1) ?_
   refine hK.out _ _ trivial (fun _=> ?_)
   clear hK K
   try simp only[Act.put,aj,au,ax]
   refine wpAnyH_ready (rs:=[4]) (by kernel_rfl) (by simp) ?_
   refine bM rfl (fun K hK=> ?_)
   go_simp
   refine hK.out _ _ trivial (fun _=> ?_)
   clear hK K
   try simp only[Act.put,aj,au,ax]
   refine wpAnyH_done (by kernel_rfl) ?_ _
   go_wp2_with fail
   refine bodyPost_ret (aG rfl _ _ rb 34 _ (0,0) _ rfl (gM HF.o.1 HF.o.2.2 Pd.o.res) underlying34 rfl (by rw[az,HF.o.1];exact aF)) rfl ?_
   exact HT.o
  ·go_simp
   refine (aZ p g r1 _ Pd.o.rd).mono ?_
   rintro e wy ⟨rfl,rfl⟩
   go_wp2_with fail
   refine hK.out _ _ trivial (fun _=> ?_)
   clear hK K
   try simp only[Act.put,aj,au,ax]
   refine wpAnyH_ready (rs:=[0]) (by kernel_rfl) (by simp) ?_
   refine bM rfl (fun K hK=> ?_)
   refine aU rfl 34 (.tmp 3) rfl w.heap.size 0 rfl X6 _ Pd.o.row.rangeAll underlying34 rfl (by rw[HF.o.1];exact aF) ?_
   refine hK.out _ _ trivial (fun _=> ?_)
   clear hK K
   try simp only[Act.put,aj,au,ax]
   refine wpAnyH_ready (rs:=[3]) (by kernel_rfl) (by simp) ?_
   refine bM rfl (fun K hK=> ?_)
   refine aO rfl 34 (.tmp 4) (.tmp 108) rfl rb 0 X6.toArray rfl rfl (Pd.o.res.there (by rw[az,az,HF.o.2.2,HF.o.1];exact Nat.le_refl _)) (by rw[az,HF.o.1];exact aF) (all_oneCell_toArray HF.o.2.1) ?_
   refine hK.out _ _ trivial (fun _=> ?_)
   clear hK K
   try simp only[Act.put,aj,au,ax]
   refine wpAnyH_ready (rs:=[4]) (by kernel_rfl) (by simp) ?_
   refine bM rfl (fun K hK=> ?_)
   go_simp
   refine hK.out _ _ trivial (fun _=> ?_)
   clear hK K
   try simp only[Act.put,aj,au,ax]
   refine wpAnyH_done (by kernel_rfl) ?_ _
   go_wp2_with fail
   refine bodyPost_ret (aG rfl _ _ rb 34 _ (0,0) _ rfl (gM HF.o.1 HF.o.2.2 Pd.o.res) underlying34 rfl (by rw[az,HF.o.1];exact aF)) rfl ?_
   exact HT.o
end Go.Proofs.YthfdkonhjpdflaaGreatDoor
