import Derived.Test.YthfdkonhjpdflaaGreatDoorGR5
namespace Go.Proofs.YthfdkonhjpdflaaGreatDoor
open Go.RowKit Go.Proofs.Tryz
set_option linter.unusedVariables false
set_option maxRecDepth 100000
set_option linter.unusedSimpArgs false
theorem sM {r:RS} (h:r.e≠0) (n:Int):(r.text n).2=r:=by
 unfold RS.text RS.count
 rw[if_neg h]
 show (r.raw 0).2=r
 unfold RS.raw
 rw[if_neg (by omega)]
 show r.past _=r
 unfold RS.past
 rw[if_neg h]
theorem num_e {r:RS} (h:r.e≠0):r.num 1=(0,r):=by
 unfold RS.num
 rw[if_pos (show FI 1=true from rfl),if_neg (by rw[RS.took_iff];exact fun hh=>h hh.1)]
 unfold RS.past
 rw[if_neg h]
theorem count_e {r:RS} (h:r.e≠0) (n:Int):r.count n=(0,r):=by unfold RS.count;rw[if_neg h]
theorem rpRq_e {r:RS} (h:r.e≠0):(sD r 0).2=(r,0):=by
 unfold sD R8
 rw[sM h,if_pos rfl,if_neg h]
theorem rpAn_e {r:RS} (h:r.e≠0):(rD r 0).2=(r,0):=by
 unfold rD R8
 rw[sM h,if_pos rfl,if_neg h]
theorem rpCf_e {r:RS} (h:r.e≠0):(yB r 0).2=(r,0):=by
 unfold yB R8
 rw[sM h,if_pos rfl,if_neg h]
theorem JW {r:RS} (h:r.e≠0):(dD r 0).2=(r,0):=by
 unfold dD
 rw[num_e h]
 rfl
theorem f5_e {h:Int} {s:SF} (he:s.2.1.e≠0) (hp:s.2.2=0):(f5 h s).2=s.2:=by
 unfold f5;split
 ·rfl
 ·rw[hp];show (sD s.2.1 0).2=s.2;rw[rpRq_e he];exact Prod.ext rfl hp.symm
theorem f6_e {h:Int} {s:SF} (he:s.2.1.e≠0) (hp:s.2.2=0):(f6 h s).2=s.2:=by
 unfold f6;split
 ·rfl
 ·rw[hp];show (rD s.2.1 0).2=s.2;rw[rpAn_e he];exact Prod.ext rfl hp.symm
theorem f7_e {h:Int} {s:SF} (he:s.2.1.e≠0) (hp:s.2.2=0):(f7 h s).2=s.2:=by
 unfold f7;split
 ·rfl
 ·rw[hp];show (yB s.2.1 0).2=s.2;rw[rpCf_e he];exact Prod.ext rfl hp.symm
theorem f8_e {h:Int} {s:SF} (he:s.2.1.e≠0) (hp:s.2.2=0):(f8 h s).2=s.2:=by
 unfold f8;split
 ·rfl
 ·rw[hp];show (dD s.2.1 0).2=s.2;rw[JW he];exact Prod.ext rfl hp.symm
theorem f9_e {h:Int} {s:SF} (he:s.2.1.e≠0) (hp:s.2.2=0):(f9 h s).2=s.2:=by
 unfold f9;split
 ·rfl
 ·show ((s.2.1.text 32768).2,s.2.2)=s.2;rw[sM he]
def OE (h:Int) (s:SF):SF:=f9 h (f8 h (f7 h (f6 h (f5 h s))))
theorem bdS_e {h:Int} {s:SF} (he:s.2.1.e≠0) (hp:s.2.2=0):(OE h s).2=s.2:=by
 unfold OE
 have e5:=f5_e (h:=h) he hp
 have e6:=f6_e (h:=h) (s:=f5 h s) (by rw[e5];exact he) (by rw[e5];exact hp)
 have e7:=f7_e (h:=h) (s:=f6 h (f5 h s)) (by rw[e6,e5];exact he) (by rw[e6,e5];exact hp)
 have e8:=f8_e (h:=h) (s:=f7 h (f6 h (f5 h s))) (by rw[e7,e6,e5];exact he) (by rw[e7,e6,e5];exact hp)
 have e9:=f9_e (h:=h) (s:=f8 h (f7 h (f6 h (f5 h s)))) (by rw[e8,e7,e6,e5];exact he) (by rw[e8,e7,e6,e5];exact hp)
 rw[e9,e8,e7,e6,e5]
theorem EP (b:List UInt8):AR b=OE (l6 (TD b).kind) (XC b):=rfl
theorem iQ (b:List UInt8):0≤(TD b).kind∧(TD b).kind≤255:=bD _
theorem f1_p {h:Int} {s:SF}:(f1 h s).2.2=s.2.2:=by unfold f1;split<;>rfl
theorem f2_p {h:Int} {s:SF}:(f2 h s).2.2=s.2.2:=by unfold f2;split<;>rfl
theorem f3_p {h:Int} {s:SF}:(f3 h s).2.2=s.2.2:=by unfold f3;split<;>rfl
theorem OV {b:List UInt8} (h:(XC b).2.2≠0):(TD b).kind=8:=by
 by_cases hb:U6 (l6 (TD b).kind) 8=0
 ·exfalso
  unfold XC f4 at h
  rw[if_pos hb,f3_p,f2_p,f1_p] at h
  exact h rfl
 ·have h1:=(EI (iQ b)).2.2.2.1
  rw[show (U6 (l6 (TD b).kind) 8 !=0)=true by simp[hb]] at h1
  simpa using h1
theorem bdS_8 (s:SF):OE (l6 8) s=s:=by
 unfold OE f9 f8 f7 f6 f5
 rw[if_pos (show U6 (l6 8) 16=0 by kernel_rfl),if_pos (show U6 (l6 8) 32=0 by kernel_rfl),if_pos (show U6 (l6 8) 64=0 by kernel_rfl),if_pos (show U6 (l6 8) 128=0 by kernel_rfl),if_pos (show U6 (l6 8) 256=0 by kernel_rfl)]
theorem aJ {b:List UInt8} (h:vF b≠0):AA b=(G9,vF b):=by
 unfold AA
 unfold vF at h ⊢
 by_cases c:(fP b).e=0∧l6 (TD b).kind=0
 ·rw[if_pos c,if_pos c]
 ·rw[if_neg c] at h
  rw[if_neg c,if_neg c]
  have e:(AR b).2=(XC b).2:=by
   rw[EP]
   by_cases hp:(XC b).2.2=0
   ·refine bdS_e ?_ hp
    unfold R8 at h
    rwa [if_pos hp] at h
   ·rw[OV hp,bdS_8]
  rw[e,if_pos h]
theorem XH {b:List UInt8} (h:vF b=0) (h2:R8 (OE (l6 (TD b).kind) (XC b)).2.2 (OE (l6 (TD b).kind) (XC b)).2.1.e≠0):AA b=(G9,R8 (OE (l6 (TD b).kind) (XC b)).2.2 (OE (l6 (TD b).kind) (XC b)).2.1.e):=by
 unfold AA
 unfold vF at h
 by_cases c:(fP b).e=0∧l6 (TD b).kind=0
 ·rw[if_pos c] at h;cases h
 ·rw[if_neg c,EP,if_pos h2]
theorem mG {b:List UInt8} (h:vF b=0) (h2:R8 (OE (l6 (TD b).kind) (XC b)).2.2 (OE (l6 (TD b).kind) (XC b)).2.1.e=0):AA b=(eL (zA (OE (l6 (TD b).kind) (XC b)).2.1.end_ (OE (l6 (TD b).kind) (XC b)).1.ok) (OE (l6 (TD b).kind) (XC b)).1 G9,zA (OE (l6 (TD b).kind) (XC b)).2.1.end_ (OE (l6 (TD b).kind) (XC b)).1.ok):=by
 unfold AA
 unfold vF at h
 by_cases c:(fP b).e=0∧l6 (TD b).kind=0
 ·rw[if_pos c] at h;cases h
 ·rw[if_neg c,EP,if_neg (fun hh=>hh h2)]
theorem hd_in {b:List UInt8} (h:vF b=0):1≤(TD b).kind∧(TD b).kind≤14:=by
 by_cases hc:1≤(TD b).kind∧(TD b).kind≤14
 ·exact hc
 exfalso
 have hf:=(EI (iQ b)).2.2.2.2.2 (eB hc)
 have hs:XC b=(TD b,fP b,0):=by
  unfold XC
  rw[hf]
  unfold f4 f3 f2 f1
  rw[if_pos (show U6 0 1=0 by kernel_rfl),if_pos (show U6 0 2=0 by kernel_rfl),if_pos (show U6 0 4=0 by kernel_rfl),if_pos (show U6 0 8=0 by kernel_rfl)]
 unfold vF at h
 by_cases c:(fP b).e=0∧l6 (TD b).kind=0
 ·rw[if_pos c] at h;cases h
 ·rw[if_neg c,hs] at h
  unfold R8 at h
  rw[if_pos rfl] at h
  exact c ⟨h,hf⟩
theorem UM {most:Int} (hm:0≤most):∀ (l:List UInt8) (s n:Nat),(iG most l s n).1≤most
 |[],s,n=>hm
 |b::t,s,n=>by
  unfold iG
  split
  ·exact hm
  ·split
   ·split
    ·exact hm
    ·split
     ·exact hm
     ·rename_i h;exact Int.not_lt.1 h
   ·split
    ·exact hm
    ·exact UM hm t _ _
theorem WO (r:RS) {n:Int} (hn:0≤n):(r.count n).1≤n:=by
 unfold RS.count;split
 ·exact UM hn _ _ _
 ·exact hn
theorem NI (r:RS) (n:Int) (hn:0≤n):(r.text n).1.length≤n.toNat:=by
 have h:=RS.count_range r n
 have h2:=WO r hn
 unfold RS.text RS.raw
 split
 ·simp
 ·unfold RS.take
  split
  ·rw[List.length_take];omega
  ·simp
theorem AV {h:Int} {s:SF} (hl:(f5 h s).2.1.l≠[]):s.2.1.l≠[]:=by
 unfold f5 at hl;split at hl
 ·exact hl
 ·exact zL hl
theorem DV {h:Int} {s:SF} (hl:(f6 h s).2.1.l≠[]):s.2.1.l≠[]:=by
 unfold f6 at hl;split at hl
 ·exact hl
 ·exact yL hl
theorem IV {h:Int} {s:SF} (hl:(f7 h s).2.1.l≠[]):s.2.1.l≠[]:=by
 unfold f7 at hl;split at hl
 ·exact hl
 ·exact dG hl
theorem KV {h:Int} {s:SF} (hl:(f8 h s).2.1.l≠[]):s.2.1.l≠[]:=by
 unfold f8 at hl;split at hl
 ·exact hl
 ·exact fK hl
theorem MV {h:Int} {s:SF} (hl:(f9 h s).2.1.l≠[]):s.2.1.l≠[]:=by
 unfold f9 at hl;split at hl
 ·exact hl
 ·exact cB hl
theorem SS {h:Int} {s:SF} (hl:(OE h s).2.1.l≠[]):s.2.1.l≠[]:=AV (DV (IV (KV (MV hl))))
theorem DU (r:RS) (part:Int):(sD r part).1.env.length≤1024:=by
 unfold sD
 split
 ·unfold JA eL
  dsimp only
  split
  ·exact NI _ 1024 (by decide)
  ·simp[I7]
 ·simp[I7]
theorem AU (r:RS) (part:Int):(rD r part).1.env.length≤1024:=by
 unfold rD
 split
 ·unfold IA eL
  dsimp only
  split
  ·exact NI _ 1024 (by decide)
  ·simp[l8]
 ·simp[l8]
theorem cK (r:RS) (part:Int):(yB r part).1.chain.length≤5:=by
 unfold yB
 split
 ·unfold dA eL
  dsimp only
  split
  ·show (jE _ _).1.length≤5
   rw[YH];unfold XW nV;split<;>omega
  ·simp[V7]
 ·simp[V7]
theorem XJ:∀ (k:Nat) (acc:List VT) (r:RS) (part:Int),(∀ v∈acc,v.conf.chain.length≤5)→(zF k acc r part).1.length≤acc.length+k∧∀ v∈(zF k acc r part).1,v.conf.chain.length≤5
 |0,acc,r,part,h=>⟨Nat.le_refl _,h⟩
 |k+1,acc,r,part,h=>by
  unfold zF
  split
  ·have:=XJ k (acc++[⟨(r.count 9007199254740991).1,(yB (r.count 9007199254740991).2 part).1⟩]) (yB (r.count 9007199254740991).2 part).2.1 (yB (r.count 9007199254740991).2 part).2.2 (fun v hv=>by
    rcases List.mem_append.1 hv with hv|hv
    ·exact h v hv
    ·rw[List.mem_singleton.1 hv];exact cK _ _)
   refine⟨by have h1:=this.1;simp at h1;omega,this.2⟩
  ·exact⟨by simp,by simp⟩
theorem iJ (r:RS) (part:Int):(dD r part).1.length≤9∧∀ v∈(dD r part).1,v.conf.chain.length≤5:=by
 have h:=XJ (UW (r.num 1).1) [] (r.num 1).2 part (by simp)
 refine⟨Nat.le_trans h.1 ?_,h.2⟩
 unfold UW
 simp
 split<;>omega
theorem nC:G9.fits:=⟨by simp[G9,I7],by simp[G9,l8],by simp[G9,V7],by simp[G9],by simp[G9],by simp[G9]⟩
theorem ZT (b:List UInt8):(TD b).fits:=⟨nC.e,nC.a,nC.c,nC.v,nC.vc,nC.b⟩
theorem vV {h:Int} {s:SF} (hf:s.1.fits):(f1 h s).1.fits:=by
 unfold f1;split
 ·exact hf
 ·exact⟨hf.e,hf.a,hf.c,hf.v,hf.vc,hf.b⟩
theorem wV {h:Int} {s:SF} (hf:s.1.fits):(f2 h s).1.fits:=by
 unfold f2;split
 ·exact hf
 ·exact⟨hf.e,hf.a,hf.c,hf.v,hf.vc,hf.b⟩
theorem xV {h:Int} {s:SF} (hf:s.1.fits):(f3 h s).1.fits:=by
 unfold f3;split
 ·exact hf
 ·exact⟨hf.e,hf.a,hf.c,hf.v,hf.vc,hf.b⟩
theorem yV {h:Int} {s:SF} (hf:s.1.fits):(f4 h s).1.fits:=by
 unfold f4;split
 ·exact hf
 ·exact⟨hf.e,hf.a,hf.c,hf.v,hf.vc,hf.b⟩
theorem zV {h:Int} {s:SF} (hf:s.1.fits):(f5 h s).1.fits:=by
 unfold f5;split
 ·exact hf
 ·exact⟨Nat.le_trans (DU _ _) (by omega),hf.a,hf.c,hf.v,hf.vc,hf.b⟩
theorem CV {h:Int} {s:SF} (hf:s.1.fits):(f6 h s).1.fits:=by
 unfold f6;split
 ·exact hf
 ·exact⟨hf.e,Nat.le_trans (AU _ _) (by omega),hf.c,hf.v,hf.vc,hf.b⟩
theorem FV {h:Int} {s:SF} (hf:s.1.fits):(f7 h s).1.fits:=by
 unfold f7;split
 ·exact hf
 ·exact⟨hf.e,hf.a,Nat.le_trans (cK _ _) (by omega),hf.v,hf.vc,hf.b⟩
theorem JV {h:Int} {s:SF} (hf:s.1.fits):(f8 h s).1.fits:=by
 unfold f8;split
 ·exact hf
 ·exact⟨hf.e,hf.a,hf.c,Nat.le_trans (iJ _ _).1 (by omega),fun v hv=>Nat.le_trans ((iJ _ _).2 v hv) (by omega),hf.b⟩
theorem LV {h:Int} {s:SF} (hf:s.1.fits):(f9 h s).1.fits:=by
 unfold f9;split
 ·exact hf
 ·exact⟨hf.e,hf.a,hf.c,hf.v,hf.vc,Nat.le_trans (NI _ 32768 (by decide)) (by decide)⟩
theorem zM {h:Int} {s:SF} (hf:s.1.fits):(OE h s).1.fits:=LV (JV (FV (CV (zV hf))))
theorem yN (b:List UInt8):(XC b).1.fits:=yV (xV (wV (vV (ZT b))))
theorem kR (b:List UInt8):(XC b).1.kind=(TD b).kind∧∀ w F,wD w F (XC b).1 I4 I4 I4 I4 I4:=by
 have p0:∀ s:SF,(s.1.req=I7∧s.1.ans=l8∧s.1.conf=V7∧s.1.votes=[]∧s.1.bytes=[]∧s.1.kind=(TD b).kind)→∀ h,((f1 h s).1.req=I7∧(f1 h s).1.ans=l8∧(f1 h s).1.conf=V7∧(f1 h s).1.votes=[]∧(f1 h s).1.bytes=[]∧(f1 h s).1.kind=(TD b).kind)∧((f2 h s).1.req=I7∧(f2 h s).1.ans=l8∧(f2 h s).1.conf=V7∧(f2 h s).1.votes=[]∧(f2 h s).1.bytes=[]∧(f2 h s).1.kind=(TD b).kind)∧((f3 h s).1.req=I7∧(f3 h s).1.ans=l8∧(f3 h s).1.conf=V7∧(f3 h s).1.votes=[]∧(f3 h s).1.bytes=[]∧(f3 h s).1.kind=(TD b).kind)∧((f4 h s).1.req=I7∧(f4 h s).1.ans=l8∧(f4 h s).1.conf=V7∧(f4 h s).1.votes=[]∧(f4 h s).1.bytes=[]∧(f4 h s).1.kind=(TD b).kind):=by
  intro s hs h
  refine⟨?_,?_,?_,?_⟩
  ·unfold f1;split<;>exact hs
  ·unfold f2;split<;>exact hs
  ·unfold f3;split<;>exact hs
  ·unfold f4;split<;>exact hs
 have h0:=(p0 (TD b,fP b,0) ⟨rfl,rfl,rfl,rfl,rfl,rfl⟩ (l6 (TD b).kind)).1
 have h1:=(p0 _ h0 (l6 (TD b).kind)).2.1
 have h2:=(p0 _ h1 (l6 (TD b).kind)).2.2.1
 have h3:=(p0 _ h2 (l6 (TD b).kind)).2.2.2
 obtain⟨e1,e2,e3,e4,e5,e6⟩:(XC b).1.req=I7∧(XC b).1.ans=l8∧(XC b).1.conf=V7∧(XC b).1.votes=[]∧(XC b).1.bytes=[]∧(XC b).1.kind=(TD b).kind:=h3
 have z:=fun w F=>mE w F
 refine⟨e6,fun w F=>⟨by rw[e1];exact j6,by rw[e2];exact F6,by rw[e1];exact (z w F).re,by rw[e2];exact (z w F).ae,by rw[e3];exact (z w F).cc,by rw[e4];exact (z w F).vs,by rw[e5];exact (z w F).bs⟩⟩
theorem jN {h:Int} {s:SF} (hb:U6 h 16=0):f5 h s=s:=by unfold f5;rw[if_pos hb]
theorem lN {h:Int} {s:SF} (hb:U6 h 32=0):f6 h s=s:=by unfold f6;rw[if_pos hb]
theorem nN {h:Int} {s:SF} (hb:U6 h 64=0):f7 h s=s:=by unfold f7;rw[if_pos hb]
theorem qN {h:Int} {s:SF} (hb:U6 h 128=0):f8 h s=s:=by unfold f8;rw[if_pos hb]
theorem sN {h:Int} {s:SF} (hb:U6 h 256=0):f9 h s=s:=by unfold f9;rw[if_pos hb]
theorem TS {k:Int} (hk:k=1∨k=3) (s:SF):OE (l6 k) s=({s.1 with req:=(sD s.2.1 s.2.2).1},(sD s.2.1 s.2.2).2.1,(sD s.2.1 s.2.2).2.2):=by
 unfold OE
 obtain rfl|rfl:=hk
 all_goals
  rw[sN (by kernel_rfl),qN (by kernel_rfl),nN (by kernel_rfl),lN (by kernel_rfl)]
  unfold f5
 ·rw[if_neg (by rw[show U6 (l6 1) 16=16 by kernel_rfl];decide)]
 ·rw[if_neg (by rw[show U6 (l6 3) 16=16 by kernel_rfl];decide)]
theorem NS (s:SF):OE (l6 2) s=({s.1 with ans:=(rD s.2.1 s.2.2).1},(rD s.2.1 s.2.2).2.1,(rD s.2.1 s.2.2).2.2):=by
 unfold OE
 rw[sN (by kernel_rfl),qN (by kernel_rfl),nN (by kernel_rfl),jN (by kernel_rfl)]
 unfold f6
 rw[if_neg (by rw[show U6 (l6 2) 32=32 by kernel_rfl];decide)]
theorem QS {k:Int} (hk:k=7∨k=12) (s:SF):OE (l6 k) s=({s.1 with conf:=(yB s.2.1 s.2.2).1},(yB s.2.1 s.2.2).2.1,(yB s.2.1 s.2.2).2.2):=by
 unfold OE
 obtain rfl|rfl:=hk
 all_goals
  rw[sN (by kernel_rfl),qN (by kernel_rfl),jN (by kernel_rfl),lN (by kernel_rfl)]
  unfold f7
 ·rw[if_neg (by rw[show U6 (l6 7) 64=64 by kernel_rfl];decide)]
 ·rw[if_neg (by rw[show U6 (l6 12) 64=64 by kernel_rfl];decide)]
theorem bdS_vs (s:SF):OE (l6 11) s=({s.1 with votes:=(dD s.2.1 s.2.2).1},(dD s.2.1 s.2.2).2.1,(dD s.2.1 s.2.2).2.2):=by
 unfold OE
 rw[sN (by kernel_rfl),nN (by kernel_rfl),lN (by kernel_rfl),jN (by kernel_rfl)]
 unfold f8
 rw[if_neg (by rw[show U6 (l6 11) 128=128 by kernel_rfl];decide)]
theorem PS (s:SF):OE (l6 6) s=({s.1 with bytes:=(s.2.1.text 32768).1},(s.2.1.text 32768).2,s.2.2):=by
 unfold OE
 rw[qN (by kernel_rfl),nN (by kernel_rfl),lN (by kernel_rfl),jN (by kernel_rfl)]
 unfold f9
 rw[if_neg (by rw[show U6 (l6 6) 256=256 by kernel_rfl];decide)]
theorem bdS_no {k:Int} (hk:k=4∨k=5∨k=8∨k=9∨k=10∨k=13∨k=14) (s:SF):OE (l6 k) s=s:=by
 unfold OE
 obtain rfl|rfl|rfl|rfl|rfl|rfl|rfl:=hk
 all_goals rw[sN (by kernel_rfl),qN (by kernel_rfl),nN (by kernel_rfl),lN (by kernel_rfl),jN (by kernel_rfl)]
theorem hdE_no {b:List UInt8} (h:vF b=0):(XC b).2.2=0∧(XC b).2.1.e=0:=by
 unfold vF R8 at h
 split at h
 ·cases h
 ·by_cases hp:(XC b).2.2=0
  ·rw[if_pos hp] at h;exact⟨hp,h⟩
  ·rw[if_neg hp] at h;exact absurd h hp
theorem tN {a e:Int} (h:R8 a e=0):a=0∧e=0:=by
 unfold R8 at h
 by_cases ha:a=0
 ·rw[if_pos ha] at h;exact⟨ha,h⟩
 ·rw[if_neg ha] at h;exact absurd h ha
theorem GJ {a e:Int} (h:e=0):R8 a e=a:=by
 unfold R8;split
 ·rename_i h0;rw[h,h0]
 ·rfl
theorem NR {r r1:RS} {t:List UInt8} (h:r.text 2048=(t,r1)) (he:r1.e=0):sD r 0=((JA t).1,r1,(JA t).2):=by
 unfold sD;rw[h];exact if_pos he
theorem CU {r r1:RS} {t:List UInt8} (h:r.text 2048=(t,r1)) (he:r1.e≠0):sD r 0=(I7,r1,0):=by
 unfold sD;rw[h];exact if_neg he
theorem KR {r r1:RS} {t:List UInt8} (h:r.text 2048=(t,r1)) (he:r1.e=0):rD r 0=((IA t).1,r1,(IA t).2):=by
 unfold rD;rw[h];exact if_pos he
theorem zU {r r1:RS} {t:List UInt8} (h:r.text 2048=(t,r1)) (he:r1.e≠0):rD r 0=(l8,r1,0):=by
 unfold rD;rw[h];exact if_neg he
theorem MR {r r1:RS} {t:List UInt8} (h:r.text 2048=(t,r1)) (he:r1.e=0):yB r 0=((dA t).1,r1,(dA t).2):=by
 unfold yB;rw[h];exact if_pos he
theorem BU {r r1:RS} {t:List UInt8} (h:r.text 2048=(t,r1)) (he:r1.e≠0):yB r 0=(V7,r1,0):=by
 unfold yB;rw[h];exact if_neg he
theorem EW {k:Nat} {acc:List VT} {r:RS} (h:(uI r).2.2=0):zF (k+1) acc r 0=zF k (acc++[(uI r).1]) (uI r).2.1 0:=by
 have h2:R8 (yB (r.count 9007199254740991).2 0).2.2 (yB (r.count 9007199254740991).2 0).2.1.e=0:=h
 rw[zF,if_pos h2,(tN h2).1]
 rfl
theorem GR {k:Nat} {acc:List VT} {r:RS} (h:(uI r).2.2≠0):R8 (zF (k+1) acc r 0).2.2 (zF (k+1) acc r 0).2.1.e=(uI r).2.2:=by
 have h2: ¬R8 (yB (r.count 9007199254740991).2 0).2.2 (yB (r.count 9007199254740991).2 0).2.1.e=0:=h
 rw[zF,if_neg h2]
 rfl
theorem NU {r:RS} (h:(uI r).2.1.l≠[]):r.l≠[]:=W9 (dG h)
theorem yS (r:RS):(uI r).2.1.l.length≤r.l.length:=by
 show (yB (r.count 9007199254740991).2 0).2.1.l.length≤_
 refine Nat.le_trans ?_ (RS.count_short r 9007199254740991)
 unfold yB
 split<;>exact zC _ _
end Go.Proofs.YthfdkonhjpdflaaGreatDoor
