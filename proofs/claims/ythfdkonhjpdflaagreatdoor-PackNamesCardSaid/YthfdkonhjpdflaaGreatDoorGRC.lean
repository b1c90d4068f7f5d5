import Derived.Test.YthfdkonhjpdflaaGreatDoorGR5
namespace Go.Proofs.YthfdkonhjpdflaaGreatDoor
open Go.RowKit Go.Proofs.Tryz
set_option linter.unusedVariables false
set_option maxRecDepth 100000
set_option linter.unusedSimpArgs false
theorem uh {r:RS} (h:r.e≠0) (n:Int):(r.text n).2=r:=by
 unfold RS.text RS.count
 rw[if_neg h]
 show (r.raw 0).2=r
 unfold RS.raw
 rw[if_neg (by omega)]
 show r.past _=r
 unfold RS.past
 rw[if_neg h]
theorem num_e {r:RS} (h:r.e≠0):r.num 1=(0,r):=by
 unfold RS.num
 rw[if_pos (show nX 1=true from rfl),if_neg (by rw[RS.took_iff];exact fun hh=>h hh.1)]
 unfold RS.past
 rw[if_neg h]
theorem count_e {r:RS} (h:r.e≠0) (n:Int):r.count n=(0,r):=by unfold RS.count;rw[if_neg h]
theorem rpRq_e {r:RS} (h:r.e≠0):(gT r 0).2=(r,0):=by
 unfold gT bD
 rw[uh h,if_pos rfl,if_neg h]
theorem rpAn_e {r:RS} (h:r.e≠0):(gQ r 0).2=(r,0):=by
 unfold gQ bD
 rw[uh h,if_pos rfl,if_neg h]
theorem rpCf_e {r:RS} (h:r.e≠0):(dZ r 0).2=(r,0):=by
 unfold dZ bD
 rw[uh h,if_pos rfl,if_neg h]
theorem DF {r:RS} (h:r.e≠0):(gF r 0).2=(r,0):=by
 unfold gF
 rw[num_e h]
 rfl
theorem f5_e {h:Int} {s:SF} (he:s.2.1.e≠0) (hp:s.2.2=0):(f5 h s).2=s.2:=by
 unfold f5;split
 ·rfl
 ·rw[hp];show (gT s.2.1 0).2=s.2;rw[rpRq_e he];exact Prod.ext rfl hp.symm
theorem f6_e {h:Int} {s:SF} (he:s.2.1.e≠0) (hp:s.2.2=0):(f6 h s).2=s.2:=by
 unfold f6;split
 ·rfl
 ·rw[hp];show (gQ s.2.1 0).2=s.2;rw[rpAn_e he];exact Prod.ext rfl hp.symm
theorem f7_e {h:Int} {s:SF} (he:s.2.1.e≠0) (hp:s.2.2=0):(f7 h s).2=s.2:=by
 unfold f7;split
 ·rfl
 ·rw[hp];show (dZ s.2.1 0).2=s.2;rw[rpCf_e he];exact Prod.ext rfl hp.symm
theorem f8_e {h:Int} {s:SF} (he:s.2.1.e≠0) (hp:s.2.2=0):(f8 h s).2=s.2:=by
 unfold f8;split
 ·rfl
 ·rw[hp];show (gF s.2.1 0).2=s.2;rw[DF he];exact Prod.ext rfl hp.symm
theorem f9_e {h:Int} {s:SF} (he:s.2.1.e≠0) (hp:s.2.2=0):(f9 h s).2=s.2:=by
 unfold f9;split
 ·rfl
 ·show ((s.2.1.text 32768).2,s.2.2)=s.2;rw[uh he]
def ji (h:Int) (s:SF):SF:=f9 h (f8 h (f7 h (f6 h (f5 h s))))
theorem bdS_e {h:Int} {s:SF} (he:s.2.1.e≠0) (hp:s.2.2=0):(ji h s).2=s.2:=by
 unfold ji
 have e5:=f5_e (h:=h) he hp
 have e6:=f6_e (h:=h) (s:=f5 h s) (by rw[e5];exact he) (by rw[e5];exact hp)
 have e7:=f7_e (h:=h) (s:=f6 h (f5 h s)) (by rw[e6,e5];exact he) (by rw[e6,e5];exact hp)
 have e8:=f8_e (h:=h) (s:=f7 h (f6 h (f5 h s))) (by rw[e7,e6,e5];exact he) (by rw[e7,e6,e5];exact hp)
 have e9:=f9_e (h:=h) (s:=f8 h (f7 h (f6 h (f5 h s)))) (by rw[e8,e7,e6,e5];exact he) (by rw[e8,e7,e6,e5];exact hp)
 rw[e9,e8,e7,e6,e5]
theorem xG (b:List UInt8):zC b=ji (aL (iG b).kind) (gu b):=rfl
theorem xZ (b:List UInt8):0≤(iG b).kind∧(iG b).kind≤255:=gD _
theorem f1_p {h:Int} {s:SF}:(f1 h s).2.2=s.2.2:=by unfold f1;split<;>rfl
theorem f2_p {h:Int} {s:SF}:(f2 h s).2.2=s.2.2:=by unfold f2;split<;>rfl
theorem f3_p {h:Int} {s:SF}:(f3 h s).2.2=s.2.2:=by unfold f3;split<;>rfl
theorem CW {b:List UInt8} (h:(gu b).2.2≠0):(iG b).kind=8:=by
 by_cases hb:aN (aL (iG b).kind) 8=0
 ·exfalso
  unfold gu f4 at h
  rw[if_pos hb,f3_p,f2_p,f1_p] at h
  exact h rfl
 ·have h1:=(nW (xZ b)).2.2.2.1
  rw[show (aN (aL (iG b).kind) 8 !=0)=true by simp[hb]] at h1
  simpa using h1
theorem bdS_8 (s:SF):ji (aL 8) s=s:=by
 unfold ji f9 f8 f7 f6 f5
 rw[if_pos (show aN (aL 8) 16=0 by kernel_rfl),if_pos (show aN (aL 8) 32=0 by kernel_rfl),if_pos (show aN (aL 8) 64=0 by kernel_rfl),if_pos (show aN (aL 8) 128=0 by kernel_rfl),if_pos (show aN (aL 8) 256=0 by kernel_rfl)]
theorem oK {b:List UInt8} (h:jP b≠0):dw b=(bO,jP b):=by
 unfold dw
 unfold jP at h ⊢
 by_cases c:(xn b).e=0∧aL (iG b).kind=0
 ·rw[if_pos c,if_pos c]
 ·rw[if_neg c] at h
  rw[if_neg c,if_neg c]
  have e:(zC b).2=(gu b).2:=by
   rw[xG]
   by_cases hp:(gu b).2.2=0
   ·refine bdS_e ?_ hp
    unfold bD at h
    rwa [if_pos hp] at h
   ·rw[CW hp,bdS_8]
  rw[e,if_pos h]
theorem tO {b:List UInt8} (h:jP b=0) (h2:bD (ji (aL (iG b).kind) (gu b)).2.2 (ji (aL (iG b).kind) (gu b)).2.1.e≠0):dw b=(bO,bD (ji (aL (iG b).kind) (gu b)).2.2 (ji (aL (iG b).kind) (gu b)).2.1.e):=by
 unfold dw
 unfold jP at h
 by_cases c:(xn b).e=0∧aL (iG b).kind=0
 ·rw[if_pos c] at h;cases h
 ·rw[if_neg c,xG,if_pos h2]
theorem nA {b:List UInt8} (h:jP b=0) (h2:bD (ji (aL (iG b).kind) (gu b)).2.2 (ji (aL (iG b).kind) (gu b)).2.1.e=0):dw b=(eL (dm (ji (aL (iG b).kind) (gu b)).2.1.end_ (ji (aL (iG b).kind) (gu b)).1.ok) (ji (aL (iG b).kind) (gu b)).1 bO,dm (ji (aL (iG b).kind) (gu b)).2.1.end_ (ji (aL (iG b).kind) (gu b)).1.ok):=by
 unfold dw
 unfold jP at h
 by_cases c:(xn b).e=0∧aL (iG b).kind=0
 ·rw[if_pos c] at h;cases h
 ·rw[if_neg c,xG,if_neg (fun hh=>hh h2)]
theorem hd_in {b:List UInt8} (h:jP b=0):1≤(iG b).kind∧(iG b).kind≤14:=by
 by_cases hc:1≤(iG b).kind∧(iG b).kind≤14
 ·exact hc
 exfalso
 have hf:=(nW (xZ b)).2.2.2.2.2 (dQ hc)
 have hs:gu b=(iG b,xn b,0):=by
  unfold gu
  rw[hf]
  unfold f4 f3 f2 f1
  rw[if_pos (show aN 0 1=0 by kernel_rfl),if_pos (show aN 0 2=0 by kernel_rfl),if_pos (show aN 0 4=0 by kernel_rfl),if_pos (show aN 0 8=0 by kernel_rfl)]
 unfold jP at h
 by_cases c:(xn b).e=0∧aL (iG b).kind=0
 ·rw[if_pos c] at h;cases h
 ·rw[if_neg c,hs] at h
  unfold bD at h
  rw[if_pos rfl] at h
  exact c ⟨h,hf⟩
theorem uH {most:Int} (hm:0≤most):∀ (l:List UInt8) (s n:Nat),(kL most l s n).1≤most
 |[],s,n=>hm
 |b::t,s,n=>by
  unfold kL
  split
  ·exact hm
  ·split
   ·split
    ·exact hm
    ·split
     ·exact hm
     ·rename_i h;exact Int.not_lt.1 h
   ·split
    ·exact hm
    ·exact uH hm t _ _
theorem wV (r:RS) {n:Int} (hn:0≤n):(r.count n).1≤n:=by
 unfold RS.count;split
 ·exact uH hn _ _ _
 ·exact hn
theorem om (r:RS) (n:Int) (hn:0≤n):(r.text n).1.length≤n.toNat:=by
 have h:=RS.count_range r n
 have h2:=wV r hn
 unfold RS.text RS.raw
 split
 ·simp
 ·unfold RS.take
  split
  ·rw[List.length_take];omega
  ·simp
theorem CG {h:Int} {s:SF} (hl:(f5 h s).2.1.l≠[]):s.2.1.l≠[]:=by
 unfold f5 at hl;split at hl
 ·exact hl
 ·exact sH hl
theorem CK {h:Int} {s:SF} (hl:(f6 h s).2.1.l≠[]):s.2.1.l≠[]:=by
 unfold f6 at hl;split at hl
 ·exact hl
 ·exact sG hl
theorem CO {h:Int} {s:SF} (hl:(f7 h s).2.1.l≠[]):s.2.1.l≠[]:=by
 unfold f7 at hl;split at hl
 ·exact hl
 ·exact kH hl
theorem CQ {h:Int} {s:SF} (hl:(f8 h s).2.1.l≠[]):s.2.1.l≠[]:=by
 unfold f8 at hl;split at hl
 ·exact hl
 ·exact qF hl
theorem CU {h:Int} {s:SF} (hl:(f9 h s).2.1.l≠[]):s.2.1.l≠[]:=by
 unfold f9 at hl;split at hl
 ·exact hl
 ·exact dO hl
theorem Al {h:Int} {s:SF} (hl:(ji h s).2.1.l≠[]):s.2.1.l≠[]:=CG (CK (CO (CQ (CU hl))))
theorem BK (r:RS) (part:Int):(gT r part).1.env.length≤1024:=by
 unfold gT
 split
 ·unfold dC eL
  dsimp only
  split
  ·exact om _ 1024 (by decide)
  ·simp[aV]
 ·simp[aV]
theorem BH (r:RS) (part:Int):(gQ r part).1.env.length≤1024:=by
 unfold gQ
 split
 ·unfold dB eL
  dsimp only
  split
  ·exact om _ 1024 (by decide)
  ·simp[aY]
 ·simp[aY]
theorem qD (r:RS) (part:Int):(dZ r part).1.chain.length≤5:=by
 unfold dZ
 split
 ·unfold cz eL
  dsimp only
  split
  ·show (iO _ _).1.length≤5
   rw[nC];unfold DT Cq;split<;>omega
  ·simp[aW]
 ·simp[aW]
theorem qy:∀ (k:Nat) (acc:List VT) (r:RS) (part:Int),(∀ v∈acc,v.conf.chain.length≤5)→(jR k acc r part).1.length≤acc.length+k∧∀ v∈(jR k acc r part).1,v.conf.chain.length≤5
 |0,acc,r,part,h=>⟨Nat.le_refl _,h⟩
 |k+1,acc,r,part,h=>by
  unfold jR
  split
  ·have:=qy k (acc++[⟨(r.count 9007199254740991).1,(dZ (r.count 9007199254740991).2 part).1⟩]) (dZ (r.count 9007199254740991).2 part).2.1 (dZ (r.count 9007199254740991).2 part).2.2 (fun v hv=>by
    rcases List.mem_append.1 hv with hv|hv
    ·exact h v hv
    ·rw[List.mem_singleton.1 hv];exact qD _ _)
   refine⟨by have h1:=this.1;simp at h1;omega,this.2⟩
  ·exact⟨by simp,by simp⟩
theorem oQ (r:RS) (part:Int):(gF r part).1.length≤9∧∀ v∈(gF r part).1,v.conf.chain.length≤5:=by
 have h:=qy (DN (r.num 1).1) [] (r.num 1).2 part (by simp)
 refine⟨Nat.le_trans h.1 ?_,h.2⟩
 unfold DN
 simp
 split<;>omega
theorem fw:bO.fits:=⟨by simp[bO,aV],by simp[bO,aY],by simp[bO,aW],by simp[bO],by simp[bO],by simp[bO]⟩
theorem Ba (b:List UInt8):(iG b).fits:=⟨fw.e,fw.a,fw.c,fw.v,fw.vc,fw.b⟩
theorem Cw {h:Int} {s:SF} (hf:s.1.fits):(f1 h s).1.fits:=by
 unfold f1;split
 ·exact hf
 ·exact⟨hf.e,hf.a,hf.c,hf.v,hf.vc,hf.b⟩
theorem Cx {h:Int} {s:SF} (hf:s.1.fits):(f2 h s).1.fits:=by
 unfold f2;split
 ·exact hf
 ·exact⟨hf.e,hf.a,hf.c,hf.v,hf.vc,hf.b⟩
theorem Cy {h:Int} {s:SF} (hf:s.1.fits):(f3 h s).1.fits:=by
 unfold f3;split
 ·exact hf
 ·exact⟨hf.e,hf.a,hf.c,hf.v,hf.vc,hf.b⟩
theorem Cz {h:Int} {s:SF} (hf:s.1.fits):(f4 h s).1.fits:=by
 unfold f4;split
 ·exact hf
 ·exact⟨hf.e,hf.a,hf.c,hf.v,hf.vc,hf.b⟩
theorem CE {h:Int} {s:SF} (hf:s.1.fits):(f5 h s).1.fits:=by
 unfold f5;split
 ·exact hf
 ·exact⟨Nat.le_trans (BK _ _) (by omega),hf.a,hf.c,hf.v,hf.vc,hf.b⟩
theorem CJ {h:Int} {s:SF} (hf:s.1.fits):(f6 h s).1.fits:=by
 unfold f6;split
 ·exact hf
 ·exact⟨hf.e,Nat.le_trans (BH _ _) (by omega),hf.c,hf.v,hf.vc,hf.b⟩
theorem CL {h:Int} {s:SF} (hf:s.1.fits):(f7 h s).1.fits:=by
 unfold f7;split
 ·exact hf
 ·exact⟨hf.e,hf.a,Nat.le_trans (qD _ _) (by omega),hf.v,hf.vc,hf.b⟩
theorem CP {h:Int} {s:SF} (hf:s.1.fits):(f8 h s).1.fits:=by
 unfold f8;split
 ·exact hf
 ·exact⟨hf.e,hf.a,hf.c,Nat.le_trans (oQ _ _).1 (by omega),fun v hv=>Nat.le_trans ((oQ _ _).2 v hv) (by omega),hf.b⟩
theorem CR {h:Int} {s:SF} (hf:s.1.fits):(f9 h s).1.fits:=by
 unfold f9;split
 ·exact hf
 ·exact⟨hf.e,hf.a,hf.c,hf.v,hf.vc,Nat.le_trans (om _ 32768 (by decide)) (by decide)⟩
theorem uq {h:Int} {s:SF} (hf:s.1.fits):(ji h s).1.fits:=CR (CP (CL (CJ (CE hf))))
theorem uZ (b:List UInt8):(gu b).1.fits:=Cz (Cy (Cx (Cw (Ba b))))
theorem zg (b:List UInt8):(gu b).1.kind=(iG b).kind∧∀ w F,gX w F (gu b).1 ay ay ay ay ay:=by
 have p0:∀ s:SF,(s.1.req=aV∧s.1.ans=aY∧s.1.conf=aW∧s.1.votes=[]∧s.1.bytes=[]∧s.1.kind=(iG b).kind)→∀ h,((f1 h s).1.req=aV∧(f1 h s).1.ans=aY∧(f1 h s).1.conf=aW∧(f1 h s).1.votes=[]∧(f1 h s).1.bytes=[]∧(f1 h s).1.kind=(iG b).kind)∧((f2 h s).1.req=aV∧(f2 h s).1.ans=aY∧(f2 h s).1.conf=aW∧(f2 h s).1.votes=[]∧(f2 h s).1.bytes=[]∧(f2 h s).1.kind=(iG b).kind)∧((f3 h s).1.req=aV∧(f3 h s).1.ans=aY∧(f3 h s).1.conf=aW∧(f3 h s).1.votes=[]∧(f3 h s).1.bytes=[]∧(f3 h s).1.kind=(iG b).kind)∧((f4 h s).1.req=aV∧(f4 h s).1.ans=aY∧(f4 h s).1.conf=aW∧(f4 h s).1.votes=[]∧(f4 h s).1.bytes=[]∧(f4 h s).1.kind=(iG b).kind):=by
  intro s hs h
  refine⟨?_,?_,?_,?_⟩
  ·unfold f1;split<;>exact hs
  ·unfold f2;split<;>exact hs
  ·unfold f3;split<;>exact hs
  ·unfold f4;split<;>exact hs
 have h0:=(p0 (iG b,xn b,0) ⟨rfl,rfl,rfl,rfl,rfl,rfl⟩ (aL (iG b).kind)).1
 have h1:=(p0 _ h0 (aL (iG b).kind)).2.1
 have h2:=(p0 _ h1 (aL (iG b).kind)).2.2.1
 have h3:=(p0 _ h2 (aL (iG b).kind)).2.2.2
 obtain⟨e1,e2,e3,e4,e5,e6⟩:(gu b).1.req=aV∧(gu b).1.ans=aY∧(gu b).1.conf=aW∧(gu b).1.votes=[]∧(gu b).1.bytes=[]∧(gu b).1.kind=(iG b).kind:=h3
 have z:=fun w F=>iQ w F
 refine⟨e6,fun w F=>⟨by rw[e1];exact aK,by rw[e2];exact aM,by rw[e1];exact (z w F).re,by rw[e2];exact (z w F).ae,by rw[e3];exact (z w F).cc,by rw[e4];exact (z w F).vs,by rw[e5];exact (z w F).bs⟩⟩
theorem uR {h:Int} {s:SF} (hb:aN h 16=0):f5 h s=s:=by unfold f5;rw[if_pos hb]
theorem uS {h:Int} {s:SF} (hb:aN h 32=0):f6 h s=s:=by unfold f6;rw[if_pos hb]
theorem uT {h:Int} {s:SF} (hb:aN h 64=0):f7 h s=s:=by unfold f7;rw[if_pos hb]
theorem uU {h:Int} {s:SF} (hb:aN h 128=0):f8 h s=s:=by unfold f8;rw[if_pos hb]
theorem uV {h:Int} {s:SF} (hb:aN h 256=0):f9 h s=s:=by unfold f9;rw[if_pos hb]
theorem Am {k:Int} (hk:k=1∨k=3) (s:SF):ji (aL k) s=({s.1 with req:=(gT s.2.1 s.2.2).1},(gT s.2.1 s.2.2).2.1,(gT s.2.1 s.2.2).2.2):=by
 unfold ji
 obtain rfl|rfl:=hk
 all_goals
  rw[uV (by kernel_rfl),uU (by kernel_rfl),uT (by kernel_rfl),uS (by kernel_rfl)]
  unfold f5
 ·rw[if_neg (by rw[show aN (aL 1) 16=16 by kernel_rfl];decide)]
 ·rw[if_neg (by rw[show aN (aL 3) 16=16 by kernel_rfl];decide)]
theorem Ai (s:SF):ji (aL 2) s=({s.1 with ans:=(gQ s.2.1 s.2.2).1},(gQ s.2.1 s.2.2).2.1,(gQ s.2.1 s.2.2).2.2):=by
 unfold ji
 rw[uV (by kernel_rfl),uU (by kernel_rfl),uT (by kernel_rfl),uR (by kernel_rfl)]
 unfold f6
 rw[if_neg (by rw[show aN (aL 2) 32=32 by kernel_rfl];decide)]
theorem Ak {k:Int} (hk:k=7∨k=12) (s:SF):ji (aL k) s=({s.1 with conf:=(dZ s.2.1 s.2.2).1},(dZ s.2.1 s.2.2).2.1,(dZ s.2.1 s.2.2).2.2):=by
 unfold ji
 obtain rfl|rfl:=hk
 all_goals
  rw[uV (by kernel_rfl),uU (by kernel_rfl),uR (by kernel_rfl),uS (by kernel_rfl)]
  unfold f7
 ·rw[if_neg (by rw[show aN (aL 7) 64=64 by kernel_rfl];decide)]
 ·rw[if_neg (by rw[show aN (aL 12) 64=64 by kernel_rfl];decide)]
theorem bdS_vs (s:SF):ji (aL 11) s=({s.1 with votes:=(gF s.2.1 s.2.2).1},(gF s.2.1 s.2.2).2.1,(gF s.2.1 s.2.2).2.2):=by
 unfold ji
 rw[uV (by kernel_rfl),uT (by kernel_rfl),uS (by kernel_rfl),uR (by kernel_rfl)]
 unfold f8
 rw[if_neg (by rw[show aN (aL 11) 128=128 by kernel_rfl];decide)]
theorem Aj (s:SF):ji (aL 6) s=({s.1 with bytes:=(s.2.1.text 32768).1},(s.2.1.text 32768).2,s.2.2):=by
 unfold ji
 rw[uU (by kernel_rfl),uT (by kernel_rfl),uS (by kernel_rfl),uR (by kernel_rfl)]
 unfold f9
 rw[if_neg (by rw[show aN (aL 6) 256=256 by kernel_rfl];decide)]
theorem bdS_no {k:Int} (hk:k=4∨k=5∨k=8∨k=9∨k=10∨k=13∨k=14) (s:SF):ji (aL k) s=s:=by
 unfold ji
 obtain rfl|rfl|rfl|rfl|rfl|rfl|rfl:=hk
 all_goals rw[uV (by kernel_rfl),uU (by kernel_rfl),uT (by kernel_rfl),uS (by kernel_rfl),uR (by kernel_rfl)]
theorem hdE_no {b:List UInt8} (h:jP b=0):(gu b).2.2=0∧(gu b).2.1.e=0:=by
 unfold jP bD at h
 split at h
 ·cases h
 ·by_cases hp:(gu b).2.2=0
  ·rw[if_pos hp] at h;exact⟨hp,h⟩
  ·rw[if_neg hp] at h;exact absurd h hp
theorem uW {a e:Int} (h:bD a e=0):a=0∧e=0:=by
 unfold bD at h
 by_cases ha:a=0
 ·rw[if_pos ha] at h;exact⟨ha,h⟩
 ·rw[if_neg ha] at h;exact absurd h ha
theorem p9 {a e:Int} (h:e=0):bD a e=a:=by
 unfold bD;split
 ·rename_i h0;rw[h,h0]
 ·rfl
theorem zN {r r1:RS} {t:List UInt8} (h:r.text 2048=(t,r1)) (he:r1.e=0):gT r 0=((dC t).1,r1,(dC t).2):=by
 unfold gT;rw[h];exact if_pos he
theorem BJ {r r1:RS} {t:List UInt8} (h:r.text 2048=(t,r1)) (he:r1.e≠0):gT r 0=(aV,r1,0):=by
 unfold gT;rw[h];exact if_neg he
theorem zL {r r1:RS} {t:List UInt8} (h:r.text 2048=(t,r1)) (he:r1.e=0):gQ r 0=((dB t).1,r1,(dB t).2):=by
 unfold gQ;rw[h];exact if_pos he
theorem BG {r r1:RS} {t:List UInt8} (h:r.text 2048=(t,r1)) (he:r1.e≠0):gQ r 0=(aY,r1,0):=by
 unfold gQ;rw[h];exact if_neg he
theorem zM {r r1:RS} {t:List UInt8} (h:r.text 2048=(t,r1)) (he:r1.e=0):dZ r 0=((cz t).1,r1,(cz t).2):=by
 unfold dZ;rw[h];exact if_pos he
theorem BI {r r1:RS} {t:List UInt8} (h:r.text 2048=(t,r1)) (he:r1.e≠0):dZ r 0=(aW,r1,0):=by
 unfold dZ;rw[h];exact if_neg he
theorem Dz {k:Nat} {acc:List VT} {r:RS} (h:(nP r).2.2=0):jR (k+1) acc r 0=jR k (acc++[(nP r).1]) (nP r).2.1 0:=by
 have h2:bD (dZ (r.count 9007199254740991).2 0).2.2 (dZ (r.count 9007199254740991).2 0).2.1.e=0:=h
 rw[jR,if_pos h2,(uW h2).1]
 rfl
theorem zJ {k:Nat} {acc:List VT} {r:RS} (h:(nP r).2.2≠0):bD (jR (k+1) acc r 0).2.2 (jR (k+1) acc r 0).2.1.e=(nP r).2.2:=by
 have h2: ¬bD (dZ (r.count 9007199254740991).2 0).2.2 (dZ (r.count 9007199254740991).2 0).2.1.e=0:=h
 rw[jR,if_neg h2]
 rfl
theorem BS {r:RS} (h:(nP r).2.1.l≠[]):r.l≠[]:=bW (kH h)
theorem Ad (r:RS):(nP r).2.1.l.length≤r.l.length:=by
 show (dZ (r.count 9007199254740991).2 0).2.1.l.length≤_
 refine Nat.le_trans ?_ (RS.count_short r 9007199254740991)
 unfold dZ
 split<;>exact fG _ _
end Go.Proofs.YthfdkonhjpdflaaGreatDoor
