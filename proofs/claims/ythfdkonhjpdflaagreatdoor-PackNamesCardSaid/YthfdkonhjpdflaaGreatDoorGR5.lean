import Derived.Test.YthfdkonhjpdflaaGreatDoorGRB
import Derived.Test.YthfdkonhjpdflaaGreatDoorPk33
import Derived.Test.YthfdkonhjpdflaaGreatDoorRCA
namespace Go.Proofs.YthfdkonhjpdflaaGreatDoor
open Go.RowKit Go.Proofs.Tryz
set_option linter.unusedVariables false
set_option maxRecDepth 100000
set_option linter.unusedSimpArgs false
set_option maxHeartbeats 16000000
theorem EI {k:Int} (h:0≤k∧k≤255):gH.contains k=(U6 (l6 k) 1 !=0)∧iH.contains k=(U6 (l6 k) 2 !=0)∧DC.contains k=(U6 (l6 k) 4 !=0)∧(k==8)=(U6 (l6 k) 8 !=0)∧(l6 k=0↔qB k 1 14=false):=by
 by_cases h2:k≤14
 ·obtain rfl|rfl|rfl|rfl|rfl|rfl|rfl|rfl|rfl|rfl|rfl|rfl|rfl|rfl|rfl:k=0∨k=1∨k=2∨k=3∨k=4∨k=5∨k=6∨k=7∨k=8∨k=9∨k=10∨k=11∨k=12∨k=13∨k=14:=by omega
  all_goals exact⟨by kernel_rfl,by kernel_rfl,by kernel_rfl,by kernel_rfl,by decide⟩
 ·have hf:l6 k=0:=by unfold l6;rw[if_neg (by omega)]
  rw[hf]
  refine⟨?_,?_,?_,?_,?_⟩
  ·rw[show (U6 0 1 !=0)=false by kernel_rfl];simp[gH];omega
  ·rw[show (U6 0 2 !=0)=false by kernel_rfl];simp[iH];omega
  ·rw[show (U6 0 4 !=0)=false by kernel_rfl];simp[DC];omega
  ·rw[show (U6 0 8 !=0)=false by kernel_rfl];simp;omega
  ·simp[qB];omega
theorem lL {r:RS} (h:1<(r.num 1).1):(r.num 1).2.e=0:=by
 unfold RS.num at h ⊢
 rw[if_pos (show FI 1=true from rfl)] at h ⊢
 by_cases ht:r.took (1:Int).toNat=true
 ·rw[if_pos ht] at h ⊢
  split at h
  ·simp at h
  ·rename_i hm
   rw[if_neg hm]
   have:=(r.took_iff _).1 ht
   show (r.past _).e=0
   unfold RS.past
   rw[if_pos this.1,if_pos this.2]
 ·rw[if_neg ht] at h;simp at h
def XC (b:List UInt8):SF:=f4 (l6 (TD b).kind) (f3 (l6 (TD b).kind) (f2 (l6 (TD b).kind) (f1 (l6 (TD b).kind) (TD b,fP b,0))))
def vF (b:List UInt8):Int:=if (fP b).e=0∧l6 (TD b).kind=0 then 4 else R8 (XC b).2.2 (XC b).2.1.e
theorem dV (a b c:Int):prog.built 34 [(0,.int .i64 a),(1,.int .i64 b),(2,.int .i64 c)]=some (q8 {G9 with kind:=a,frm:=b,dst:=c} I4 I4 I4 I4 I4).toArray:=by kernel_rfl
structure qI (w0 w:World) (p g tb:Nat) (k:Int) (s:SF) (Z:List Value):Prop where
 rd:YA w p g s.2.1
 lo:p<w0.heap.size
 gl:s.2.1.l≠[]→g<w0.heap.size
 len:s.2.1.l.length≤1000000
 hi:w0.heap.size<tb
 row:l5 w tb 34 (q8 s.1 I4 I4 I4 I4 I4).toArray
 rn:s.1.req.name.length=32
 an:s.1.ans.name.length=32
 kd:s.1.kind=k
 pt:s.2.2=0
 res:l5 w w0.heap.size 34 Z.toArray
 kp:U1 [p] w0 w
theorem qI.over {w0 w w':World} {p g tb:Nat} {k:Int} {s:SF} {Z:List Value} (h:qI w0 w p g tb k s Z) (hk:U1 [] w w'):qI w0 w' p g tb k s Z:=
 ⟨h.rd.keep hk (by simp) (by simp),h.lo,h.gl,h.len,h.hi,hk.row h.row (by simp),h.rn,h.an,h.kd,h.pt,hk.row h.res (by simp),h.kp.then hk (by simp)⟩
theorem qI.read {w0 w w':World} {p g tb:Nat} {k:Int} {q:PK} {r r':RS} {pt:Int} {Z:List Value} (h:qI w0 w p g tb k (q,r,pt) Z) (hr:YA w' p g r') (hk:U1 [p] w w') (hl:r'.l≠[]→r.l≠[]) (hs:r'.l.length≤r.l.length):qI w0 w' p g tb k (q,r',pt) Z:=
 ⟨hr,h.lo,fun hne=>h.gl (hl hne),Nat.le_trans hs h.len,h.hi,hk.row h.row (by have:=h.hi;have:=h.lo;simp;omega),h.rn,h.an,h.kd,h.pt,hk.row h.res (by have:=h.lo;simp;omega),h.kp.then hk (fun x hx=> .inl hx)⟩
theorem qI.set {w0 w:World} {p g tb:Nat} {k:Int} {q q':PK} {r:RS} {pt:Int} {Z:List Value} (h:qI w0 w p g tb k (q,r,pt) Z) (i:Nat) (u:Value) (he:(q8 q I4 I4 I4 I4 I4).toArray.setIfInBounds i u=(q8 q' I4 I4 I4 I4 I4).toArray) (hn:q'.req=q.req∧q'.ans=q.ans∧q'.kind=q.kind):qI w0 (w.setCell ⟨tb,i,none⟩ u) p g tb k (q',r,pt) Z:=by
 have hk:U1 [tb] w (w.setCell ⟨tb,i,none⟩ u):=(U1.refl [tb] w).setCell ⟨tb,i,none⟩ u (.inl (by simp))
 have hi:=h.hi
 have hlo:=h.lo
 exact⟨h.rd.keep hk (by simp;omega) (fun hne=>by have:=h.gl hne;simp;omega),h.lo,h.gl,h.len,h.hi,by rw[←he];exact h.row.set i u,by rw[hn.1];exact h.rn,by rw[hn.2.1];exact h.an,by rw[hn.2.2];exact h.kd,h.pt,hk.row h.res (by simp;omega),h.kp.then hk (fun x hx=> .inr (by simp at hx;omega))⟩
theorem nR (p g:Nat) (b:List UInt8) (w:World) (hr:YA w p g ⟨b,0⟩) (hb:b.length≤1000000):
 Calls prog 99 #[.pointer (some ⟨p,0,none⟩)] w fun e w'=>∃ q,e= .returned (.tuple #[.agg (q8 q I4 I4 I4 I4 I4).toArray,.int .i64 (vF b)])∧q.req.name.length=32∧q.ans.name.length=32∧(vF b=0→q=(XC b).1∧YA w' p g (XC b).2.1)∧U1 [p] w w':=by
 obtain⟨r0,hr0⟩:∃ r,RS.mk b 0=r:=⟨_,rfl⟩
 obtain⟨x1,hx1⟩:∃ x,(r0.num 1).1=x:=⟨_,rfl⟩
 obtain⟨r1,hr1⟩:∃ x,(r0.num 1).2=x:=⟨_,rfl⟩
 have s1:(r1.l≠[]→r0.l≠[])∧r1.l.length≤r0.l.length:=by rw[←hr1];exact⟨nA,U9 _ _⟩
 obtain⟨x2,hx2⟩:∃ x,(r1.num 1).1=x:=⟨_,rfl⟩
 obtain⟨r2,hr2⟩:∃ x,(r1.num 1).2=x:=⟨_,rfl⟩
 have s2:(r2.l≠[]→r1.l≠[])∧r2.l.length≤r1.l.length:=by rw[←hr2];exact⟨nA,U9 _ _⟩
 obtain⟨x3,hx3⟩:∃ x,(r2.num 1).1=x:=⟨_,rfl⟩
 obtain⟨r3,hr3⟩:∃ x,(r2.num 1).2=x:=⟨_,rfl⟩
 have s3:(r3.l≠[]→r2.l≠[])∧r3.l.length≤r2.l.length:=by rw[←hr3];exact⟨nA,U9 _ _⟩
 have hx1r:0≤x1∧x1≤255:=by rw[←hx1];exact bD _
 have eq:TD b={G9 with kind:=x1,frm:=x2,dst:=x3}:=by unfold TD;rw[hr0,hx1,hr1,hx2,hr2,hx3]
 have er:fP b=r3:=by unfold fP;rw[hr0,hr1,hr2,hr3]
 obtain⟨q0,hq0⟩:∃ q,({G9 with kind:=x1,frm:=x2,dst:=x3}:PK)=q:=⟨_,rfl⟩
 have hk0:q0.kind=x1:=by rw[←hq0]
 obtain⟨ff,hff⟩:∃ f,l6 x1=f:=⟨_,rfl⟩
 have HBT:=EI hx1r
 rw[hff] at HBT
 obtain⟨S0,hS0⟩:∃ s:SF,(q0,r3,(0:Int))=s:=⟨_,rfl⟩
 obtain⟨S1,hS1⟩:∃ s,f1 ff S0=s:=⟨_,rfl⟩
 obtain⟨S2,hS2⟩:∃ s,f2 ff S1=s:=⟨_,rfl⟩
 obtain⟨S3,hS3⟩:∃ s,f3 ff S2=s:=⟨_,rfl⟩
 obtain⟨S4,hS4⟩:∃ s,f4 ff S3=s:=⟨_,rfl⟩
 have hS:XC b=S4:=by unfold XC;rw[eq,er,hq0,hk0,hff,hS0,hS1,hS2,hS3,hS4]
 have hE:vF b=if r3.e=0∧ff=0 then 4 else R8 S4.2.2 S4.2.1.e:=by unfold vF;rw[hS,er,eq,hq0,hk0,hff]
 obtain⟨Z,hZ⟩:∃ Z,q8 G9 I4 I4 I4 I4 I4=Z:=⟨_,rfl⟩
 have zv:=KE
 have zl:=IC
 rw[hZ] at zv zl
 have nr:q0.req.name.length=32:=by rw[←hq0];exact j6
 have na:q0.ans.name.length=32:=by rw[←hq0];exact F6
 have hpl:=hr.lt
 have hgl:r0.l≠[]→g<w.heap.size:=fun hne=>by rw[←hr0] at hne;exact hr.gl hne
 have hrl:r0.l.length≤1000000:=by rw[←hr0];exact hb
 have kA:=(U1.refl [] w).alloc (.cells Z.toArray 34)
 have rA:=l5.new w 34 Z.toArray
 obtain⟨wA,hwA⟩:∃ wA,w.alloc (.cells Z.toArray 34)=wA:=⟨_,rfl⟩
 rw[hwA] at kA rA
 rw[hr0] at hr
 have HA:=U0 (U2 hwA (U2 kA (U2 rA (U2 (hr.keep kA (by simp) (by simp)) (U2 zv zl)))))
 have HX:=U0 (U2 (U2 hx1 hr1) (U2 (U2 hx2 hr2) (U2 (U2 hx3 hr3) (U2 s1 (U2 s2 (U2 s3 (U2 hgl hrl)))))))
 have HQ:=U0 (U2 hq0 (U2 hk0 (U2 nr (U2 na hZ))))
 have HS:=U0 (U2 hS0 (U2 hS1 (U2 hS2 (U2 hS3 (U2 hS4 (U2 hS hE))))))
 have HB:=U0 HBT
 clear kA rA hwA hr zv zl hZ hx1 hr1 hx2 hr2 hx3 hr3 s1 s2 s3 hgl hrl hb hq0 hk0 nr na hS0 hS1 hS2 hS3 hS4 hS hE HBT hr0 eq er hff
 go_enter func99,ntmps99
 go_upto_region 2 with (first
  |(with_reducible refine F5 _ _ rfl 34 rfl _ HA.o.2.2.2.2.1 HA.o.1 ?_)
  |(go_at_call 106;with_reducible refine Calls.mono (jC p g r0 1 _ HA.o.2.2.2.1 (by have:=HX.o.2.2.2.2.2.2.2;omega)) ?_;intro e u1 hq;unfold ZB at hq;rw[HX.o.1.1,HX.o.1.2] at hq;obtain⟨rfl,hr1,hk1⟩:=hq;have Q1:=U0 (U2 hr1 hk1);clear hr1 hk1)
  |(go_at_call 106;with_reducible refine Calls.mono (jC p g r1 1 _ Q1.o.1 (by have:=HX.o.2.2.2.2.2.2.2;have:=HX.o.2.2.2.1.2;omega)) ?_;intro e u2 hq;unfold ZB at hq;rw[HX.o.2.1.1,HX.o.2.1.2] at hq;obtain⟨rfl,hr1,hk1⟩:=hq;have Q2:=U0 (U2 hr1 (Q1.o.2.then hk1 (fun x hx=> .inl hx)));clear hr1 hk1)
  |(go_at_call 106;with_reducible refine Calls.mono (jC p g r2 1 _ Q2.o.1 (by have:=HX.o.2.2.2.2.2.2.2;have:=HX.o.2.2.2.1.2;have:=HX.o.2.2.2.2.1.2;omega)) ?_;intro e u3 hq;unfold ZB at hq;rw[HX.o.2.2.1.1,HX.o.2.2.1.2] at hq;obtain⟨rfl,hr1,hk1⟩:=hq;have Q3:=U0 (U2 hr1 (Q2.o.2.then hk1 (fun x hx=> .inl hx)));clear hr1 hk1;obtain⟨tb,htb⟩:∃ b,u3.heap.size=b:=⟨_,rfl⟩;obtain⟨uB,huB⟩:∃ W,u3.alloc (.cells Z.toArray 34)=W:=⟨_,rfl⟩;have HU:=U0 (U2 huB htb);clear huB htb;(try dsimp only);rename_i hK;refine hK _ _ ?_;clear hK;refine LA _ rfl 34 _ rfl (q8 q0 I4 I4 I4 I4 I4).toArray (by simp only[List.map_toArray,List.map_cons,List.map_nil];go_simp;rw[←HQ.o.1];exact dV x1 x2 x3) ?_)
  |(with_reducible refine F5 _ _ rfl 34 rfl _ HA.o.2.2.2.2.1 HU.o.1 ?_;rw[HU.o.2])
  |(refine wpList_store_mid rfl 34 (.tmp 4) (.tmp 12) rfl tb 0 (q8 q0 I4 I4 I4 I4 I4).toArray rfl rfl ((show l5 uB tb 34 Z.toArray from HU.o.2▸HU.o.1▸l5.new _ _ _).there (by rw[U4,U4,HA.o.2.2.2.2.2,G8 HQ.o.2.2.1 HQ.o.2.2.2.1];exact Nat.le_refl _)) (by rw[U4,G8 HQ.o.2.2.1 HQ.o.2.2.2.1];exact I5) (all_oneCell_toArray (yA rfl rfl rfl rfl rfl)) ?_))
 have P0:V5 (qI w (uB.setCells tb 0 (q8 q0 I4 I4 I4 I4 I4)) p g tb x1 S0 Z):=U0 (by
  have kB:U1 [] u3 uB:=HU.o.1▸(U1.refl [] u3).alloc _
  have rB:l5 uB tb 34 Z.toArray:=HU.o.2▸HU.o.1▸l5.new _ _ _
  have h1:=HA.o.2.2.1.lt
  have h2:=Q3.o.2.size
  have h3:=HU.o.2
  have kC:U1 [tb] uB (uB.setCells tb 0 (q8 q0 I4 I4 I4 I4 I4)):=(U1.refl [tb] uB).setL (.inl (by simp))
  have rC:l5 (uB.setCells tb 0 (q8 q0 I4 I4 I4 I4 I4)) tb 34 (q8 q0 I4 I4 I4 I4 I4).toArray:=by
   have:=rB.setL (vs:=q8 q0 I4 I4 I4 I4 I4) (o:=0)
   rw[F7 (by rw[U4,HA.o.2.2.2.2.2,G8 HQ.o.2.2.1 HQ.o.2.2.2.1])] at this
   exact this
  have hg:r3.l≠[]→g<w.heap.size:=fun hne=>HX.o.2.2.2.2.2.2.1 (HX.o.2.2.2.1.1 (HX.o.2.2.2.2.1.1 (HX.o.2.2.2.2.2.1.1 hne)))
  rw[←HS.o.1]
  exact⟨(Q3.o.1.keep kB (by simp) (by simp)).keep kC (by simp;omega) (fun hne=>by have:=hg hne;simp;omega),hpl,hg,by have:=HX.o.2.2.2.2.2.2.2;have:=HX.o.2.2.2.1.2;have:=HX.o.2.2.2.2.1.2;have:=HX.o.2.2.2.2.2.1.2;show r3.l.length≤1000000;omega,by omega,rC,HQ.o.2.2.1,HQ.o.2.2.2.1,HQ.o.2.1,rfl,kC.row (kB.row (Q3.o.2.row HA.o.2.2.1 (by simp;omega)) (by simp)) (by simp;omega),(((HA.o.2.1.more (by simp)).then (Q3.o.2.then kB (by simp)) (fun x hx=> .inl hx))).then kC (fun x hx=> .inr (by simp at hx;omega))⟩)
 obtain⟨uC,huC⟩:∃ W,uB.setCells tb 0 (q8 q0 I4 I4 I4 I4 I4)=W:=⟨_,rfl⟩
 rw[huC] at P0
 rw[huC]
 simp only[Act.put]
 clear huC HU Q1 Q2 Q3
 have c0:=(P0.o.row.cell 0).trans (show _=some (Value.int .i64 x1) by rw[←P0.o.kd];rfl)
 have h03:S0.2.1=r3:=by rw[←HS.o.1]
 by_cases he:r3.e=0
 ·have he':(r3.e==0)=true:=by simp[he]
  cases hin:qB x1 1 14
  ·have hff:ff=0:=HB.o.2.2.2.2.2 hin
   have hE4:vF b=4:=by rw[HS.o.2.2.2.2.2.2,if_pos ⟨he,hff⟩]
   have HI:=U0 hin
   have rd3:=U0 (h03▸P0.o.rd:YA uC p g r3)
   clear hin he h03 hff
   obtain⟨X4,hX4⟩:∃ X,q8 S0.1 I4 I4 I4 I4 I4=X:=⟨_,rfl⟩
   have hxl:X4.length=87:=by rw[←hX4];exact G8 P0.o.rn P0.o.an
   have hxo:∀ u∈X4,u.oneCell'=true:=by rw[←hX4];exact yA rfl rfl rfl rfl rfl
   have hrow:l5 uC tb 34 X4.toArray:=by rw[←hX4];exact P0.o.row
   have rs:∀ wx,l5 wx w.heap.size 34 Z.toArray→l5 (wx.setCells w.heap.size 0 X4) w.heap.size 34 X4.toArray:=fun wx hh=>by
    have:=hh.setL (vs:=X4) (o:=0)
    rw[F7 (by rw[U4,HA.o.2.2.2.2.2,hxl])] at this
    exact this
   have HF:=U0 (U2 hxl rs)
   have HG:=U0 (U2 hrow hxo)
   have HT:V5 (∃ q,Ending.returned (.tuple #[.agg X4.toArray,.int .i64 4])= .returned (.tuple #[.agg (q8 q I4 I4 I4 I4 I4).toArray,.int .i64 (vF b)])∧q.req.name.length=32∧q.ans.name.length=32∧(vF b=0→q=(XC b).1∧YA (uC.setCells w.heap.size 0 X4) p g (XC b).2.1)∧U1 [p] w (uC.setCells w.heap.size 0 X4)):=U0
    ⟨S0.1,by rw[hX4,hE4],P0.o.rn,P0.o.an,fun h=>(by rw[hE4] at h;exact absurd h (by decide)),P0.o.kp.setL (.inr (Nat.le_refl _))⟩
   clear hX4 hxl hxo hrow rs hE4
   go_wp2_with (first
    |(go_at_call 110;refine (p8 p g r3 _ rd3.o).mono ?_;rintro e wy ⟨rfl,rfl⟩)
    |(go_at_call 67;refine (aA x1 1 14 _).mono ?_;rintro e wy ⟨rfl,rfl⟩;rw[HI.o])
    |(refine wpList_load_mid rfl 34 (.tmp 4) rfl tb 0 rfl X4 _ HG.o.1.rangeAll underlying34 rfl (by rw[HF.o.1];exact I5) ?_)
    |(refine wpList_store_mid rfl 34 (.tmp 2) (.tmp 22) rfl w.heap.size 0 X4.toArray rfl rfl (P0.o.res.there (by rw[U4,U4,HA.o.2.2.2.2.2,HF.o.1];exact Nat.le_refl _)) (by rw[U4,HF.o.1];exact I5) (all_oneCell_toArray HG.o.2) ?_))
   refine bodyPost_ret (U5 rfl _ _ w.heap.size 34 _ (0,0) _ rfl (HF.o.2 _ P0.o.res) underlying34 rfl (by rw[U4,HF.o.1];exact I5)) rfl ?_
   exact HT.o
  ·have hEE:=U0 (show vF b=R8 S4.2.2 S4.2.1.e by rw[HS.o.2.2.2.2.2.2,if_neg (fun h=>by have:=HB.o.2.2.2.2.1 h.2;rw[hin] at this;cases this)])
   have HI:=U0 hin
   clear he hin
   go_upto_region 4 with (first
    |(go_at_call 110;refine (p8 p g r3 _ (h03▸P0.o.rd)).mono ?_;rintro e wy ⟨rfl,rfl⟩)
    |(go_at_call 67;refine (aA x1 1 14 _).mono ?_;rintro e wy ⟨rfl,rfl⟩;rw[HI.o]))
   clear c0 he' h03
   have c0:=(P0.o.row.cell 0).trans (show _=some (Value.int .i64 x1) by rw[←P0.o.kd];rfl)
   obtain⟨B0,hB⟩:∃ B,gH.contains x1=B:=⟨_,rfl⟩
   have HBk:=U0 (show B0=(U6 ff 1 !=0) by rw[←hB];exact HB.o.1)
   have HBc:=U0 hB
   clear hB
   go_upto_if 25 with (first
    |(go_at_call 53;refine (RH x1 _).mono ?_;rintro e y1 ⟨rfl,k1⟩;rw[HBc.o];have O:=U0 (P0.o.over k1);clear k1))
   go_cut [] (fun wx=>qI w wx p g tb x1 S1 Z)
   case first=>
    clear c0
    cases B0
    ·have hb:U6 ff 1=0:=by have:=HBk.o;simpa using this.symm
     have E:=U0 (show f1 ff S0=S0 by unfold f1;rw[if_pos hb])
     clear hb
     go_wp2_with fail
     go_meet
     exact (by rw[←HS.o.2.1,E.o];exact O.o)
    ·have hb: ¬U6 ff 1=0:=by have:=HBk.o;simpa using this.symm
     have E:=U0 (show f1 ff S0=_ by unfold f1;rw[if_neg hb])
     clear hb
     go_wp2_with (first
      |(go_at_call 107;refine (vB p g S0.2.1 9007199254740991 _ O.o.rd (by have:=O.o.len;omega)).mono ?_;intro e u hq;unfold jB at hq;obtain⟨rfl,hr,hk⟩:=hq;have B:=U0 (qI.read (q:=S0.1) (r:=S0.2.1) (pt:=S0.2.2) O.o hr hk W9 (RS.count_short _ _));have y:u.cell? ⟨tb,3,none⟩=some (.int .i64 S0.1.num):=(B.o.row.cell 3).trans rfl;have y2:=B.o.row.free 3;clear hr hk))
     go_meet
     exact (by rw[←HS.o.2.1,E.o];exact B.o.set 3 _ (rJ _) ⟨rfl,rfl,rfl⟩)
   case rest=>
    generalize wc=v1 at*
    have P1:=U0 hcut
    clear hcut c0 HBk HBc O P0
    have c0:=(P1.o.row.cell 0).trans (show _=some (Value.int .i64 x1) by rw[←P1.o.kd];rfl)
    obtain⟨B1,hB⟩:∃ B,iH.contains x1=B:=⟨_,rfl⟩
    have HBk:=U0 (show B1=(U6 ff 2 !=0) by rw[←hB];exact HB.o.2.1)
    have HBc:=U0 hB
    clear hB
    go_upto_if 31 with (first
     |(go_at_call 55;refine (SH x1 _).mono ?_;rintro e y1 ⟨rfl,k1⟩;rw[HBc.o];have O:=U0 (P1.o.over k1);clear k1))
    go_cut [] (fun wx=>qI w wx p g tb x1 S2 Z)
    case first=>
     clear c0
     cases B1
     ·have hb:U6 ff 2=0:=by have:=HBk.o;simpa using this.symm
      have E:=U0 (show f2 ff S1=S1 by unfold f2;rw[if_pos hb])
      clear hb
      go_wp2_with fail
      go_meet
      exact (by rw[←HS.o.2.2.1,E.o];exact O.o)
     ·have hb: ¬U6 ff 2=0:=by have:=HBk.o;simpa using this.symm
      have E:=U0 (show f2 ff S1=_ by unfold f2;rw[if_neg hb])
      clear hb
      have hw1:IntKind.i64.wrap ((S1.2.1.count 9007199254740991).1-1)=(S1.2.1.count 9007199254740991).1-1:=by
       have h1:=(RS.count_range S1.2.1 9007199254740991).1
       have h2:(S1.2.1.count 9007199254740991).1≤9007199254740991:=(RS.count_range S1.2.1 9007199254740991).2
       rw[IntKind.wrap_i64];omega
      go_wp2_with (first
       |(go_at_call 107;refine (vB p g S1.2.1 9007199254740991 _ O.o.rd (by have:=O.o.len;omega)).mono ?_;intro e u hq;unfold jB at hq;obtain⟨rfl,hr,hk⟩:=hq;have B:=U0 (qI.read (q:=S1.1) (r:=S1.2.1) (pt:=S1.2.2) O.o hr hk W9 (RS.count_short _ _));have y:u.cell? ⟨tb,4,none⟩=some (.int .i64 S1.1.seq):=(B.o.row.cell 4).trans rfl;have y2:=B.o.row.free 4;clear hr hk))
      go_meet
      exact (by rw[←HS.o.2.2.1,E.o];exact B.o.set 4 _ (tJ _) ⟨rfl,rfl,rfl⟩)
    case rest=>
     generalize wc=v2 at*
     have P2:=U0 hcut
     clear hcut c0 HBk HBc O P1
     have c0:=(P2.o.row.cell 0).trans (show _=some (Value.int .i64 x1) by rw[←P2.o.kd];rfl)
     obtain⟨B2,hB⟩:∃ B,DC.contains x1=B:=⟨_,rfl⟩
     have HBk:=U0 (show B2=(U6 ff 4 !=0) by rw[←hB];exact HB.o.2.2.1)
     have HBc:=U0 hB
     clear hB
     go_upto_if 38 with (first
      |(go_at_call 56;refine (gF x1 _).mono ?_;rintro e y1 ⟨rfl,k1⟩;rw[HBc.o];have O:=U0 (P2.o.over k1);clear k1))
     go_cut [] (fun wx=>qI w wx p g tb x1 S3 Z)
     case first=>
      clear c0
      cases B2
      ·have hb:U6 ff 4=0:=by have:=HBk.o;simpa using this.symm
       have E:=U0 (show f3 ff S2=S2 by unfold f3;rw[if_pos hb])
       clear hb
       go_wp2_with fail
       go_meet
       exact (by rw[←HS.o.2.2.2.1,E.o];exact O.o)
      ·have hb: ¬U6 ff 4=0:=by have:=HBk.o;simpa using this.symm
       have E:=U0 (show f3 ff S2=_ by unfold f3;rw[if_neg hb])
       clear hb
       go_wp2_with (first
        |(go_at_call 107;refine (vB p g S2.2.1 9007199254740991 _ O.o.rd (by have:=O.o.len;omega)).mono ?_;intro e u hq;unfold jB at hq;obtain⟨rfl,hr,hk⟩:=hq;have B:=U0 (qI.read (q:=S2.1) (r:=S2.2.1) (pt:=S2.2.2) O.o hr hk W9 (RS.count_short _ _));have y:u.cell? ⟨tb,5,none⟩=some (.int .i64 S2.1.ballot):=(B.o.row.cell 5).trans rfl;have y2:=B.o.row.free 5;clear hr hk))
       go_meet
       exact (by rw[←HS.o.2.2.2.1,E.o];exact B.o.set 5 _ (qJ _) ⟨rfl,rfl,rfl⟩)
     case rest=>
      generalize wc=v3 at*
      have P3:=U0 hcut
      clear hcut c0 HBk HBc O P2
      have c0:=(P3.o.row.cell 0).trans (show _=some (Value.int .i64 x1) by rw[←P3.o.kd];rfl)
      by_cases h8:x1=8
      ·have h8':(x1==8)=true:=by simp[h8]
       have hb: ¬U6 ff 8=0:=by have:=HB.o.2.2.2.1;rw[h8'] at this;simpa using this.symm
       have E:=U0 (show S4=({S3.1 with ready:=decide ((S3.2.1.num 1).1=1)},FW S3.2.1,ZN S3.2.1 S3.2.2) by rw[←HS.o.2.2.2.2.1];unfold f4;rw[if_neg hb])
       obtain⟨n,hn⟩:∃ n,(S3.2.1.num 1).1=n:=⟨_,rfl⟩
       obtain⟨r4,hr4⟩:∃ r,(S3.2.1.num 1).2=r:=⟨_,rfl⟩
       have s4:(r4.l≠[]→S3.2.1.l≠[])∧r4.l.length≤S3.2.1.l.length:=by rw[←hr4];exact⟨nA,U9 _ _⟩
       have hme:1<n→r4.e=0:=fun h=>by rw[←hr4];exact lL (by rw[hn];exact h)
       have HNR:=U0 (U2 hn (U2 hr4 s4))
       have e1:S4.1={S3.1 with ready:=(n==1)}:=by rw[E.o,←hn];rfl
       have e2:S4.2.1=r4:=by rw[E.o,←hr4];rfl
       have e3:S4.2.2=if 1<n then 4 else S3.2.2:=by rw[E.o,←hn];rfl
       have HEq:=U0 (U2 e1 (U2 e2 e3))
       clear h8 hb hn hr4 s4 e1 e2 e3 E
       go_upto_region 13 with (first
        |(go_at_call 106;refine (jC p g S3.2.1 1 _ P3.o.rd (by have:=P3.o.len;omega)).mono ?_;intro e u hq;unfold ZB at hq;rw[HNR.o.1,HNR.o.2.1] at hq;obtain⟨rfl,hr,hk⟩:=hq;have B:=U0 (qI.read (q:=S3.1) (r:=S3.2.1) (pt:=S3.2.2) P3.o hr hk HNR.o.2.2.1 HNR.o.2.2.2);have y:u.cell? ⟨tb,6,none⟩=some (.bool S3.1.ready):=(B.o.row.cell 6).trans rfl;have y2:=B.o.row.free 6;clear hr hk))
       have P5:=U0 (B.o.set 6 (.bool (n==1)) (sJ (n==1)) ⟨rfl,rfl,rfl⟩)
       obtain⟨v4,hv4⟩:∃ v,u.setCell ⟨tb,6,none⟩ (.bool (n==1))=v:=⟨_,rfl⟩
       rw[hv4] at P5
       try rw[hv4]
       obtain⟨q5,hq5⟩:∃ q,({S3.1 with ready:=(n==1)}:PK)=q:=⟨_,rfl⟩
       rw[hq5] at P5 HEq
       clear hv4 y y2 B c0
       by_cases hm:1<n
       ·have he4:(r4.e==0)=true:=by simp[hme hm]
        have hE4:vF b=4:=by rw[hEE.o];unfold R8;rw[show S4.2.2=4 by rw[HEq.o.2.2,if_pos hm]];rfl
        clear hEE
        obtain⟨X4,hX4⟩:∃ X,q8 q5 I4 I4 I4 I4 I4=X:=⟨_,rfl⟩
        have hxl:X4.length=87:=by rw[←hX4];exact G8 P5.o.rn P5.o.an
        have hxo:∀ u∈X4,u.oneCell'=true:=by rw[←hX4];exact yA rfl rfl rfl rfl rfl
        have hrow:l5 v4 tb 34 X4.toArray:=by rw[←hX4];exact P5.o.row
        have rs:∀ wx,l5 wx w.heap.size 34 Z.toArray→l5 (wx.setCells w.heap.size 0 X4) w.heap.size 34 X4.toArray:=fun wx hh=>by
         have:=hh.setL (vs:=X4) (o:=0)
         rw[F7 (by rw[U4,HA.o.2.2.2.2.2,hxl])] at this
         exact this
        have HF:=U0 (U2 hxl rs)
        have HG:=U0 (U2 hrow hxo)
        have HT:V5 (∃ q,Ending.returned (.tuple #[.agg X4.toArray,.int .i64 4])= .returned (.tuple #[.agg (q8 q I4 I4 I4 I4 I4).toArray,.int .i64 (vF b)])∧q.req.name.length=32∧q.ans.name.length=32∧(vF b=0→q=(XC b).1∧YA (v4.setCells w.heap.size 0 X4) p g (XC b).2.1)∧U1 [p] w (v4.setCells w.heap.size 0 X4)):=U0
         ⟨q5,by rw[hX4,hE4],P5.o.rn,P5.o.an,fun h=>(by rw[hE4] at h;exact absurd h (by decide)),P5.o.kp.setL (.inr (Nat.le_refl _))⟩
        clear hX4 hxl hxo hrow rs hE4
        go_wp2_with (first
         |(go_at_call 110;refine (p8 p g r4 _ P5.o.rd).mono ?_;rintro e wy ⟨rfl,rfl⟩)
         |(refine wpList_load_mid rfl 34 (.tmp 4) rfl tb 0 rfl X4 _ HG.o.1.rangeAll underlying34 rfl (by rw[HF.o.1];exact I5) ?_)
         |(refine wpList_store_mid rfl 34 (.tmp 2) (.tmp 57) rfl w.heap.size 0 X4.toArray rfl rfl (P5.o.res.there (by rw[U4,U4,HA.o.2.2.2.2.2,HF.o.1];exact Nat.le_refl _)) (by rw[U4,HF.o.1];exact I5) (all_oneCell_toArray HG.o.2) ?_))
        refine bodyPost_ret (U5 rfl _ _ w.heap.size 34 _ (0,0) _ rfl (HF.o.2 _ P5.o.res) underlying34 rfl (by rw[U4,HF.o.1];exact I5)) rfl ?_
        exact HT.o
       ·have P4:V5 (qI w v4 p g tb x1 S4 Z):=U0 (by
         have h9:S4=(q5,r4,S3.2.2):=by
          have h10:=HEq.o.2.2
          rw[if_neg hm] at h10
          exact Prod.ext HEq.o.1 (Prod.ext HEq.o.2.1 h10)
         rw[h9];exact P5.o)
        by_cases he:r4.e=0
        ·have he4:(r4.e==0)=true:=by simp[he]
         clear he
         go_upto_region 15 with (first
          |(go_at_call 110;refine (p8 p g r4 _ P5.o.rd).mono ?_;rintro e wy ⟨rfl,rfl⟩))
         have Pd:=U0 (P4.o.over ((U1.refl [] v4).drew))
         obtain⟨X4,hX4⟩:∃ X,q8 S4.1 I4 I4 I4 I4 I4=X:=⟨_,rfl⟩
         have hxl:X4.length=87:=by rw[←hX4];exact G8 Pd.o.rn Pd.o.an
         have hxo:∀ u∈X4,u.oneCell'=true:=by rw[←hX4];exact yA rfl rfl rfl rfl rfl
         have hrow:=Pd.o.row
         rw[hX4] at hrow
         have rs:∀ wx,l5 wx w.heap.size 34 Z.toArray→l5 (wx.setCells w.heap.size 0 X4) w.heap.size 34 X4.toArray:=fun wx hh=>by
          have:=hh.setL (vs:=X4) (o:=0)
          rw[F7 (by rw[U4,HA.o.2.2.2.2.2,hxl])] at this
          exact this
         have HF:=U0 (U2 hxl rs)
         have HG:=U0 (U2 hrow hxo)
         have HT:V5 (∃ q,Ending.returned (.tuple #[.agg X4.toArray,.int .i64 S4.2.1.e])= .returned (.tuple #[.agg (q8 q I4 I4 I4 I4 I4).toArray,.int .i64 (vF b)])∧q.req.name.length=32∧q.ans.name.length=32∧(vF b=0→q=(XC b).1∧YA (v4.drew.setCells w.heap.size 0 X4) p g (XC b).2.1)∧U1 [p] w (v4.drew.setCells w.heap.size 0 X4)):=U0 (by
          have ks:=(U1.refl [w.heap.size] v4.drew).setL (vs:=X4) (g:=w.heap.size) (o:=0) (by simp)
          have hlo:=Pd.o.lo
          refine⟨S4.1,by rw[hX4,hEE.o];unfold R8;rw[if_pos Pd.o.pt],Pd.o.rn,Pd.o.an,fun _=>⟨by rw[HS.o.2.2.2.2.2.1],by rw[HS.o.2.2.2.2.2.1];exact Pd.o.rd.keep ks (by simp;omega) (fun hne=>by have:=Pd.o.gl hne;simp;omega)⟩,Pd.o.kp.setL (.inr (Nat.le_refl _))⟩)
         clear hX4 hxl hxo hrow rs
         refine wp_region_held_drew (S:=fun _=>True) (by kernel_rfl) trivial (fun _=> ?_)
         refine wpAnyH_ready (rs:=[0,1]) (by kernel_rfl) (by simp) ?_
         refine AllReadyH.cons (o:=⟨_,_,_,_,_,_⟩) rfl (fun K hK=> ?_) (q9 rfl (fun K hK=> ?_))
         ·refine Z7 rfl 34 (.tmp 4) rfl tb 0 rfl X4 _ HG.o.1.rangeAll underlying34 rfl (by rw[HF.o.1];exact I5) ?_
          refine hK.out _ _ trivial (fun _=> ?_)
          clear hK K
          try simp only[Act.put,F3,U3,V3]
          refine wpAnyH_ready (rs:=[1]) (by kernel_rfl) (by simp) ?_
          refine q9 rfl (fun K hK=> ?_)
          go_simp
          refine hK.out _ _ trivial (fun _=> ?_)
          clear hK K
          try simp only[Act.put,F3,U3,V3]
          refine wpAnyH_ready (rs:=[2]) (by kernel_rfl) (by simp) ?_
          refine q9 rfl (fun K hK=> ?_)
          go_simp
          refine (p8 p g S4.2.1 _ Pd.o.rd).mono ?_
          rintro e wy ⟨rfl,rfl⟩
          go_wp2_with fail
          refine hK.out _ _ trivial (fun _=> ?_)
          clear hK K
          try simp only[Act.put,F3,U3,V3]
          refine wpAnyH_ready (rs:=[3]) (by kernel_rfl) (by simp) ?_
          refine q9 rfl (fun K hK=> ?_)
          refine I6 rfl 34 (.tmp 2) (.tmp 58) rfl w.heap.size 0 X4.toArray rfl rfl (Pd.o.res.there (by rw[U4,U4,HA.o.2.2.2.2.2,HF.o.1];exact Nat.le_refl _)) (by rw[U4,HF.o.1];exact I5) (all_oneCell_toArray HG.o.2) ?_
          refine hK.out _ _ trivial (fun _=> ?_)
          clear hK K
          try simp only[Act.put,F3,U3,V3]
          refine wpAnyH_ready (rs:=[4]) (by kernel_rfl) (by simp) ?_
          refine q9 rfl (fun K hK=> ?_)
          go_simp
          refine hK.out _ _ trivial (fun _=> ?_)
          clear hK K
          try simp only[Act.put,F3,U3,V3]
          refine wpAnyH_done (by kernel_rfl) ?_ _
          go_wp2_with fail
          refine bodyPost_ret (U5 rfl _ _ w.heap.size 34 _ (0,0) _ rfl (HF.o.2 _ Pd.o.res) underlying34 rfl (by rw[U4,HF.o.1];exact I5)) rfl ?_
          exact HT.o
         ·go_simp
          refine hK.out _ _ trivial (fun _=> ?_)
          clear hK K
          try simp only[Act.put,F3,U3,V3]
          refine wpAnyH_ready (rs:=[0,2]) (by kernel_rfl) (by simp) ?_
          refine AllReadyH.cons (o:=⟨_,_,_,_,_,_⟩) rfl (fun K hK=> ?_) (q9 rfl (fun K hK=> ?_))
          ·refine Z7 rfl 34 (.tmp 4) rfl tb 0 rfl X4 _ HG.o.1.rangeAll underlying34 rfl (by rw[HF.o.1];exact I5) ?_
           refine hK.out _ _ trivial (fun _=> ?_)
           clear hK K
           try simp only[Act.put,F3,U3,V3]
           refine wpAnyH_ready (rs:=[2]) (by kernel_rfl) (by simp) ?_
           refine q9 rfl (fun K hK=> ?_)
           go_simp
           refine (p8 p g S4.2.1 _ Pd.o.rd).mono ?_
           rintro e wy ⟨rfl,rfl⟩
           go_wp2_with fail
           refine hK.out _ _ trivial (fun _=> ?_)
           clear hK K
           try simp only[Act.put,F3,U3,V3]
           refine wpAnyH_ready (rs:=[3]) (by kernel_rfl) (by simp) ?_
           refine q9 rfl (fun K hK=> ?_)
           refine I6 rfl 34 (.tmp 2) (.tmp 58) rfl w.heap.size 0 X4.toArray rfl rfl (Pd.o.res.there (by rw[U4,U4,HA.o.2.2.2.2.2,HF.o.1];exact Nat.le_refl _)) (by rw[U4,HF.o.1];exact I5) (all_oneCell_toArray HG.o.2) ?_
           refine hK.out _ _ trivial (fun _=> ?_)
           clear hK K
           try simp only[Act.put,F3,U3,V3]
           refine wpAnyH_ready (rs:=[4]) (by kernel_rfl) (by simp) ?_
           refine q9 rfl (fun K hK=> ?_)
           go_simp
           refine hK.out _ _ trivial (fun _=> ?_)
           clear hK K
           try simp only[Act.put,F3,U3,V3]
           refine wpAnyH_done (by kernel_rfl) ?_ _
           go_wp2_with fail
           refine bodyPost_ret (U5 rfl _ _ w.heap.size 34 _ (0,0) _ rfl (HF.o.2 _ Pd.o.res) underlying34 rfl (by rw[U4,HF.o.1];exact I5)) rfl ?_
           exact HT.o
          ·go_simp
           refine (p8 p g S4.2.1 _ Pd.o.rd).mono ?_
           rintro e wy ⟨rfl,rfl⟩
           go_wp2_with fail
           refine hK.out _ _ trivial (fun _=> ?_)
           clear hK K
           try simp only[Act.put,F3,U3,V3]
           refine wpAnyH_ready (rs:=[0]) (by kernel_rfl) (by simp) ?_
           refine q9 rfl (fun K hK=> ?_)
           refine Z7 rfl 34 (.tmp 4) rfl tb 0 rfl X4 _ HG.o.1.rangeAll underlying34 rfl (by rw[HF.o.1];exact I5) ?_
           refine hK.out _ _ trivial (fun _=> ?_)
           clear hK K
           try simp only[Act.put,F3,U3,V3]
           refine wpAnyH_ready (rs:=[3]) (by kernel_rfl) (by simp) ?_
           refine q9 rfl (fun K hK=> ?_)
           refine I6 rfl 34 (.tmp 2) (.tmp 58) rfl w.heap.size 0 X4.toArray rfl rfl (Pd.o.res.there (by rw[U4,U4,HA.o.2.2.2.2.2,HF.o.1];exact Nat.le_refl _)) (by rw[U4,HF.o.1];exact I5) (all_oneCell_toArray HG.o.2) ?_
           refine hK.out _ _ trivial (fun _=> ?_)
           clear hK K
           try simp only[Act.put,F3,U3,V3]
           refine wpAnyH_ready (rs:=[4]) (by kernel_rfl) (by simp) ?_
           refine q9 rfl (fun K hK=> ?_)
           go_simp
           refine hK.out _ _ trivial (fun _=> ?_)
           clear hK K
           try simp only[Act.put,F3,U3,V3]
           refine wpAnyH_done (by kernel_rfl) ?_ _
           go_wp2_with fail
           refine bodyPost_ret (U5 rfl _ _ w.heap.size 34 _ (0,0) _ rfl (HF.o.2 _ Pd.o.res) underlying34 rfl (by rw[U4,HF.o.1];exact I5)) rfl ?_
           exact HT.o
        ·have he4:(r4.e==0)=false:=by simp[he]
         clear he
         go_upto_region 15 with (first
          |(go_at_call 110;refine (p8 p g r4 _ P5.o.rd).mono ?_;rintro e wy ⟨rfl,rfl⟩))
         have Pd:=U0 (P4.o.over ((U1.refl [] v4).drew))
         obtain⟨X4,hX4⟩:∃ X,q8 S4.1 I4 I4 I4 I4 I4=X:=⟨_,rfl⟩
         have hxl:X4.length=87:=by rw[←hX4];exact G8 Pd.o.rn Pd.o.an
         have hxo:∀ u∈X4,u.oneCell'=true:=by rw[←hX4];exact yA rfl rfl rfl rfl rfl
         have hrow:=Pd.o.row
         rw[hX4] at hrow
         have rs:∀ wx,l5 wx w.heap.size 34 Z.toArray→l5 (wx.setCells w.heap.size 0 X4) w.heap.size 34 X4.toArray:=fun wx hh=>by
          have:=hh.setL (vs:=X4) (o:=0)
          rw[F7 (by rw[U4,HA.o.2.2.2.2.2,hxl])] at this
          exact this
         have HF:=U0 (U2 hxl rs)
         have HG:=U0 (U2 hrow hxo)
         have HT:V5 (∃ q,Ending.returned (.tuple #[.agg X4.toArray,.int .i64 S4.2.1.e])= .returned (.tuple #[.agg (q8 q I4 I4 I4 I4 I4).toArray,.int .i64 (vF b)])∧q.req.name.length=32∧q.ans.name.length=32∧(vF b=0→q=(XC b).1∧YA (v4.drew.setCells w.heap.size 0 X4) p g (XC b).2.1)∧U1 [p] w (v4.drew.setCells w.heap.size 0 X4)):=U0 (by
          have ks:=(U1.refl [w.heap.size] v4.drew).setL (vs:=X4) (g:=w.heap.size) (o:=0) (by simp)
          have hlo:=Pd.o.lo
          refine⟨S4.1,by rw[hX4,hEE.o];unfold R8;rw[if_pos Pd.o.pt],Pd.o.rn,Pd.o.an,fun _=>⟨by rw[HS.o.2.2.2.2.2.1],by rw[HS.o.2.2.2.2.2.1];exact Pd.o.rd.keep ks (by simp;omega) (fun hne=>by have:=Pd.o.gl hne;simp;omega)⟩,Pd.o.kp.setL (.inr (Nat.le_refl _))⟩)
         clear hX4 hxl hxo hrow rs
         refine wp_region_held_drew (S:=fun _=>True) (by kernel_rfl) trivial (fun _=> ?_)
         refine wpAnyH_ready (rs:=[0,1]) (by kernel_rfl) (by simp) ?_
         refine AllReadyH.cons (o:=⟨_,_,_,_,_,_⟩) rfl (fun K hK=> ?_) (q9 rfl (fun K hK=> ?_))
         ·refine Z7 rfl 34 (.tmp 4) rfl tb 0 rfl X4 _ HG.o.1.rangeAll underlying34 rfl (by rw[HF.o.1];exact I5) ?_
          refine hK.out _ _ trivial (fun _=> ?_)
          clear hK K
          try simp only[Act.put,F3,U3,V3]
          refine wpAnyH_ready (rs:=[1]) (by kernel_rfl) (by simp) ?_
          refine q9 rfl (fun K hK=> ?_)
          go_simp
          refine hK.out _ _ trivial (fun _=> ?_)
          clear hK K
          try simp only[Act.put,F3,U3,V3]
          refine wpAnyH_ready (rs:=[2]) (by kernel_rfl) (by simp) ?_
          refine q9 rfl (fun K hK=> ?_)
          go_simp
          refine (p8 p g S4.2.1 _ Pd.o.rd).mono ?_
          rintro e wy ⟨rfl,rfl⟩
          go_wp2_with fail
          refine hK.out _ _ trivial (fun _=> ?_)
          clear hK K
          try simp only[Act.put,F3,U3,V3]
          refine wpAnyH_ready (rs:=[3]) (by kernel_rfl) (by simp) ?_
          refine q9 rfl (fun K hK=> ?_)
          refine I6 rfl 34 (.tmp 2) (.tmp 58) rfl w.heap.size 0 X4.toArray rfl rfl (Pd.o.res.there (by rw[U4,U4,HA.o.2.2.2.2.2,HF.o.1];exact Nat.le_refl _)) (by rw[U4,HF.o.1];exact I5) (all_oneCell_toArray HG.o.2) ?_
          refine hK.out _ _ trivial (fun _=> ?_)
          clear hK K
          try simp only[Act.put,F3,U3,V3]
          refine wpAnyH_ready (rs:=[4]) (by kernel_rfl) (by simp) ?_
          refine q9 rfl (fun K hK=> ?_)
          go_simp
          refine hK.out _ _ trivial (fun _=> ?_)
          clear hK K
          try simp only[Act.put,F3,U3,V3]
          refine wpAnyH_done (by kernel_rfl) ?_ _
          go_wp2_with fail
          refine bodyPost_ret (U5 rfl _ _ w.heap.size 34 _ (0,0) _ rfl (HF.o.2 _ Pd.o.res) underlying34 rfl (by rw[U4,HF.o.1];exact I5)) rfl ?_
          exact HT.o
         ·go_simp
          refine hK.out _ _ trivial (fun _=> ?_)
          clear hK K
          try simp only[Act.put,F3,U3,V3]
          refine wpAnyH_ready (rs:=[0,2]) (by kernel_rfl) (by simp) ?_
          refine AllReadyH.cons (o:=⟨_,_,_,_,_,_⟩) rfl (fun K hK=> ?_) (q9 rfl (fun K hK=> ?_))
          ·refine Z7 rfl 34 (.tmp 4) rfl tb 0 rfl X4 _ HG.o.1.rangeAll underlying34 rfl (by rw[HF.o.1];exact I5) ?_
           refine hK.out _ _ trivial (fun _=> ?_)
           clear hK K
           try simp only[Act.put,F3,U3,V3]
           refine wpAnyH_ready (rs:=[2]) (by kernel_rfl) (by simp) ?_
           refine q9 rfl (fun K hK=> ?_)
           go_simp
           refine (p8 p g S4.2.1 _ Pd.o.rd).mono ?_
           rintro e wy ⟨rfl,rfl⟩
           go_wp2_with fail
           refine hK.out _ _ trivial (fun _=> ?_)
           clear hK K
           try simp only[Act.put,F3,U3,V3]
           refine wpAnyH_ready (rs:=[3]) (by kernel_rfl) (by simp) ?_
           refine q9 rfl (fun K hK=> ?_)
           refine I6 rfl 34 (.tmp 2) (.tmp 58) rfl w.heap.size 0 X4.toArray rfl rfl (Pd.o.res.there (by rw[U4,U4,HA.o.2.2.2.2.2,HF.o.1];exact Nat.le_refl _)) (by rw[U4,HF.o.1];exact I5) (all_oneCell_toArray HG.o.2) ?_
           refine hK.out _ _ trivial (fun _=> ?_)
           clear hK K
           try simp only[Act.put,F3,U3,V3]
           refine wpAnyH_ready (rs:=[4]) (by kernel_rfl) (by simp) ?_
           refine q9 rfl (fun K hK=> ?_)
           go_simp
           refine hK.out _ _ trivial (fun _=> ?_)
           clear hK K
           try simp only[Act.put,F3,U3,V3]
           refine wpAnyH_done (by kernel_rfl) ?_ _
           go_wp2_with fail
           refine bodyPost_ret (U5 rfl _ _ w.heap.size 34 _ (0,0) _ rfl (HF.o.2 _ Pd.o.res) underlying34 rfl (by rw[U4,HF.o.1];exact I5)) rfl ?_
           exact HT.o
          ·go_simp
           refine (p8 p g S4.2.1 _ Pd.o.rd).mono ?_
           rintro e wy ⟨rfl,rfl⟩
           go_wp2_with fail
           refine hK.out _ _ trivial (fun _=> ?_)
           clear hK K
           try simp only[Act.put,F3,U3,V3]
           refine wpAnyH_ready (rs:=[0]) (by kernel_rfl) (by simp) ?_
           refine q9 rfl (fun K hK=> ?_)
           refine Z7 rfl 34 (.tmp 4) rfl tb 0 rfl X4 _ HG.o.1.rangeAll underlying34 rfl (by rw[HF.o.1];exact I5) ?_
           refine hK.out _ _ trivial (fun _=> ?_)
           clear hK K
           try simp only[Act.put,F3,U3,V3]
           refine wpAnyH_ready (rs:=[3]) (by kernel_rfl) (by simp) ?_
           refine q9 rfl (fun K hK=> ?_)
           refine I6 rfl 34 (.tmp 2) (.tmp 58) rfl w.heap.size 0 X4.toArray rfl rfl (Pd.o.res.there (by rw[U4,U4,HA.o.2.2.2.2.2,HF.o.1];exact Nat.le_refl _)) (by rw[U4,HF.o.1];exact I5) (all_oneCell_toArray HG.o.2) ?_
           refine hK.out _ _ trivial (fun _=> ?_)
           clear hK K
           try simp only[Act.put,F3,U3,V3]
           refine wpAnyH_ready (rs:=[4]) (by kernel_rfl) (by simp) ?_
           refine q9 rfl (fun K hK=> ?_)
           go_simp
           refine hK.out _ _ trivial (fun _=> ?_)
           clear hK K
           try simp only[Act.put,F3,U3,V3]
           refine wpAnyH_done (by kernel_rfl) ?_ _
           go_wp2_with fail
           refine bodyPost_ret (U5 rfl _ _ w.heap.size 34 _ (0,0) _ rfl (HF.o.2 _ Pd.o.res) underlying34 rfl (by rw[U4,HF.o.1];exact I5)) rfl ?_
           exact HT.o
      ·have h8':(x1==8)=false:=by simp[h8]
       have hb:U6 ff 8=0:=by have:=HB.o.2.2.2.1;rw[h8'] at this;simpa using this.symm
       have E:=U0 (show S4=S3 by rw[←HS.o.2.2.2.2.1];unfold f4;rw[if_pos hb])
       have P4:V5 (qI w v3 p g tb x1 S4 Z):=U0 (by rw[E.o];exact P3.o)
       clear h8 hb
       go_upto_region 15 with fail
       have Pd:=U0 (P4.o.over ((U1.refl [] v3).drew))
       obtain⟨X4,hX4⟩:∃ X,q8 S4.1 I4 I4 I4 I4 I4=X:=⟨_,rfl⟩
       have hxl:X4.length=87:=by rw[←hX4];exact G8 Pd.o.rn Pd.o.an
       have hxo:∀ u∈X4,u.oneCell'=true:=by rw[←hX4];exact yA rfl rfl rfl rfl rfl
       have hrow:=Pd.o.row
       rw[hX4] at hrow
       have rs:∀ wx,l5 wx w.heap.size 34 Z.toArray→l5 (wx.setCells w.heap.size 0 X4) w.heap.size 34 X4.toArray:=fun wx hh=>by
        have:=hh.setL (vs:=X4) (o:=0)
        rw[F7 (by rw[U4,HA.o.2.2.2.2.2,hxl])] at this
        exact this
       have HF:=U0 (U2 hxl rs)
       have HG:=U0 (U2 hrow hxo)
       have HT:V5 (∃ q,Ending.returned (.tuple #[.agg X4.toArray,.int .i64 S4.2.1.e])= .returned (.tuple #[.agg (q8 q I4 I4 I4 I4 I4).toArray,.int .i64 (vF b)])∧q.req.name.length=32∧q.ans.name.length=32∧(vF b=0→q=(XC b).1∧YA (v3.drew.setCells w.heap.size 0 X4) p g (XC b).2.1)∧U1 [p] w (v3.drew.setCells w.heap.size 0 X4)):=U0 (by
        have ks:=(U1.refl [w.heap.size] v3.drew).setL (vs:=X4) (g:=w.heap.size) (o:=0) (by simp)
        have hlo:=Pd.o.lo
        refine⟨S4.1,by rw[hX4,hEE.o];unfold R8;rw[if_pos Pd.o.pt],Pd.o.rn,Pd.o.an,fun _=>⟨by rw[HS.o.2.2.2.2.2.1],by rw[HS.o.2.2.2.2.2.1];exact Pd.o.rd.keep ks (by simp;omega) (fun hne=>by have:=Pd.o.gl hne;simp;omega)⟩,Pd.o.kp.setL (.inr (Nat.le_refl _))⟩)
       clear hX4 hxl hxo hrow rs
       refine wp_region_held_drew (S:=fun _=>True) (by kernel_rfl) trivial (fun _=> ?_)
       refine wpAnyH_ready (rs:=[0,1]) (by kernel_rfl) (by simp) ?_
       refine AllReadyH.cons (o:=⟨_,_,_,_,_,_⟩) rfl (fun K hK=> ?_) (q9 rfl (fun K hK=> ?_))
       ·refine Z7 rfl 34 (.tmp 4) rfl tb 0 rfl X4 _ HG.o.1.rangeAll underlying34 rfl (by rw[HF.o.1];exact I5) ?_
        refine hK.out _ _ trivial (fun _=> ?_)
        clear hK K
        try simp only[Act.put,F3,U3,V3]
        refine wpAnyH_ready (rs:=[1]) (by kernel_rfl) (by simp) ?_
        refine q9 rfl (fun K hK=> ?_)
        go_simp
        refine hK.out _ _ trivial (fun _=> ?_)
        clear hK K
        try simp only[Act.put,F3,U3,V3]
        refine wpAnyH_ready (rs:=[2]) (by kernel_rfl) (by simp) ?_
        refine q9 rfl (fun K hK=> ?_)
        go_simp
        refine (p8 p g S4.2.1 _ Pd.o.rd).mono ?_
        rintro e wy ⟨rfl,rfl⟩
        go_wp2_with fail
        refine hK.out _ _ trivial (fun _=> ?_)
        clear hK K
        try simp only[Act.put,F3,U3,V3]
        refine wpAnyH_ready (rs:=[3]) (by kernel_rfl) (by simp) ?_
        refine q9 rfl (fun K hK=> ?_)
        refine I6 rfl 34 (.tmp 2) (.tmp 58) rfl w.heap.size 0 X4.toArray rfl rfl (Pd.o.res.there (by rw[U4,U4,HA.o.2.2.2.2.2,HF.o.1];exact Nat.le_refl _)) (by rw[U4,HF.o.1];exact I5) (all_oneCell_toArray HG.o.2) ?_
        refine hK.out _ _ trivial (fun _=> ?_)
        clear hK K
        try simp only[Act.put,F3,U3,V3]
        refine wpAnyH_ready (rs:=[4]) (by kernel_rfl) (by simp) ?_
        refine q9 rfl (fun K hK=> ?_)
        go_simp
        refine hK.out _ _ trivial (fun _=> ?_)
        clear hK K
        try simp only[Act.put,F3,U3,V3]
        refine wpAnyH_done (by kernel_rfl) ?_ _
        go_wp2_with fail
        refine bodyPost_ret (U5 rfl _ _ w.heap.size 34 _ (0,0) _ rfl (HF.o.2 _ Pd.o.res) underlying34 rfl (by rw[U4,HF.o.1];exact I5)) rfl ?_
        exact HT.o
       ·go_simp
        refine hK.out _ _ trivial (fun _=> ?_)
        clear hK K
        try simp only[Act.put,F3,U3,V3]
        refine wpAnyH_ready (rs:=[0,2]) (by kernel_rfl) (by simp) ?_
        refine AllReadyH.cons (o:=⟨_,_,_,_,_,_⟩) rfl (fun K hK=> ?_) (q9 rfl (fun K hK=> ?_))
        ·refine Z7 rfl 34 (.tmp 4) rfl tb 0 rfl X4 _ HG.o.1.rangeAll underlying34 rfl (by rw[HF.o.1];exact I5) ?_
         refine hK.out _ _ trivial (fun _=> ?_)
         clear hK K
         try simp only[Act.put,F3,U3,V3]
         refine wpAnyH_ready (rs:=[2]) (by kernel_rfl) (by simp) ?_
         refine q9 rfl (fun K hK=> ?_)
         go_simp
         refine (p8 p g S4.2.1 _ Pd.o.rd).mono ?_
         rintro e wy ⟨rfl,rfl⟩
         go_wp2_with fail
         refine hK.out _ _ trivial (fun _=> ?_)
         clear hK K
         try simp only[Act.put,F3,U3,V3]
         refine wpAnyH_ready (rs:=[3]) (by kernel_rfl) (by simp) ?_
         refine q9 rfl (fun K hK=> ?_)
         refine I6 rfl 34 (.tmp 2) (.tmp 58) rfl w.heap.size 0 X4.toArray rfl rfl (Pd.o.res.there (by rw[U4,U4,HA.o.2.2.2.2.2,HF.o.1];exact Nat.le_refl _)) (by rw[U4,HF.o.1];exact I5) (all_oneCell_toArray HG.o.2) ?_
         refine hK.out _ _ trivial (fun _=> ?_)
         clear hK K
         try simp only[Act.put,F3,U3,V3]
         refine wpAnyH_ready (rs:=[4]) (by kernel_rfl) (by simp) ?_
         refine q9 rfl (fun K hK=> ?_)
         go_simp
         refine hK.out _ _ trivial (fun _=> ?_)
         clear hK K
         try simp only[Act.put,F3,U3,V3]
         refine wpAnyH_done (by kernel_rfl) ?_ _
         go_wp2_with fail
         refine bodyPost_ret (U5 rfl _ _ w.heap.size 34 _ (0,0) _ rfl (HF.o.2 _ Pd.o.res) underlying34 rfl (by rw[U4,HF.o.1];exact I5)) rfl ?_
         exact HT.o
        ·go_simp
         refine (p8 p g S4.2.1 _ Pd.o.rd).mono ?_
         rintro e wy ⟨rfl,rfl⟩
         go_wp2_with fail
         refine hK.out _ _ trivial (fun _=> ?_)
         clear hK K
         try simp only[Act.put,F3,U3,V3]
         refine wpAnyH_ready (rs:=[0]) (by kernel_rfl) (by simp) ?_
         refine q9 rfl (fun K hK=> ?_)
         refine Z7 rfl 34 (.tmp 4) rfl tb 0 rfl X4 _ HG.o.1.rangeAll underlying34 rfl (by rw[HF.o.1];exact I5) ?_
         refine hK.out _ _ trivial (fun _=> ?_)
         clear hK K
         try simp only[Act.put,F3,U3,V3]
         refine wpAnyH_ready (rs:=[3]) (by kernel_rfl) (by simp) ?_
         refine q9 rfl (fun K hK=> ?_)
         refine I6 rfl 34 (.tmp 2) (.tmp 58) rfl w.heap.size 0 X4.toArray rfl rfl (Pd.o.res.there (by rw[U4,U4,HA.o.2.2.2.2.2,HF.o.1];exact Nat.le_refl _)) (by rw[U4,HF.o.1];exact I5) (all_oneCell_toArray HG.o.2) ?_
         refine hK.out _ _ trivial (fun _=> ?_)
         clear hK K
         try simp only[Act.put,F3,U3,V3]
         refine wpAnyH_ready (rs:=[4]) (by kernel_rfl) (by simp) ?_
         refine q9 rfl (fun K hK=> ?_)
         go_simp
         refine hK.out _ _ trivial (fun _=> ?_)
         clear hK K
         try simp only[Act.put,F3,U3,V3]
         refine wpAnyH_done (by kernel_rfl) ?_ _
         go_wp2_with fail
         refine bodyPost_ret (U5 rfl _ _ w.heap.size 34 _ (0,0) _ rfl (HF.o.2 _ Pd.o.res) underlying34 rfl (by rw[U4,HF.o.1];exact I5)) rfl ?_
         exact HT.o
 ·have hEE:=U0 (show vF b=R8 S4.2.2 S4.2.1.e by rw[HS.o.2.2.2.2.2.2,if_neg (fun h=>he h.1)])
  have he':(r3.e==0)=false:=by simp[he]
  clear he
  go_upto_region 4 with (first
   |(go_at_call 110;refine (p8 p g r3 _ (h03▸P0.o.rd)).mono ?_;rintro e wy ⟨rfl,rfl⟩))
  clear c0 he' h03
  have c0:=(P0.o.row.cell 0).trans (show _=some (Value.int .i64 x1) by rw[←P0.o.kd];rfl)
  obtain⟨B0,hB⟩:∃ B,gH.contains x1=B:=⟨_,rfl⟩
  have HBk:=U0 (show B0=(U6 ff 1 !=0) by rw[←hB];exact HB.o.1)
  have HBc:=U0 hB
  clear hB
  go_upto_if 25 with (first
   |(go_at_call 53;refine (RH x1 _).mono ?_;rintro e y1 ⟨rfl,k1⟩;rw[HBc.o];have O:=U0 (P0.o.over k1);clear k1))
  go_cut [] (fun wx=>qI w wx p g tb x1 S1 Z)
  case first=>
   clear c0
   cases B0
   ·have hb:U6 ff 1=0:=by have:=HBk.o;simpa using this.symm
    have E:=U0 (show f1 ff S0=S0 by unfold f1;rw[if_pos hb])
    clear hb
    go_wp2_with fail
    go_meet
    exact (by rw[←HS.o.2.1,E.o];exact O.o)
   ·have hb: ¬U6 ff 1=0:=by have:=HBk.o;simpa using this.symm
    have E:=U0 (show f1 ff S0=_ by unfold f1;rw[if_neg hb])
    clear hb
    go_wp2_with (first
     |(go_at_call 107;refine (vB p g S0.2.1 9007199254740991 _ O.o.rd (by have:=O.o.len;omega)).mono ?_;intro e u hq;unfold jB at hq;obtain⟨rfl,hr,hk⟩:=hq;have B:=U0 (qI.read (q:=S0.1) (r:=S0.2.1) (pt:=S0.2.2) O.o hr hk W9 (RS.count_short _ _));have y:u.cell? ⟨tb,3,none⟩=some (.int .i64 S0.1.num):=(B.o.row.cell 3).trans rfl;have y2:=B.o.row.free 3;clear hr hk))
    go_meet
    exact (by rw[←HS.o.2.1,E.o];exact B.o.set 3 _ (rJ _) ⟨rfl,rfl,rfl⟩)
  case rest=>
   generalize wc=v1 at*
   have P1:=U0 hcut
   clear hcut c0 HBk HBc O P0
   have c0:=(P1.o.row.cell 0).trans (show _=some (Value.int .i64 x1) by rw[←P1.o.kd];rfl)
   obtain⟨B1,hB⟩:∃ B,iH.contains x1=B:=⟨_,rfl⟩
   have HBk:=U0 (show B1=(U6 ff 2 !=0) by rw[←hB];exact HB.o.2.1)
   have HBc:=U0 hB
   clear hB
   go_upto_if 31 with (first
    |(go_at_call 55;refine (SH x1 _).mono ?_;rintro e y1 ⟨rfl,k1⟩;rw[HBc.o];have O:=U0 (P1.o.over k1);clear k1))
   go_cut [] (fun wx=>qI w wx p g tb x1 S2 Z)
   case first=>
    clear c0
    cases B1
    ·have hb:U6 ff 2=0:=by have:=HBk.o;simpa using this.symm
     have E:=U0 (show f2 ff S1=S1 by unfold f2;rw[if_pos hb])
     clear hb
     go_wp2_with fail
     go_meet
     exact (by rw[←HS.o.2.2.1,E.o];exact O.o)
    ·have hb: ¬U6 ff 2=0:=by have:=HBk.o;simpa using this.symm
     have E:=U0 (show f2 ff S1=_ by unfold f2;rw[if_neg hb])
     clear hb
     have hw1:IntKind.i64.wrap ((S1.2.1.count 9007199254740991).1-1)=(S1.2.1.count 9007199254740991).1-1:=by
      have h1:=(RS.count_range S1.2.1 9007199254740991).1
      have h2:(S1.2.1.count 9007199254740991).1≤9007199254740991:=(RS.count_range S1.2.1 9007199254740991).2
      rw[IntKind.wrap_i64];omega
     go_wp2_with (first
      |(go_at_call 107;refine (vB p g S1.2.1 9007199254740991 _ O.o.rd (by have:=O.o.len;omega)).mono ?_;intro e u hq;unfold jB at hq;obtain⟨rfl,hr,hk⟩:=hq;have B:=U0 (qI.read (q:=S1.1) (r:=S1.2.1) (pt:=S1.2.2) O.o hr hk W9 (RS.count_short _ _));have y:u.cell? ⟨tb,4,none⟩=some (.int .i64 S1.1.seq):=(B.o.row.cell 4).trans rfl;have y2:=B.o.row.free 4;clear hr hk))
     go_meet
     exact (by rw[←HS.o.2.2.1,E.o];exact B.o.set 4 _ (tJ _) ⟨rfl,rfl,rfl⟩)
   case rest=>
    generalize wc=v2 at*
    have P2:=U0 hcut
    clear hcut c0 HBk HBc O P1
    have c0:=(P2.o.row.cell 0).trans (show _=some (Value.int .i64 x1) by rw[←P2.o.kd];rfl)
    obtain⟨B2,hB⟩:∃ B,DC.contains x1=B:=⟨_,rfl⟩
    have HBk:=U0 (show B2=(U6 ff 4 !=0) by rw[←hB];exact HB.o.2.2.1)
    have HBc:=U0 hB
    clear hB
    go_upto_if 38 with (first
     |(go_at_call 56;refine (gF x1 _).mono ?_;rintro e y1 ⟨rfl,k1⟩;rw[HBc.o];have O:=U0 (P2.o.over k1);clear k1))
    go_cut [] (fun wx=>qI w wx p g tb x1 S3 Z)
    case first=>
     clear c0
     cases B2
     ·have hb:U6 ff 4=0:=by have:=HBk.o;simpa using this.symm
      have E:=U0 (show f3 ff S2=S2 by unfold f3;rw[if_pos hb])
      clear hb
      go_wp2_with fail
      go_meet
      exact (by rw[←HS.o.2.2.2.1,E.o];exact O.o)
     ·have hb: ¬U6 ff 4=0:=by have:=HBk.o;simpa using this.symm
      have E:=U0 (show f3 ff S2=_ by unfold f3;rw[if_neg hb])
      clear hb
      go_wp2_with (first
       |(go_at_call 107;refine (vB p g S2.2.1 9007199254740991 _ O.o.rd (by have:=O.o.len;omega)).mono ?_;intro e u hq;unfold jB at hq;obtain⟨rfl,hr,hk⟩:=hq;have B:=U0 (qI.read (q:=S2.1) (r:=S2.2.1) (pt:=S2.2.2) O.o hr hk W9 (RS.count_short _ _));have y:u.cell? ⟨tb,5,none⟩=some (.int .i64 S2.1.ballot):=(B.o.row.cell 5).trans rfl;have y2:=B.o.row.free 5;clear hr hk))
      go_meet
      exact (by rw[←HS.o.2.2.2.1,E.o];exact B.o.set 5 _ (qJ _) ⟨rfl,rfl,rfl⟩)
    case rest=>
     generalize wc=v3 at*
     have P3:=U0 hcut
     clear hcut c0 HBk HBc O P2
     have c0:=(P3.o.row.cell 0).trans (show _=some (Value.int .i64 x1) by rw[←P3.o.kd];rfl)
     by_cases h8:x1=8
     ·have h8':(x1==8)=true:=by simp[h8]
      have hb: ¬U6 ff 8=0:=by have:=HB.o.2.2.2.1;rw[h8'] at this;simpa using this.symm
      have E:=U0 (show S4=({S3.1 with ready:=decide ((S3.2.1.num 1).1=1)},FW S3.2.1,ZN S3.2.1 S3.2.2) by rw[←HS.o.2.2.2.2.1];unfold f4;rw[if_neg hb])
      obtain⟨n,hn⟩:∃ n,(S3.2.1.num 1).1=n:=⟨_,rfl⟩
      obtain⟨r4,hr4⟩:∃ r,(S3.2.1.num 1).2=r:=⟨_,rfl⟩
      have s4:(r4.l≠[]→S3.2.1.l≠[])∧r4.l.length≤S3.2.1.l.length:=by rw[←hr4];exact⟨nA,U9 _ _⟩
      have hme:1<n→r4.e=0:=fun h=>by rw[←hr4];exact lL (by rw[hn];exact h)
      have HNR:=U0 (U2 hn (U2 hr4 s4))
      have e1:S4.1={S3.1 with ready:=(n==1)}:=by rw[E.o,←hn];rfl
      have e2:S4.2.1=r4:=by rw[E.o,←hr4];rfl
      have e3:S4.2.2=if 1<n then 4 else S3.2.2:=by rw[E.o,←hn];rfl
      have HEq:=U0 (U2 e1 (U2 e2 e3))
      clear h8 hb hn hr4 s4 e1 e2 e3 E
      go_upto_region 13 with (first
       |(go_at_call 106;refine (jC p g S3.2.1 1 _ P3.o.rd (by have:=P3.o.len;omega)).mono ?_;intro e u hq;unfold ZB at hq;rw[HNR.o.1,HNR.o.2.1] at hq;obtain⟨rfl,hr,hk⟩:=hq;have B:=U0 (qI.read (q:=S3.1) (r:=S3.2.1) (pt:=S3.2.2) P3.o hr hk HNR.o.2.2.1 HNR.o.2.2.2);have y:u.cell? ⟨tb,6,none⟩=some (.bool S3.1.ready):=(B.o.row.cell 6).trans rfl;have y2:=B.o.row.free 6;clear hr hk))
      have P5:=U0 (B.o.set 6 (.bool (n==1)) (sJ (n==1)) ⟨rfl,rfl,rfl⟩)
      obtain⟨v4,hv4⟩:∃ v,u.setCell ⟨tb,6,none⟩ (.bool (n==1))=v:=⟨_,rfl⟩
      rw[hv4] at P5
      try rw[hv4]
      obtain⟨q5,hq5⟩:∃ q,({S3.1 with ready:=(n==1)}:PK)=q:=⟨_,rfl⟩
      rw[hq5] at P5 HEq
      clear hv4 y y2 B c0
      by_cases hm:1<n
      ·have he4:(r4.e==0)=true:=by simp[hme hm]
       have hE4:vF b=4:=by rw[hEE.o];unfold R8;rw[show S4.2.2=4 by rw[HEq.o.2.2,if_pos hm]];rfl
       clear hEE
       obtain⟨X4,hX4⟩:∃ X,q8 q5 I4 I4 I4 I4 I4=X:=⟨_,rfl⟩
       have hxl:X4.length=87:=by rw[←hX4];exact G8 P5.o.rn P5.o.an
       have hxo:∀ u∈X4,u.oneCell'=true:=by rw[←hX4];exact yA rfl rfl rfl rfl rfl
       have hrow:l5 v4 tb 34 X4.toArray:=by rw[←hX4];exact P5.o.row
       have rs:∀ wx,l5 wx w.heap.size 34 Z.toArray→l5 (wx.setCells w.heap.size 0 X4) w.heap.size 34 X4.toArray:=fun wx hh=>by
        have:=hh.setL (vs:=X4) (o:=0)
        rw[F7 (by rw[U4,HA.o.2.2.2.2.2,hxl])] at this
        exact this
       have HF:=U0 (U2 hxl rs)
       have HG:=U0 (U2 hrow hxo)
       have HT:V5 (∃ q,Ending.returned (.tuple #[.agg X4.toArray,.int .i64 4])= .returned (.tuple #[.agg (q8 q I4 I4 I4 I4 I4).toArray,.int .i64 (vF b)])∧q.req.name.length=32∧q.ans.name.length=32∧(vF b=0→q=(XC b).1∧YA (v4.setCells w.heap.size 0 X4) p g (XC b).2.1)∧U1 [p] w (v4.setCells w.heap.size 0 X4)):=U0
        ⟨q5,by rw[hX4,hE4],P5.o.rn,P5.o.an,fun h=>(by rw[hE4] at h;exact absurd h (by decide)),P5.o.kp.setL (.inr (Nat.le_refl _))⟩
       clear hX4 hxl hxo hrow rs hE4
       go_wp2_with (first
        |(go_at_call 110;refine (p8 p g r4 _ P5.o.rd).mono ?_;rintro e wy ⟨rfl,rfl⟩)
        |(refine wpList_load_mid rfl 34 (.tmp 4) rfl tb 0 rfl X4 _ HG.o.1.rangeAll underlying34 rfl (by rw[HF.o.1];exact I5) ?_)
        |(refine wpList_store_mid rfl 34 (.tmp 2) (.tmp 57) rfl w.heap.size 0 X4.toArray rfl rfl (P5.o.res.there (by rw[U4,U4,HA.o.2.2.2.2.2,HF.o.1];exact Nat.le_refl _)) (by rw[U4,HF.o.1];exact I5) (all_oneCell_toArray HG.o.2) ?_))
       refine bodyPost_ret (U5 rfl _ _ w.heap.size 34 _ (0,0) _ rfl (HF.o.2 _ P5.o.res) underlying34 rfl (by rw[U4,HF.o.1];exact I5)) rfl ?_
       exact HT.o
      ·have P4:V5 (qI w v4 p g tb x1 S4 Z):=U0 (by
        have h9:S4=(q5,r4,S3.2.2):=by
         have h10:=HEq.o.2.2
         rw[if_neg hm] at h10
         exact Prod.ext HEq.o.1 (Prod.ext HEq.o.2.1 h10)
        rw[h9];exact P5.o)
       by_cases he:r4.e=0
       ·have he4:(r4.e==0)=true:=by simp[he]
        clear he
        go_upto_region 15 with (first
         |(go_at_call 110;refine (p8 p g r4 _ P5.o.rd).mono ?_;rintro e wy ⟨rfl,rfl⟩))
        have Pd:=U0 (P4.o.over ((U1.refl [] v4).drew))
        obtain⟨X4,hX4⟩:∃ X,q8 S4.1 I4 I4 I4 I4 I4=X:=⟨_,rfl⟩
        have hxl:X4.length=87:=by rw[←hX4];exact G8 Pd.o.rn Pd.o.an
        have hxo:∀ u∈X4,u.oneCell'=true:=by rw[←hX4];exact yA rfl rfl rfl rfl rfl
        have hrow:=Pd.o.row
        rw[hX4] at hrow
        have rs:∀ wx,l5 wx w.heap.size 34 Z.toArray→l5 (wx.setCells w.heap.size 0 X4) w.heap.size 34 X4.toArray:=fun wx hh=>by
         have:=hh.setL (vs:=X4) (o:=0)
         rw[F7 (by rw[U4,HA.o.2.2.2.2.2,hxl])] at this
         exact this
        have HF:=U0 (U2 hxl rs)
        have HG:=U0 (U2 hrow hxo)
        have HT:V5 (∃ q,Ending.returned (.tuple #[.agg X4.toArray,.int .i64 S4.2.1.e])= .returned (.tuple #[.agg (q8 q I4 I4 I4 I4 I4).toArray,.int .i64 (vF b)])∧q.req.name.length=32∧q.ans.name.length=32∧(vF b=0→q=(XC b).1∧YA (v4.drew.setCells w.heap.size 0 X4) p g (XC b).2.1)∧U1 [p] w (v4.drew.setCells w.heap.size 0 X4)):=U0 (by
         have ks:=(U1.refl [w.heap.size] v4.drew).setL (vs:=X4) (g:=w.heap.size) (o:=0) (by simp)
         have hlo:=Pd.o.lo
         refine⟨S4.1,by rw[hX4,hEE.o];unfold R8;rw[if_pos Pd.o.pt],Pd.o.rn,Pd.o.an,fun _=>⟨by rw[HS.o.2.2.2.2.2.1],by rw[HS.o.2.2.2.2.2.1];exact Pd.o.rd.keep ks (by simp;omega) (fun hne=>by have:=Pd.o.gl hne;simp;omega)⟩,Pd.o.kp.setL (.inr (Nat.le_refl _))⟩)
        clear hX4 hxl hxo hrow rs
        refine wp_region_held_drew (S:=fun _=>True) (by kernel_rfl) trivial (fun _=> ?_)
        refine wpAnyH_ready (rs:=[0,1]) (by kernel_rfl) (by simp) ?_
        refine AllReadyH.cons (o:=⟨_,_,_,_,_,_⟩) rfl (fun K hK=> ?_) (q9 rfl (fun K hK=> ?_))
        ·refine Z7 rfl 34 (.tmp 4) rfl tb 0 rfl X4 _ HG.o.1.rangeAll underlying34 rfl (by rw[HF.o.1];exact I5) ?_
         refine hK.out _ _ trivial (fun _=> ?_)
         clear hK K
         try simp only[Act.put,F3,U3,V3]
         refine wpAnyH_ready (rs:=[1]) (by kernel_rfl) (by simp) ?_
         refine q9 rfl (fun K hK=> ?_)
         go_simp
         refine hK.out _ _ trivial (fun _=> ?_)
         clear hK K
         try simp only[Act.put,F3,U3,V3]
         refine wpAnyH_ready (rs:=[2]) (by kernel_rfl) (by simp) ?_
         refine q9 rfl (fun K hK=> ?_)
         go_simp
         refine (p8 p g S4.2.1 _ Pd.o.rd).mono ?_
         rintro e wy ⟨rfl,rfl⟩
         go_wp2_with fail
         refine hK.out _ _ trivial (fun _=> ?_)
         clear hK K
         try simp only[Act.put,F3,U3,V3]
         refine wpAnyH_ready (rs:=[3]) (by kernel_rfl) (by simp) ?_
         refine q9 rfl (fun K hK=> ?_)
         refine I6 rfl 34 (.tmp 2) (.tmp 58) rfl w.heap.size 0 X4.toArray rfl rfl (Pd.o.res.there (by rw[U4,U4,HA.o.2.2.2.2.2,HF.o.1];exact Nat.le_refl _)) (by rw[U4,HF.o.1];exact I5) (all_oneCell_toArray HG.o.2) ?_
         refine hK.out _ _ trivial (fun _=> ?_)
         clear hK K
         try simp only[Act.put,F3,U3,V3]
         refine wpAnyH_ready (rs:=[4]) (by kernel_rfl) (by simp) ?_
         refine q9 rfl (fun K hK=> ?_)
         go_simp
         refine hK.out _ _ trivial (fun _=> ?_)
         clear hK K
         try simp only[Act.put,F3,U3,V3]
         refine wpAnyH_done (by kernel_rfl) ?_ _
         go_wp2_with fail
         refine bodyPost_ret (U5 rfl _ _ w.heap.size 34 _ (0,0) _ rfl (HF.o.2 _ Pd.o.res) underlying34 rfl (by rw[U4,HF.o.1];exact I5)) rfl ?_
         exact HT.o
        ·go_simp
         refine hK.out _ _ trivial (fun _=> ?_)
         clear hK K
         try simp only[Act.put,F3,U3,V3]
         refine wpAnyH_ready (rs:=[0,2]) (by kernel_rfl) (by simp) ?_
         refine AllReadyH.cons (o:=⟨_,_,_,_,_,_⟩) rfl (fun K hK=> ?_) (q9 rfl (fun K hK=> ?_))
         ·refine Z7 rfl 34 (.tmp 4) rfl tb 0 rfl X4 _ HG.o.1.rangeAll underlying34 rfl (by rw[HF.o.1];exact I5) ?_
          refine hK.out _ _ trivial (fun _=> ?_)
          clear hK K
          try simp only[Act.put,F3,U3,V3]
          refine wpAnyH_ready (rs:=[2]) (by kernel_rfl) (by simp) ?_
          refine q9 rfl (fun K hK=> ?_)
          go_simp
          refine (p8 p g S4.2.1 _ Pd.o.rd).mono ?_
          rintro e wy ⟨rfl,rfl⟩
          go_wp2_with fail
          refine hK.out _ _ trivial (fun _=> ?_)
          clear hK K
          try simp only[Act.put,F3,U3,V3]
          refine wpAnyH_ready (rs:=[3]) (by kernel_rfl) (by simp) ?_
          refine q9 rfl (fun K hK=> ?_)
          refine I6 rfl 34 (.tmp 2) (.tmp 58) rfl w.heap.size 0 X4.toArray rfl rfl (Pd.o.res.there (by rw[U4,U4,HA.o.2.2.2.2.2,HF.o.1];exact Nat.le_refl _)) (by rw[U4,HF.o.1];exact I5) (all_oneCell_toArray HG.o.2) ?_
          refine hK.out _ _ trivial (fun _=> ?_)
          clear hK K
          try simp only[Act.put,F3,U3,V3]
          refine wpAnyH_ready (rs:=[4]) (by kernel_rfl) (by simp) ?_
          refine q9 rfl (fun K hK=> ?_)
          go_simp
          refine hK.out _ _ trivial (fun _=> ?_)
          clear hK K
          try simp only[Act.put,F3,U3,V3]
          refine wpAnyH_done (by kernel_rfl) ?_ _
          go_wp2_with fail
          refine bodyPost_ret (U5 rfl _ _ w.heap.size 34 _ (0,0) _ rfl (HF.o.2 _ Pd.o.res) underlying34 rfl (by rw[U4,HF.o.1];exact I5)) rfl ?_
          exact HT.o
         ·go_simp
          refine (p8 p g S4.2.1 _ Pd.o.rd).mono ?_
          rintro e wy ⟨rfl,rfl⟩
          go_wp2_with fail
          refine hK.out _ _ trivial (fun _=> ?_)
          clear hK K
          try simp only[Act.put,F3,U3,V3]
          refine wpAnyH_ready (rs:=[0]) (by kernel_rfl) (by simp) ?_
          refine q9 rfl (fun K hK=> ?_)
          refine Z7 rfl 34 (.tmp 4) rfl tb 0 rfl X4 _ HG.o.1.rangeAll underlying34 rfl (by rw[HF.o.1];exact I5) ?_
          refine hK.out _ _ trivial (fun _=> ?_)
          clear hK K
          try simp only[Act.put,F3,U3,V3]
          refine wpAnyH_ready (rs:=[3]) (by kernel_rfl) (by simp) ?_
          refine q9 rfl (fun K hK=> ?_)
          refine I6 rfl 34 (.tmp 2) (.tmp 58) rfl w.heap.size 0 X4.toArray rfl rfl (Pd.o.res.there (by rw[U4,U4,HA.o.2.2.2.2.2,HF.o.1];exact Nat.le_refl _)) (by rw[U4,HF.o.1];exact I5) (all_oneCell_toArray HG.o.2) ?_
          refine hK.out _ _ trivial (fun _=> ?_)
          clear hK K
          try simp only[Act.put,F3,U3,V3]
          refine wpAnyH_ready (rs:=[4]) (by kernel_rfl) (by simp) ?_
          refine q9 rfl (fun K hK=> ?_)
          go_simp
          refine hK.out _ _ trivial (fun _=> ?_)
          clear hK K
          try simp only[Act.put,F3,U3,V3]
          refine wpAnyH_done (by kernel_rfl) ?_ _
          go_wp2_with fail
          refine bodyPost_ret (U5 rfl _ _ w.heap.size 34 _ (0,0) _ rfl (HF.o.2 _ Pd.o.res) underlying34 rfl (by rw[U4,HF.o.1];exact I5)) rfl ?_
          exact HT.o
       ·have he4:(r4.e==0)=false:=by simp[he]
        clear he
        go_upto_region 15 with (first
         |(go_at_call 110;refine (p8 p g r4 _ P5.o.rd).mono ?_;rintro e wy ⟨rfl,rfl⟩))
        have Pd:=U0 (P4.o.over ((U1.refl [] v4).drew))
        obtain⟨X4,hX4⟩:∃ X,q8 S4.1 I4 I4 I4 I4 I4=X:=⟨_,rfl⟩
        have hxl:X4.length=87:=by rw[←hX4];exact G8 Pd.o.rn Pd.o.an
        have hxo:∀ u∈X4,u.oneCell'=true:=by rw[←hX4];exact yA rfl rfl rfl rfl rfl
        have hrow:=Pd.o.row
        rw[hX4] at hrow
        have rs:∀ wx,l5 wx w.heap.size 34 Z.toArray→l5 (wx.setCells w.heap.size 0 X4) w.heap.size 34 X4.toArray:=fun wx hh=>by
         have:=hh.setL (vs:=X4) (o:=0)
         rw[F7 (by rw[U4,HA.o.2.2.2.2.2,hxl])] at this
         exact this
        have HF:=U0 (U2 hxl rs)
        have HG:=U0 (U2 hrow hxo)
        have HT:V5 (∃ q,Ending.returned (.tuple #[.agg X4.toArray,.int .i64 S4.2.1.e])= .returned (.tuple #[.agg (q8 q I4 I4 I4 I4 I4).toArray,.int .i64 (vF b)])∧q.req.name.length=32∧q.ans.name.length=32∧(vF b=0→q=(XC b).1∧YA (v4.drew.setCells w.heap.size 0 X4) p g (XC b).2.1)∧U1 [p] w (v4.drew.setCells w.heap.size 0 X4)):=U0 (by
         have ks:=(U1.refl [w.heap.size] v4.drew).setL (vs:=X4) (g:=w.heap.size) (o:=0) (by simp)
         have hlo:=Pd.o.lo
         refine⟨S4.1,by rw[hX4,hEE.o];unfold R8;rw[if_pos Pd.o.pt],Pd.o.rn,Pd.o.an,fun _=>⟨by rw[HS.o.2.2.2.2.2.1],by rw[HS.o.2.2.2.2.2.1];exact Pd.o.rd.keep ks (by simp;omega) (fun hne=>by have:=Pd.o.gl hne;simp;omega)⟩,Pd.o.kp.setL (.inr (Nat.le_refl _))⟩)
        clear hX4 hxl hxo hrow rs
        refine wp_region_held_drew (S:=fun _=>True) (by kernel_rfl) trivial (fun _=> ?_)
        refine wpAnyH_ready (rs:=[0,1]) (by kernel_rfl) (by simp) ?_
        refine AllReadyH.cons (o:=⟨_,_,_,_,_,_⟩) rfl (fun K hK=> ?_) (q9 rfl (fun K hK=> ?_))
        ·refine Z7 rfl 34 (.tmp 4) rfl tb 0 rfl X4 _ HG.o.1.rangeAll underlying34 rfl (by rw[HF.o.1];exact I5) ?_
         refine hK.out _ _ trivial (fun _=> ?_)
         clear hK K
         try simp only[Act.put,F3,U3,V3]
         refine wpAnyH_ready (rs:=[1]) (by kernel_rfl) (by simp) ?_
         refine q9 rfl (fun K hK=> ?_)
         go_simp
         refine hK.out _ _ trivial (fun _=> ?_)
         clear hK K
         try simp only[Act.put,F3,U3,V3]
         refine wpAnyH_ready (rs:=[2]) (by kernel_rfl) (by simp) ?_
         refine q9 rfl (fun K hK=> ?_)
         go_simp
         refine (p8 p g S4.2.1 _ Pd.o.rd).mono ?_
         rintro e wy ⟨rfl,rfl⟩
         go_wp2_with fail
         refine hK.out _ _ trivial (fun _=> ?_)
         clear hK K
         try simp only[Act.put,F3,U3,V3]
         refine wpAnyH_ready (rs:=[3]) (by kernel_rfl) (by simp) ?_
         refine q9 rfl (fun K hK=> ?_)
         refine I6 rfl 34 (.tmp 2) (.tmp 58) rfl w.heap.size 0 X4.toArray rfl rfl (Pd.o.res.there (by rw[U4,U4,HA.o.2.2.2.2.2,HF.o.1];exact Nat.le_refl _)) (by rw[U4,HF.o.1];exact I5) (all_oneCell_toArray HG.o.2) ?_
         refine hK.out _ _ trivial (fun _=> ?_)
         clear hK K
         try simp only[Act.put,F3,U3,V3]
         refine wpAnyH_ready (rs:=[4]) (by kernel_rfl) (by simp) ?_
         refine q9 rfl (fun K hK=> ?_)
         go_simp
         refine hK.out _ _ trivial (fun _=> ?_)
         clear hK K
         try simp only[Act.put,F3,U3,V3]
         refine wpAnyH_done (by kernel_rfl) ?_ _
         go_wp2_with fail
         refine bodyPost_ret (U5 rfl _ _ w.heap.size 34 _ (0,0) _ rfl (HF.o.2 _ Pd.o.res) underlying34 rfl (by rw[U4,HF.o.1];exact I5)) rfl ?_
         exact HT.o
        ·go_simp
         refine hK.out _ _ trivial (fun _=> ?_)
         clear hK K
         try simp only[Act.put,F3,U3,V3]
         refine wpAnyH_ready (rs:=[0,2]) (by kernel_rfl) (by simp) ?_
         refine AllReadyH.cons (o:=⟨_,_,_,_,_,_⟩) rfl (fun K hK=> ?_) (q9 rfl (fun K hK=> ?_))
         ·refine Z7 rfl 34 (.tmp 4) rfl tb 0 rfl X4 _ HG.o.1.rangeAll underlying34 rfl (by rw[HF.o.1];exact I5) ?_
          refine hK.out _ _ trivial (fun _=> ?_)
          clear hK K
          try simp only[Act.put,F3,U3,V3]
          refine wpAnyH_ready (rs:=[2]) (by kernel_rfl) (by simp) ?_
          refine q9 rfl (fun K hK=> ?_)
          go_simp
          refine (p8 p g S4.2.1 _ Pd.o.rd).mono ?_
          rintro e wy ⟨rfl,rfl⟩
          go_wp2_with fail
          refine hK.out _ _ trivial (fun _=> ?_)
          clear hK K
          try simp only[Act.put,F3,U3,V3]
          refine wpAnyH_ready (rs:=[3]) (by kernel_rfl) (by simp) ?_
          refine q9 rfl (fun K hK=> ?_)
          refine I6 rfl 34 (.tmp 2) (.tmp 58) rfl w.heap.size 0 X4.toArray rfl rfl (Pd.o.res.there (by rw[U4,U4,HA.o.2.2.2.2.2,HF.o.1];exact Nat.le_refl _)) (by rw[U4,HF.o.1];exact I5) (all_oneCell_toArray HG.o.2) ?_
          refine hK.out _ _ trivial (fun _=> ?_)
          clear hK K
          try simp only[Act.put,F3,U3,V3]
          refine wpAnyH_ready (rs:=[4]) (by kernel_rfl) (by simp) ?_
          refine q9 rfl (fun K hK=> ?_)
          go_simp
          refine hK.out _ _ trivial (fun _=> ?_)
          clear hK K
          try simp only[Act.put,F3,U3,V3]
          refine wpAnyH_done (by kernel_rfl) ?_ _
          go_wp2_with fail
          refine bodyPost_ret (U5 rfl _ _ w.heap.size 34 _ (0,0) _ rfl (HF.o.2 _ Pd.o.res) underlying34 rfl (by rw[U4,HF.o.1];exact I5)) rfl ?_
          exact HT.o
         ·go_simp
          refine (p8 p g S4.2.1 _ Pd.o.rd).mono ?_
          rintro e wy ⟨rfl,rfl⟩
          go_wp2_with fail
          refine hK.out _ _ trivial (fun _=> ?_)
          clear hK K
          try simp only[Act.put,F3,U3,V3]
          refine wpAnyH_ready (rs:=[0]) (by kernel_rfl) (by simp) ?_
          refine q9 rfl (fun K hK=> ?_)
          refine Z7 rfl 34 (.tmp 4) rfl tb 0 rfl X4 _ HG.o.1.rangeAll underlying34 rfl (by rw[HF.o.1];exact I5) ?_
          refine hK.out _ _ trivial (fun _=> ?_)
          clear hK K
          try simp only[Act.put,F3,U3,V3]
          refine wpAnyH_ready (rs:=[3]) (by kernel_rfl) (by simp) ?_
          refine q9 rfl (fun K hK=> ?_)
          refine I6 rfl 34 (.tmp 2) (.tmp 58) rfl w.heap.size 0 X4.toArray rfl rfl (Pd.o.res.there (by rw[U4,U4,HA.o.2.2.2.2.2,HF.o.1];exact Nat.le_refl _)) (by rw[U4,HF.o.1];exact I5) (all_oneCell_toArray HG.o.2) ?_
          refine hK.out _ _ trivial (fun _=> ?_)
          clear hK K
          try simp only[Act.put,F3,U3,V3]
          refine wpAnyH_ready (rs:=[4]) (by kernel_rfl) (by simp) ?_
          refine q9 rfl (fun K hK=> ?_)
          go_simp
          refine hK.out _ _ trivial (fun _=> ?_)
          clear hK K
          try simp only[Act.put,F3,U3,V3]
          refine wpAnyH_done (by kernel_rfl) ?_ _
          go_wp2_with fail
          refine bodyPost_ret (U5 rfl _ _ w.heap.size 34 _ (0,0) _ rfl (HF.o.2 _ Pd.o.res) underlying34 rfl (by rw[U4,HF.o.1];exact I5)) rfl ?_
          exact HT.o
     ·have h8':(x1==8)=false:=by simp[h8]
      have hb:U6 ff 8=0:=by have:=HB.o.2.2.2.1;rw[h8'] at this;simpa using this.symm
      have E:=U0 (show S4=S3 by rw[←HS.o.2.2.2.2.1];unfold f4;rw[if_pos hb])
      have P4:V5 (qI w v3 p g tb x1 S4 Z):=U0 (by rw[E.o];exact P3.o)
      clear h8 hb
      go_upto_region 15 with fail
      have Pd:=U0 (P4.o.over ((U1.refl [] v3).drew))
      obtain⟨X4,hX4⟩:∃ X,q8 S4.1 I4 I4 I4 I4 I4=X:=⟨_,rfl⟩
      have hxl:X4.length=87:=by rw[←hX4];exact G8 Pd.o.rn Pd.o.an
      have hxo:∀ u∈X4,u.oneCell'=true:=by rw[←hX4];exact yA rfl rfl rfl rfl rfl
      have hrow:=Pd.o.row
      rw[hX4] at hrow
      have rs:∀ wx,l5 wx w.heap.size 34 Z.toArray→l5 (wx.setCells w.heap.size 0 X4) w.heap.size 34 X4.toArray:=fun wx hh=>by
       have:=hh.setL (vs:=X4) (o:=0)
       rw[F7 (by rw[U4,HA.o.2.2.2.2.2,hxl])] at this
       exact this
      have HF:=U0 (U2 hxl rs)
      have HG:=U0 (U2 hrow hxo)
      have HT:V5 (∃ q,Ending.returned (.tuple #[.agg X4.toArray,.int .i64 S4.2.1.e])= .returned (.tuple #[.agg (q8 q I4 I4 I4 I4 I4).toArray,.int .i64 (vF b)])∧q.req.name.length=32∧q.ans.name.length=32∧(vF b=0→q=(XC b).1∧YA (v3.drew.setCells w.heap.size 0 X4) p g (XC b).2.1)∧U1 [p] w (v3.drew.setCells w.heap.size 0 X4)):=U0 (by
       have ks:=(U1.refl [w.heap.size] v3.drew).setL (vs:=X4) (g:=w.heap.size) (o:=0) (by simp)
       have hlo:=Pd.o.lo
       refine⟨S4.1,by rw[hX4,hEE.o];unfold R8;rw[if_pos Pd.o.pt],Pd.o.rn,Pd.o.an,fun _=>⟨by rw[HS.o.2.2.2.2.2.1],by rw[HS.o.2.2.2.2.2.1];exact Pd.o.rd.keep ks (by simp;omega) (fun hne=>by have:=Pd.o.gl hne;simp;omega)⟩,Pd.o.kp.setL (.inr (Nat.le_refl _))⟩)
      clear hX4 hxl hxo hrow rs
      refine wp_region_held_drew (S:=fun _=>True) (by kernel_rfl) trivial (fun _=> ?_)
      refine wpAnyH_ready (rs:=[0,1]) (by kernel_rfl) (by simp) ?_
      refine AllReadyH.cons (o:=⟨_,_,_,_,_,_⟩) rfl (fun K hK=> ?_) (q9 rfl (fun K hK=> ?_))
      ·refine Z7 rfl 34 (.tmp 4) rfl tb 0 rfl X4 _ HG.o.1.rangeAll underlying34 rfl (by rw[HF.o.1];exact I5) ?_
       refine hK.out _ _ trivial (fun _=> ?_)
       clear hK K
       try simp only[Act.put,F3,U3,V3]
       refine wpAnyH_ready (rs:=[1]) (by kernel_rfl) (by simp) ?_
       refine q9 rfl (fun K hK=> ?_)
       go_simp
       refine hK.out _ _ trivial (fun _=> ?_)
       clear hK K
       try simp only[Act.put,F3,U3,V3]
       refine wpAnyH_ready (rs:=[2]) (by kernel_rfl) (by simp) ?_
       refine q9 rfl (fun K hK=> ?_)
       go_simp
       refine (p8 p g S4.2.1 _ Pd.o.rd).mono ?_
       rintro e wy ⟨rfl,rfl⟩
       go_wp2_with fail
       refine hK.out _ _ trivial (fun _=> ?_)
       clear hK K
       try simp only[Act.put,F3,U3,V3]
       refine wpAnyH_ready (rs:=[3]) (by kernel_rfl) (by simp) ?_
       refine q9 rfl (fun K hK=> ?_)
       refine I6 rfl 34 (.tmp 2) (.tmp 58) rfl w.heap.size 0 X4.toArray rfl rfl (Pd.o.res.there (by rw[U4,U4,HA.o.2.2.2.2.2,HF.o.1];exact Nat.le_refl _)) (by rw[U4,HF.o.1];exact I5) (all_oneCell_toArray HG.o.2) ?_
       refine hK.out _ _ trivial (fun _=> ?_)
       clear hK K
       try simp only[Act.put,F3,U3,V3]
       refine wpAnyH_ready (rs:=[4]) (by kernel_rfl) (by simp) ?_
       refine q9 rfl (fun K hK=> ?_)
       go_simp
       refine hK.out _ _ trivial (fun _=> ?_)
       clear hK K
       try simp only[Act.put,F3,U3,V3]
       refine wpAnyH_done (by kernel_rfl) ?_ _
       go_wp2_with fail
       refine bodyPost_ret (U5 rfl _ _ w.heap.size 34 _ (0,0) _ rfl (HF.o.2 _ Pd.o.res) underlying34 rfl (by rw[U4,HF.o.1];exact I5)) rfl ?_
       exact HT.o
      ·go_simp
       refine hK.out _ _ trivial (fun _=> ?_)
       clear hK K
       try simp only[Act.put,F3,U3,V3]
       refine wpAnyH_ready (rs:=[0,2]) (by kernel_rfl) (by simp) ?_
       refine AllReadyH.cons (o:=⟨_,_,_,_,_,_⟩) rfl (fun K hK=> ?_) (q9 rfl (fun K hK=> ?_))
       ·refine Z7 rfl 34 (.tmp 4) rfl tb 0 rfl X4 _ HG.o.1.rangeAll underlying34 rfl (by rw[HF.o.1];exact I5) ?_
        refine hK.out _ _ trivial (fun _=> ?_)
        clear hK K
        try simp only[Act.put,F3,U3,V3]
        refine wpAnyH_ready (rs:=[2]) (by kernel_rfl) (by simp) ?_
        refine q9 rfl (fun K hK=> ?_)
        go_simp
        refine (p8 p g S4.2.1 _ Pd.o.rd).mono ?_
        rintro e wy ⟨rfl,rfl⟩
        go_wp2_with fail
        refine hK.out _ _ trivial (fun _=> ?_)
        clear hK K
        try simp only[Act.put,F3,U3,V3]
        refine wpAnyH_ready (rs:=[3]) (by kernel_rfl) (by simp) ?_
        refine q9 rfl (fun K hK=> ?_)
        refine I6 rfl 34 (.tmp 2) (.tmp 58) rfl w.heap.size 0 X4.toArray rfl rfl (Pd.o.res.there (by rw[U4,U4,HA.o.2.2.2.2.2,HF.o.1];exact Nat.le_refl _)) (by rw[U4,HF.o.1];exact I5) (all_oneCell_toArray HG.o.2) ?_
        refine hK.out _ _ trivial (fun _=> ?_)
        clear hK K
        try simp only[Act.put,F3,U3,V3]
        refine wpAnyH_ready (rs:=[4]) (by kernel_rfl) (by simp) ?_
        refine q9 rfl (fun K hK=> ?_)
        go_simp
        refine hK.out _ _ trivial (fun _=> ?_)
        clear hK K
        try simp only[Act.put,F3,U3,V3]
        refine wpAnyH_done (by kernel_rfl) ?_ _
        go_wp2_with fail
        refine bodyPost_ret (U5 rfl _ _ w.heap.size 34 _ (0,0) _ rfl (HF.o.2 _ Pd.o.res) underlying34 rfl (by rw[U4,HF.o.1];exact I5)) rfl ?_
        exact HT.o
       ·go_simp
        refine (p8 p g S4.2.1 _ Pd.o.rd).mono ?_
        rintro e wy ⟨rfl,rfl⟩
        go_wp2_with fail
        refine hK.out _ _ trivial (fun _=> ?_)
        clear hK K
        try simp only[Act.put,F3,U3,V3]
        refine wpAnyH_ready (rs:=[0]) (by kernel_rfl) (by simp) ?_
        refine q9 rfl (fun K hK=> ?_)
        refine Z7 rfl 34 (.tmp 4) rfl tb 0 rfl X4 _ HG.o.1.rangeAll underlying34 rfl (by rw[HF.o.1];exact I5) ?_
        refine hK.out _ _ trivial (fun _=> ?_)
        clear hK K
        try simp only[Act.put,F3,U3,V3]
        refine wpAnyH_ready (rs:=[3]) (by kernel_rfl) (by simp) ?_
        refine q9 rfl (fun K hK=> ?_)
        refine I6 rfl 34 (.tmp 2) (.tmp 58) rfl w.heap.size 0 X4.toArray rfl rfl (Pd.o.res.there (by rw[U4,U4,HA.o.2.2.2.2.2,HF.o.1];exact Nat.le_refl _)) (by rw[U4,HF.o.1];exact I5) (all_oneCell_toArray HG.o.2) ?_
        refine hK.out _ _ trivial (fun _=> ?_)
        clear hK K
        try simp only[Act.put,F3,U3,V3]
        refine wpAnyH_ready (rs:=[4]) (by kernel_rfl) (by simp) ?_
        refine q9 rfl (fun K hK=> ?_)
        go_simp
        refine hK.out _ _ trivial (fun _=> ?_)
        clear hK K
        try simp only[Act.put,F3,U3,V3]
        refine wpAnyH_done (by kernel_rfl) ?_ _
        go_wp2_with fail
        refine bodyPost_ret (U5 rfl _ _ w.heap.size 34 _ (0,0) _ rfl (HF.o.2 _ Pd.o.res) underlying34 rfl (by rw[U4,HF.o.1];exact I5)) rfl ?_
        exact HT.o
end Go.Proofs.YthfdkonhjpdflaaGreatDoor
