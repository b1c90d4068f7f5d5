import Derived.Test.YthfdkonhjpdflaaGreatDoorGR7a
namespace Go.Proofs.YthfdkonhjpdflaaGreatDoor
open Go.RowKit Go.Proofs.Tryz
set_option linter.unusedVariables false
set_option maxRecDepth 100000
set_option linter.unusedSimpArgs false
set_option maxHeartbeats 16000000
theorem LK {P:Program} (w:World) (t e:TypeId) (i:TypeInfo) (z:Value) (X:List Value) (ht:P.underlying t=some (.slice e)) (hi:P.info? e=some i) (hz:i.zero=some z) (hs:i.size=X.length) (hX:X.length≤16777216) (h0:0<X.length):
 (Instr.buildSlice t 1 #[(0,.agg X.toArray)]).run P w= .ok (.slice (some ⟨w.heap.size,0,none⟩) 1 1) (w.alloc (.cells X.toArray e)):=by
 have hf:∀ Z:Array Value,Z.size=X.length→List.foldl (fun cs (x:Value × Nat)=>cs.setIfInBounds x.snd x.fst) Z X.zipIdx=X.toArray:=fun Z hZ=>by
  have h:=DI X 0 0 Z
  rw[F7 hZ.symm] at h
  simpa using h
 have h1: ¬(16777216<X.length):=by omega
 have h2: ¬(X=[]):=by rintro rfl;simp at h0
 simp[Instr.buildSlice,run_underlying ht,sizeOf,typeInfo,hi,hs,h1,h2,zeroValue,hz,newRow,go_sem]
 rw[hf _ (by simp)]
theorem QI {P:Program} (w w':World) {ops:Array Oper} {rest:List Oper} {o:Oper} {a:Act} {Q:Exit→Act→World→Prop} (hgd:o.guard=none) (t:TypeId) (x:Operand) (ho:o.op= .buildSlice t 1 #[(0,x)])
 (e:TypeId) (i:TypeInfo) (z:Value) (X:List Value) (hx:a.eval x= .agg X.toArray) (ht:P.underlying t=some (.slice e)) (hi:P.info? e=some i) (hz:i.zero=some z) (hs:i.size=X.length) (hX:X.length≤16777216) (h0:0<X.length)
 (hw:w.alloc (.cells X.toArray e)=w') (h:wpList P ops Q rest (a.put o.dst (.slice (some ⟨w.heap.size,0,none⟩) 1 1)) w'):wpList P ops Q (o::rest) a w:=by
 subst hw
 refine wpList_plain hgd fun K hK=> ?_
 have hK':=hK _ _ h
 unfold Oper.wp execOp
 simp only[ho]
 simp[hx,LK (P:=P) w t e i z X ht hi hz hs hX h0]
 exact hK'
theorem uQ {w:World} {l:List VT} {A:Option Addr} {c i:Nat} {T:List (VT × Value)} {G:List Nat} (hO:qA w 69 4 (.slice A i c) i (Z9 T)) (hm:T.map (·.1)=l) (hn:T.length=i) (hV:∀ t∈T,F8 w G t.2 t.1.conf.chain):xA w (G++Z6 (.slice A i c)) (.slice A i c) l:=by
 obtain⟨A',c',e,h1,h2,h3,h4⟩:=hO.form
 injection e with e1 e2 e3
 subst e1 e3
 obtain⟨g,hg⟩:=EA (.slice A i c)
 have hl:l.length=i:=by rw[←hm,List.length_map,hn]
 refine⟨A,c,g,T,by rw[hl],by rw[hl];exact h1,h2,hm,by rw[hl];exact h4 g hg,fun t ht=>(hV t ht).more (fun y hy=>List.mem_append_left _ hy),fun hne=> ?_⟩
 obtain⟨o,hA,_⟩:=(h4 g hg).2 (by have:=List.length_pos_iff.2 hne;omega)
 rw[hA];simp[V8]
def vsB (w0 w:World) (p g rb:Nat) (q:PK) (R:List VT × RS × Int) (K i:Nat) (Z:List Value):Prop:=∃ r A c T G,zF (K-i) (T.map (·.1)) r 0=R∧T.length=i∧oH w0 w p g rb r (q8 q I4 I4 I4 (.slice A i c) I4) Z∧r.l.length≤1000000∧qA w 69 4 (.slice A i c) i (Z9 T)∧(∀ y∈Z6 (.slice A i c),rb<y)∧(∀ t∈T,F8 w G t.2 t.1.conf.chain)∧(∀ y∈G,rb<y∧y<w.heap.size∧y∉Z6 (.slice A i c))
theorem vsB.step {w0 wr u5 u8 w9:World} {p g rb:Nat} {q:PK} {R:List VT × RS × Int} {K i:Nat} {Z:List Value} {r2 r3:RS} {A A6:Option Addr} {c c6:Nat} {T:List (VT × Value)} {G G5:List Nat} {v:VT} {cv:Value}
 (hn:q.req.name.length=32) (hn':q.ans.name.length=32) (hR:zF (K-(i+1)) (T.map (·.1)++[v]) r3 0=R) (hTl:T.length=i) (hP:oH w0 wr p g rb r2 (q8 q I4 I4 I4 (.slice A i c) I4) Z) (hl:r2.l.length≤1000000) (hl3:(r3.l≠[]→r2.l≠[])∧r3.l.length≤r2.l.length)
 (hO:qA wr 69 4 (.slice A i c) i (Z9 T)) (hH:∀ y∈Z6 (.slice A i c),rb<y) (hV:∀ t∈T,F8 wr G t.2 t.1.conf.chain) (hG:∀ y∈G,rb<y∧y<wr.heap.size∧y∉Z6 (.slice A i c))
 (rd5:YA u5 p g r3) (i5:F8 u5 G5 cv v.conf.chain) (n5:I9 wr u5 G5) (k5:U1 [p] wr u5) (k58:U1 [] u5 u8)
 (o9:qA w9 69 4 (.slice A6 (i+1) c6) (i+1) (Z9 T++oD v cv)) (k9:U1 (Z6 (.slice A i c)) u8 w9) (h9:∀ x∈Z6 (.slice A6 (i+1) c6),x∈Z6 (.slice A i c)∨u8.heap.size≤x):
 vsB w0 (w9.setCell ⟨w0.heap.size,85,none⟩ (.slice A6 (i+1) c6)) p g rb q R K (i+1) Z:=by
 have P8:=(hP.read rd5 k5 hl3.1).over k58
 have P9:=P8.far k9 hH
 have P10:=P9.set (X':=q8 q I4 I4 I4 (.slice A6 (i+1) c6) I4) 85 (.slice A6 (i+1) c6) (YE hn hn' q.votes _)
 have k10:U1 [w0.heap.size] w9 (w9.setCell ⟨w0.heap.size,85,none⟩ (.slice A6 (i+1) c6)):=(U1.refl [w0.heap.size] _).setCell _ _ (.inl (by simp))
 have hi:=hP.hi
 have hlo:=hP.lo
 have s5:=k5.size
 have s8:=k58.size
 have s9:=k9.size
 have s10:=k10.size
 have hr8:=P8.res.lt
 have hlt:=hO.lt
 have hrr:=hP.res.lt
 refine⟨r3,A6,c6,T++[(v,cv)],G++G5,by rw[List.map_append];exact hR,by rw[List.length_append,hTl];rfl,P10,by omega,?_,fun y hy=> ?_,fun t ht=> ?_,fun y hy=> ?_⟩
 ·rw[DD]
  exact o9.keep k10 (fun y hy=>by rcases h9 y hy with h|h;·have:=hH y h;simp;omega
                                  ·simp;omega)
 ·rcases h9 y hy with h|h
  ·exact hH y h
  ·omega
 ·rcases List.mem_append.1 ht with ht|ht
  ·exact (((((hV t ht).keep k5 (fun y hy=>by have:=hG y hy;simp;omega)).keep k58 (by simp)).keep k9 (fun y hy=>(hG y hy).2.2)).keep k10 (fun y hy=>by have:=hG y hy;simp;omega)).more (fun y hy=>List.mem_append_left _ hy)
  ·simp only[List.mem_singleton] at ht
   subst ht
   exact (((i5.keep k58 (by simp)).keep k9 (fun y hy hm=>by have:=hlt y hm;have:=(n5 y hy).1;omega)).keep k10 (fun y hy=>by have:=(n5 y hy).1;simp;omega)).more (fun y hy=>List.mem_append_right _ hy)
 ·rcases List.mem_append.1 hy with hy|hy
  ·have f:=hG y hy
   refine⟨f.1,by omega,fun hm=> ?_⟩
   rcases h9 y hm with h|h
   ·exact f.2.2 h
   ·omega
  ·have f:=n5 y hy
   refine⟨by omega,by omega,fun hm=> ?_⟩
   rcases h9 y hm with h|h
   ·have:=hlt y h;omega
   ·omega
theorem bodyVs (p g:Nat) (q:PK) (r:RS) (w:World) (hk:q.kind=11) (hv:∀ wx F,wD wx F q I4 I4 I4 I4 I4) (hr:YA w p g r) (hb:r.l.length≤1000000):
 Calls prog 100 #[.pointer (some ⟨p,0,none⟩),.agg (q8 q I4 I4 I4 I4 I4).toArray] w (vE (OE (l6 q.kind) (q,r,0)) p g w):=by
 obtain⟨k0,hk0⟩:∃ k,q.kind=k:=⟨_,rfl⟩
 obtain⟨S,hS⟩:∃ s,OE (l6 q.kind) (q,r,0)=s:=⟨_,rfl⟩
 obtain⟨X0,hX0⟩:∃ X,q8 q I4 I4 I4 I4 I4=X:=⟨_,rfl⟩
 have xl:X0.length=87:=by rw[←hX0];exact G8 (hv w []).rn (hv w []).an
 have xo:∀ u∈X0,u.oneCell'=true:=by rw[←hX0];exact yA rfl rfl rfl rfl rfl
 have xk:X0.toArray[0]? =some (.int .i64 k0):=by rw[←hX0,←hk0];rfl
 obtain⟨Z,hZ⟩:∃ Z,q8 G9 I4 I4 I4 I4 I4=Z:=⟨_,rfl⟩
 have zv:=KE
 have zl:=IC
 rw[hZ] at zv zl
 obtain⟨x1,hx1⟩:∃ x,(r.num 1).1=x:=⟨_,rfl⟩
 obtain⟨r1,hr1⟩:∃ x,(r.num 1).2=x:=⟨_,rfl⟩
 have s1:(r1.l≠[]→r.l≠[])∧r1.l.length≤r.l.length:=by rw[←hr1];exact⟨nA,U9 _ _⟩
 have hx1r:0≤x1∧x1≤255:=by rw[←hx1];exact bD _
 obtain⟨K,hK⟩:∃ K,UW x1=K:=⟨_,rfl⟩
 have hK9:K≤9:=by rw[←hK];unfold UW;split<;>omega
 have hKn:∀ i:Nat,(i<K→(i:Int)<x1∧(i:Int)<9)∧(i=K→ ¬(i:Int)<x1∨(i:Int)<x1∧ ¬(i:Int)<9):=by
  intro i
  unfold UW at hK
  split at hK<;>omega
 obtain⟨R,hR⟩:∃ R,dD r 0=R:=⟨_,rfl⟩
 have hRR:zF K [] r1 0=R:=by rw[←hR];unfold dD;rw[hx1,hr1,hK]
 have HS0:V5 (S=({q with votes:=R.1},R.2.1,R.2.2)):=U0 (by rw[←hS,show l6 q.kind=l6 11 by rw[hk],bdS_vs];show (({q with votes:=(dD r 0).1}:PK),(dD r 0).2.1,(dD r 0).2.2)=_;rw[hR])
 have HN:=U0 (U2 hx1 (U2 hr1 (U2 s1 (U2 hRR hKn))))
 have HK1:V5 (bG.contains k0=false):=U0 (by rw[←hk0,hk];rfl)
 have HK3:V5 (UC.contains k0=false):=U0 (by rw[←hk0,hk];rfl)
 have b2:(k0==2)=false:=by rw[←hk0,hk];rfl
 have b6:(k0==6)=false:=by rw[←hk0,hk];rfl
 have b11:(k0==11)=true:=by rw[←hk0,hk];rfl
 clear hx1 hr1 s1 hx1r hK hKn hR hRR hk hk0
 rw[hS,hX0]
 obtain⟨w1,hw1⟩:∃ W,w.alloc (.cells X0.toArray 34)=W:=⟨_,rfl⟩
 obtain⟨rb,hrb⟩:∃ n,w1.heap.size=n:=⟨_,rfl⟩
 obtain⟨w2,hw2⟩:∃ W,w1.alloc (.cells Z.toArray 34)=W:=⟨_,rfl⟩
 have P0:=U0 (oH.begin hr hw1 hw2 hrb)
 have HW:=U0 (U2 hw1 (U2 hw2 (U2 hrb zv)))
 have HX:=U0 (U2 xl (U2 xo (U2 xk (U2 zl (U2 hb (U2 hX0 hv))))))
 have iX:(prog.info? 34).map (·.size)=some X0.length:=by rw[xl];exact I5
 have HI:=U0 iX
 clear xl xo xk zv zl hr hw1 hw2 hrb hb iX hZ hX0 hS hv
 go_enter func100,ntmps100
 go_upto_region 1 with (first
  |(with_reducible refine Z4 _ _ rfl 34 (.tmp 1) rfl _ rfl HW.o.1 ?_)
  |(with_reducible refine F5 _ _ rfl 34 rfl _ HW.o.2.2.2 HW.o.2.1 ?_;rw[HW.o.2.2.1]))
 have c0:=P0.o.at HX.o.2.2.1
 go_upto_region 2 with (first
  |(go_at_call 57;refine (OD k0 _).mono ?_;rintro e c1w ⟨rfl,k1⟩;rw[HK1.o];have P1:=U0 (P0.o.over k1);have c1:=P1.o.at HX.o.2.2.1;clear k1)
  |(go_at_call 59;refine (XF k0 _).mono ?_;rintro e c2w ⟨rfl,k1⟩;rw[HK3.o];have P2:=U0 (P1.o.over k1);have c2:=P2.o.at HX.o.2.2.1;clear k1))
 clear c0 c1
 go_upto_region 20 with (first
  |(go_at_call 106;refine (jC p g r 1 _ P2.o.rd (by have:=HX.o.2.2.2.2.1;omega)).mono ?_;intro e u3 hq;unfold ZB at hq;rw[HN.o.1,HN.o.2.1] at hq;obtain⟨rfl,hr,hk⟩:=hq;have P3:=U0 (P2.o.read hr hk HN.o.2.2.1.1);clear hr hk))
 clear c2 P0 P1 P2
 obtain⟨i0,hi0,hz0,hz1,hz2⟩:=info_parts UH
 have HJ:=U0 (U2 hi0 (U2 hz0 (U2 hz1 hz2)))
 clear hi0 hz0 hz1 hz2
 go_wp2_with fail
 go_loopw [14,15,16] (fun v14 _ _ wx=>∃ i:Nat,i≤K∧v14= .int .i64 (i:Int)∧vsB w wx p g rb q R K i Z) (fun v14 _ _ _=>K-(intOf v14).toNat)
 case atStart=>
  have hp:=P3.o
  rw[←HX.o.2.2.2.2.2.1] at hp
  exact⟨0,by omega,rfl,r1,none,0,[],[],HN.o.2.2.2.1,rfl,hp,by have:=HN.o.2.2.1.2;have:=HX.o.2.2.2.2.1;omega,qA.nil _ _ _,by simp[d9],by simp,by simp⟩
 case round=>
  obtain⟨i,hi,rfl,r2,A,c,T,G,hres,hTl,hP,hl2,hO,hH,hV,hG⟩:=hrel
  obtain⟨Xr,hXr⟩:∃ X,q8 q I4 I4 I4 (.slice A i c) I4=X:=⟨_,rfl⟩
  have rn:=(HX.o.2.2.2.2.2.2 w []).rn
  have an:=(HX.o.2.2.2.2.2.2 w []).an
  have HXr:=U0 (show Xr.length=87∧(∀ u∈Xr,u.oneCell'=true) by rw[←hXr];exact⟨G8 rn an,yA rfl rfl rfl rfl rfl⟩)
  have hPX:=hP
  rw[hXr] at hPX
  by_cases hlt:i<K
  ·have⟨hlt1,hlt2⟩:=(HN.o.2.2.2.2 i).1 hlt
   have hn0:(0:Int)≤(i:Int):=by omega
   have hw1:IntKind.i64.wrap ((i:Int)+1)=(i:Int)+1:=Z8 _ (by omega) (by omega)
   obtain⟨v,r3,E3,hD⟩:∃ v r3 E3,uI r2=(v,r3,E3):=⟨_,_,_,rfl⟩
   have s3:(r3.l≠[]→r2.l≠[])∧r3.l.length≤r2.l.length:=by rw[show r3=(uI r2).2.1 by rw[hD]];exact⟨NU,yS _⟩
   have HC:V5 (∀ wx,YA wx p g r2→Calls prog 148 #[.pointer (some ⟨p,0,none⟩)] wx fun e w'=>∃ cv G,e= .returned (.tuple #[.agg (oD v cv).toArray,.int .i64 E3])∧F8 w' G cv v.conf.chain∧I9 wx w' G∧YA w' p g r3∧U1 [p] wx w'):=U0 (fun wx h=>by have:=nS p g r2 wx h hl2;rw[hD] at this;exact this)
   have HD:=U0 (show (E3=0→zF (K-(i+1)) (T.map (·.1)++[v]) r3 0=R)∧(E3≠0→R8 R.2.2 R.2.1.e=E3) by
    have e1:(uI r2).2.2=E3:=by rw[hD]
    have e2:(uI r2).1=v:=by rw[hD]
    have e3:(uI r2).2.1=r3:=by rw[hD]
    rw[show K-i=(K-(i+1))+1 by omega] at hres
    refine⟨fun h=> ?_,fun h=> ?_⟩
    ·rw[EW (by rw[e1];exact h),e2,e3] at hres;exact hres
    ·rw[←hres,GR (by rw[e1];exact h)];exact e1)
   have HP:=U0 (U2 hPX (U2 hP (U2 hO (U2 hH (U2 hV (U2 hG (U2 hTl (U2 hl2 (U2 s3 hXr)))))))))
   clear hres hP hPX hl2 hO hH hV hG hD s3 hXr rn an
   go_upto_region 24 with (first
    |(go_at_call 148;refine (HC.o _ HP.o.1.rd).mono ?_;rintro e u5 ⟨cv,G5,rfl,i5,n5,rd5,k5⟩;have co:cv.oneCell'=true:=(by obtain⟨A9,c9,g9,rfl,_⟩:=id i5;rfl);obtain⟨V,hV⟩:∃ V,oD v cv=V:=⟨_,rfl⟩;have vl:V.length=4:=(by rw[←hV];rfl);have vo:∀ u∈V,u.oneCell'=true:=(by rw[←hV];exact uF _ co);rw[hV];obtain⟨tv,htv⟩:∃ b,u5.heap.size=b:=⟨_,rfl⟩;obtain⟨u6,hu6⟩:∃ W,u5.alloc (.cells (oD ⟨0,V7⟩ I4).toArray 69)=W:=⟨_,rfl⟩;have k6:U1 [] u5 u6:=hu6▸(U1.refl [] u5).alloc _;have r6:l5 u6 tv 69 (oD ⟨0,V7⟩ I4).toArray:=htv▸hu6▸l5.new _ _ _;have HU:=U0 (U2 hu6 htv);have HV:=U0 (U2 vl vo);have H5:=U0 (U2 i5 (U2 n5 (U2 rd5 (U2 k5 (U2 k6 (U2 r6 hV))))));clear i5 n5 rd5 k5 co hV vl vo htv hu6 k6 r6)
    |(with_reducible refine F5 _ _ rfl 69 rfl _ xQ HU.o.1 ?_;rw[HU.o.2])
    |(refine wpList_store_mid rfl 69 (.tmp 15) (.tmp 96) rfl tv 0 V.toArray rfl rfl (H5.o.2.2.2.2.2.1.there (by rw[U4,HV.o.1];exact Nat.le_refl _)) (by rw[U4,HV.o.1];exact AB) (all_oneCell_toArray HV.o.2) ?_))
   have k7:U1 [] u5 (u6.setCells tv 0 V):=H5.o.2.2.2.2.1.setL (.inr (by have:=HU.o.2;omega))
   have r7:l5 (u6.setCells tv 0 V) tv 69 V.toArray:=by
    have:=H5.o.2.2.2.2.2.1.setL (vs:=V) (o:=0)
    rw[F7 (by rw[U4,HV.o.1];rfl)] at this
    exact this
   obtain⟨u7,hu7⟩:∃ W,u6.setCells tv 0 V=W:=⟨_,rfl⟩
   rw[hu7] at k7 r7
   rw[hu7]
   have P7:=(HP.o.1.read H5.o.2.2.1 H5.o.2.2.2.1 HP.o.2.2.2.2.2.2.2.2.1.1).over k7
   have H7:=U0 (U2 k7 (U2 r7 P7))
   clear k7 r7 P7 hu7
   by_cases he:E3=0
   ·have he':(E3 !=0)=false:=by simp[he]
    have HR:=U0 (HD.o.1 he)
    clear he
    have c85:u7.cell? ⟨w.heap.size,85,none⟩=some (.slice A i c):=by
     have hp:=H7.o.2.2.row
     rw[←HP.o.2.2.2.2.2.2.2.2.2] at hp
     exact (hp.pk (HX.o.2.2.2.2.2.2 w []).rn (HX.o.2.2.2.2.2.2 w []).an).d3
    obtain⟨u8,hu8⟩:∃ W,u7.alloc (.cells V.toArray 69)=W:=⟨_,rfl⟩
    have k8:U1 [] u7 u8:=hu8▸(U1.refl [] u7).alloc _
    have rd8:MB u8 (some ⟨u7.heap.size,0,none⟩) u7.heap.size 1 V.length V:=hu8▸xL u7 69 V
    have H8:=U0 (U2 hu8 (U2 k8 rd8))
    have P8:=U0 (H7.o.2.2.over k8)
    have c85b:u8.cell? ⟨w.heap.size,85,none⟩=some (.slice A i c):=(k8.cell (p:=⟨w.heap.size,85,none⟩) H7.o.2.2.row.lt (by simp)).trans c85
    clear hu8 k8 rd8
    go_wp2_with (first
     |(refine wpList_load_mid rfl 69 (.tmp 15) rfl tv 0 rfl V _ H7.o.2.1.rangeAll underlying69 rfl (by rw[HV.o.1];exact AB) ?_)
     |(refine QI _ _ rfl 32 (.tmp 104) rfl 69 i0 _ V rfl underlying32 HJ.o.1 HJ.o.2.1 (by rw[HV.o.1];exact HJ.o.2.2.1) (by rw[HV.o.1];decide) (by rw[HV.o.1];decide) H8.o.1 ?_)
     |(at_builtin;refine NA _ rfl (.tmp 103) (.tmp 105) 32 rfl 69 i0 _ 4 48 underlying32 HJ.o.1 HJ.o.2.1 HJ.o.2.2.1 HJ.o.2.2.2 rfl (by decide) (.slice A i c) i (Z9 T) rfl (((HP.o.2.2.1.keep H5.o.2.2.2.1 (fun y hy=>by have:=HP.o.2.2.2.1 y hy;have:=HP.o.1.lo;have:=HP.o.1.hi;simp;omega)).keep H7.o.1 (by simp)).keep H8.o.2.1 (by simp)) (some ⟨u7.heap.size,0,none⟩) u7.heap.size 1 1 V rfl (by have h:=H8.o.2.2;rw[HV.o.1] at h;exact h) HV.o.2 (by omega) (by unfold maxLen;omega) ?_;intro A6 c6 w9 o9 k9 h9;have P9:=U0 (P8.o.far k9 HP.o.2.2.2.1);have y:w9.cell? ⟨w.heap.size,85,none⟩=some (.slice A i c):=((k9.cell (p:=⟨w.heap.size,85,none⟩) P8.o.row.lt (fun hm=>by have h0:rb<w.heap.size:=HP.o.2.2.2.1 _ hm;have:=HP.o.1.hi;omega)).trans c85b);have y2:=P9.o.row.free 85;have H9:=U0 (U2 o9 (U2 k9 h9));clear o9 k9 h9))
    clear c85 c85b y y2
    have HT:=U0 (vsB.step (HX.o.2.2.2.2.2.2 w []).rn (HX.o.2.2.2.2.2.2 w []).an HR.o HP.o.2.2.2.2.2.2.1 HP.o.2.1 HP.o.2.2.2.2.2.2.2.1 HP.o.2.2.2.2.2.2.2.2.1 HP.o.2.2.1 HP.o.2.2.2.1 HP.o.2.2.2.2.1 HP.o.2.2.2.2.2.1 H5.o.2.2.1 H5.o.1 H5.o.2.1 H5.o.2.2.2.1 (H7.o.1.then H8.o.2.1 (by simp)) (by rw[H5.o.2.2.2.2.2.2];exact H9.o.1) H9.o.2.1 H9.o.2.2)
    go_roundw
    case rel=>exact⟨i+1,by omega,by go_num,HT.o⟩
    case measure=>simp[intOf];omega
   ·have he':(E3 !=0)=true:=by simp[he]
    have HN3:=U0 he
    have HT:=U0 (QF (S:=S) (E:=E3) H7.o.2.2 HXr.o.1 HXr.o.2 (by rw[HS0.o];exact HD.o.2 he) (fun e0=>absurd e0 he))
    clear he
    go_wp2_with (first
     |(refine wpList_load_mid rfl 34 (.tmp 3) rfl w.heap.size 0 rfl _ _ H7.o.2.2.row.rangeAll underlying34 rfl (by rw[HXr.o.1];exact I5) ?_)
     |(refine wpList_store_mid rfl 34 (.tmp 4) (.tmp 100) rfl rb 0 Xr.toArray rfl rfl (H7.o.2.2.res.there (by rw[U4,U4,HXr.o.1,HX.o.2.2.2.1];exact Nat.le_refl _)) (by rw[U4,HXr.o.1];exact I5) (all_oneCell_toArray HXr.o.2) ?_))
    refine bodyPost_ret (U5 rfl _ _ rb 34 _ (0,0) _ rfl (nD HXr.o.1 HX.o.2.2.2.1 H7.o.2.2.res) underlying34 rfl (by rw[U4,HXr.o.1];exact I5)) rfl ?_
    exact HT.o
  ·obtain rfl:i=K:=by omega
   have hend:=(HN.o.2.2.2.2 i).2 rfl
   have hR:(T.map (·.1),r2,(0:Int))=R:=by rw[←hres,Nat.sub_self];rfl
   have HS2:=U0 (show S=({q with votes:=T.map (·.1)},r2,0) by rw[HS0.o,←hR])
   have hvs:=uQ hO rfl hTl hV
   have it:iB wr (G++Z6 (.slice A i c)) ({q with votes:=T.map (·.1)},Xr):=by
    rw[←hXr]
    exact⟨_,_,_,_,_,rfl,rn,an,(HX.o.2.2.2.2.2.2 _ _).re,(HX.o.2.2.2.2.2.2 _ _).ae,(HX.o.2.2.2.2.2.2 _ _).cc,hvs,(HX.o.2.2.2.2.2.2 _ _).bs⟩
   have hi3:=hPX.hi
   have nG:∀ y∈G++Z6 (.slice A i c),rb<y∧y<wr.heap.size:=fun y hy=>by
    rcases List.mem_append.1 hy with h|h
    ·exact⟨(hG y h).1,(hG y h).2.1⟩
    ·exact⟨hH y h,hO.lt y h⟩
   have IT:=U0 (U2 it (U2 (show I9 w wr (G++Z6 (.slice A i c)) from fun y hy=>⟨by have:=nG y hy;omega,(nG y hy).2⟩) (fun y hy=>(by have:=nG y hy;omega:y≠rb))))
   have P4:=U0 hPX
   clear hres hP hPX hl2 hO hH hV hG hXr rn an hR hvs it hi3 nG
   rcases hend with hc1|⟨hc1,hc2⟩
   all_goals
    go_upto_region 27 with fail
    have Pd:=U0 (P4.o.over ((U1.refl [] _).drew))
    have HF:=U0 (U2 HXr.o.1 (U2 HXr.o.2 HX.o.2.2.2.1))
    have HT:=U0 (QF (S:=S) Pd.o HF.o.1 HF.o.2.1 (show R8 S.2.2 S.2.1.e=r2.e by rw[HS2.o];rfl) (fun _=>⟨by rw[HS2.o],_,by rw[HS2.o];exact IT.o.1.keep ((U1.refl [] _).drew) (by simp),fun y hy=>IT.o.2.1 y hy,IT.o.2.2⟩))
    refine wp_region_held_drew (S:=fun _=>True) (by kernel_rfl) trivial (fun _=> ?_)
    refine wpAnyH_ready (rs:=[0,1]) (by kernel_rfl) (by simp) ?_
    refine AllReadyH.cons (o:=⟨_,_,_,_,_,_⟩) rfl (fun K hK=> ?_) (q9 rfl (fun K hK=> ?_))
    ·refine Z7 rfl 34 (.tmp 3) rfl w.heap.size 0 rfl Xr _ Pd.o.row.rangeAll underlying34 rfl (by rw[HF.o.1];exact I5) ?_
     refine hK.out _ _ trivial (fun _=> ?_)
     clear hK K
     try simp only[Act.put,F3,U3,V3]
     refine wpAnyH_ready (rs:=[1]) (by kernel_rfl) (by simp) ?_
     refine q9 rfl (fun K hK=> ?_)
     go_simp
     refine hK.out _ _ trivial (fun _=> ?_)
     clear hK K
     try simp only[Act.put,F3,U3,V3]
     refine wpAnyH_ready (rs:=[2]) (by kernel_rfl) (by simp) ?_
     refine q9 rfl (fun K hK=> ?_)
     go_simp
     refine (p8 p g r2 _ Pd.o.rd).mono ?_
     rintro e wy ⟨rfl,rfl⟩
     go_wp2_with fail
     refine hK.out _ _ trivial (fun _=> ?_)
     clear hK K
     try simp only[Act.put,F3,U3,V3]
     refine wpAnyH_ready (rs:=[3]) (by kernel_rfl) (by simp) ?_
     refine q9 rfl (fun K hK=> ?_)
     refine I6 rfl 34 (.tmp 4) (.tmp 108) rfl rb 0 Xr.toArray rfl rfl (Pd.o.res.there (by rw[U4,U4,HF.o.2.2,HF.o.1];exact Nat.le_refl _)) (by rw[U4,HF.o.1];exact I5) (all_oneCell_toArray HF.o.2.1) ?_
     refine hK.out _ _ trivial (fun _=> ?_)
     clear hK K
     try simp only[Act.put,F3,U3,V3]
     refine wpAnyH_ready (rs:=[4]) (by kernel_rfl) (by simp) ?_
     refine q9 rfl (fun K hK=> ?_)
     go_simp
     refine hK.out _ _ trivial (fun _=> ?_)
     clear hK K
     try simp only[Act.put,F3,U3,V3]
     refine wpAnyH_done (by kernel_rfl) ?_ _
     go_wp2_with fail
     refine bodyPost_ret (U5 rfl _ _ rb 34 _ (0,0) _ rfl (nD HF.o.1 HF.o.2.2 Pd.o.res) underlying34 rfl (by rw[U4,HF.o.1];exact I5)) rfl ?_
     exact HT.o
    ·go_simp
     refine hK.out _ _ trivial (fun _=> ?_)
     clear hK K
     try simp only[Act.put,F3,U3,V3]
     refine wpAnyH_ready (rs:=[0,2]) (by kernel_rfl) (by simp) ?_
     refine AllReadyH.cons (o:=⟨_,_,_,_,_,_⟩) rfl (fun K hK=> ?_) (q9 rfl (fun K hK=> ?_))
     ·refine Z7 rfl 34 (.tmp 3) rfl w.heap.size 0 rfl Xr _ Pd.o.row.rangeAll underlying34 rfl (by rw[HF.o.1];exact I5) ?_
      refine hK.out _ _ trivial (fun _=> ?_)
      clear hK K
      try simp only[Act.put,F3,U3,V3]
      refine wpAnyH_ready (rs:=[2]) (by kernel_rfl) (by simp) ?_
      refine q9 rfl (fun K hK=> ?_)
      go_simp
      refine (p8 p g r2 _ Pd.o.rd).mono ?_
      rintro e wy ⟨rfl,rfl⟩
      go_wp2_with fail
      refine hK.out _ _ trivial (fun _=> ?_)
      clear hK K
      try simp only[Act.put,F3,U3,V3]
      refine wpAnyH_ready (rs:=[3]) (by kernel_rfl) (by simp) ?_
      refine q9 rfl (fun K hK=> ?_)
      refine I6 rfl 34 (.tmp 4) (.tmp 108) rfl rb 0 Xr.toArray rfl rfl (Pd.o.res.there (by rw[U4,U4,HF.o.2.2,HF.o.1];exact Nat.le_refl _)) (by rw[U4,HF.o.1];exact I5) (all_oneCell_toArray HF.o.2.1) ?_
      refine hK.out _ _ trivial (fun _=> ?_)
      clear hK K
      try simp only[Act.put,F3,U3,V3]
      refine wpAnyH_ready (rs:=[4]) (by kernel_rfl) (by simp) ?_
      refine q9 rfl (fun K hK=> ?_)
      go_simp
      refine hK.out _ _ trivial (fun _=> ?_)
      clear hK K
      try simp only[Act.put,F3,U3,V3]
      refine wpAnyH_done (by kernel_rfl) ?_ _
      go_wp2_with fail
      refine bodyPost_ret (U5 rfl _ _ rb 34 _ (0,0) _ rfl (nD HF.o.1 HF.o.2.2 Pd.o.res) underlying34 rfl (by rw[U4,HF.o.1];exact I5)) rfl ?_
      exact HT.o
     ·go_simp
      refine (p8 p g r2 _ Pd.o.rd).mono ?_
      rintro e wy ⟨rfl,rfl⟩
      go_wp2_with fail
      refine hK.out _ _ trivial (fun _=> ?_)
      clear hK K
      try simp only[Act.put,F3,U3,V3]
      refine wpAnyH_ready (rs:=[0]) (by kernel_rfl) (by simp) ?_
      refine q9 rfl (fun K hK=> ?_)
      refine Z7 rfl 34 (.tmp 3) rfl w.heap.size 0 rfl Xr _ Pd.o.row.rangeAll underlying34 rfl (by rw[HF.o.1];exact I5) ?_
      refine hK.out _ _ trivial (fun _=> ?_)
      clear hK K
      try simp only[Act.put,F3,U3,V3]
      refine wpAnyH_ready (rs:=[3]) (by kernel_rfl) (by simp) ?_
      refine q9 rfl (fun K hK=> ?_)
      refine I6 rfl 34 (.tmp 4) (.tmp 108) rfl rb 0 Xr.toArray rfl rfl (Pd.o.res.there (by rw[U4,U4,HF.o.2.2,HF.o.1];exact Nat.le_refl _)) (by rw[U4,HF.o.1];exact I5) (all_oneCell_toArray HF.o.2.1) ?_
      refine hK.out _ _ trivial (fun _=> ?_)
      clear hK K
      try simp only[Act.put,F3,U3,V3]
      refine wpAnyH_ready (rs:=[4]) (by kernel_rfl) (by simp) ?_
      refine q9 rfl (fun K hK=> ?_)
      go_simp
      refine hK.out _ _ trivial (fun _=> ?_)
      clear hK K
      try simp only[Act.put,F3,U3,V3]
      refine wpAnyH_done (by kernel_rfl) ?_ _
      go_wp2_with fail
      refine bodyPost_ret (U5 rfl _ _ rb 34 _ (0,0) _ rfl (nD HF.o.1 HF.o.2.2 Pd.o.res) underlying34 rfl (by rw[U4,HF.o.1];exact I5)) rfl ?_
      exact HT.o
end Go.Proofs.YthfdkonhjpdflaaGreatDoor
