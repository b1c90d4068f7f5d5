import Derived.Test.YthfdkonhjpdflaaGreatDoorRC15
import Derived.Test.YthfdkonhjpdflaaGreatDoorPkD
import Derived.Deep.QuietTactic
import Derived.BigQuiet
import Derived.BigRegion
namespace Go.Proofs.YthfdkonhjpdflaaGreatDoor
open Go.RowKit Go.Proofs.Tryz
set_option linter.unusedVariables false
set_option maxRecDepth 100000
set_option linter.unusedSimpArgs false
set_option maxHeartbeats 16000000
theorem fA {P:Program} (w w':World) {ops:Array Oper} {o:Oper} {a:Act} {K:Act→World→Prop} {Q:Exit→Act→World→Prop} {E:Prop} (hgd:o.guard=none) (t:TypeId) (ho:o.op= .alloc t)
 (zs:Array Value) (hz:(P.info? t).bind (·.zero)=some (.agg zs)) (hw:w.alloc (.cells zs t)=w') (h:K (a.put o.dst (.pointer (some ⟨w.heap.size,0,none⟩))) w'):if Region.wanted o (yielded ops a.tmps)=true then Oper.wp P o a w K Q else E:=by
 subst hw
 rw[if_pos (by simp[Region.wanted,hgd])]
 cases hi:P.info? t with
 |none=>rw[hi] at hz;cases hz
 |some i=>
  rw[hi] at hz
  have hz':i.zero=some (.agg zs):=hz
  unfold Oper.wp execOp
  simp only[ho]
  simpa[Instr.alloc,zeroValue,typeInfo,hi,hz',newVar,newRow,Value.cells,go_sem] using h
def VT.cut8 (v:VT):VT:=⟨v.ballot,⟨v.conf.num,v.conf.full,v.conf.chain.take 8⟩⟩
def PK.cutW (p:PK):PK:=⟨p.kind,p.frm,p.dst,p.num,p.seq,p.ballot,p.ready,⟨p.req.client,p.req.num,p.req.kind,p.req.version,p.req.name,p.req.env.take 1100⟩,⟨p.ans.client,p.ans.num,p.ans.code,p.ans.version,p.ans.epoch,p.ans.name,p.ans.env.take 1100⟩,⟨p.conf.num,p.conf.full,p.conf.chain.take 8⟩,(p.votes.take 10).map VT.cut8,p.bytes.take 3000⟩
theorem PK.cutW_fits (p:PK):p.cutW.fits:=by
 refine⟨?_,?_,?_,?_,?_,?_⟩
 ·show (p.req.env.take 1100).length≤_;rw[List.length_take];omega
 ·show (p.ans.env.take 1100).length≤_;rw[List.length_take];omega
 ·show (p.conf.chain.take 8).length≤_;rw[List.length_take];omega
 ·show ((p.votes.take 10).map VT.cut8).length≤_;rw[List.length_map,List.length_take];omega
 ·intro v hv
  obtain⟨x,_,rfl⟩:=List.mem_map.1 hv
  show (x.conf.chain.take 8).length≤_;rw[List.length_take];omega
 ·show (p.bytes.take 3000).length≤_;rw[List.length_take];omega
theorem G7.cutTo {w:World} {F:List Nat} {A:Option Addr} {n c:Nat} {l:List UInt8} (h:G7 w F (.slice A n c) l) (k:Nat) (hk:k≤l.length):G7 w F (.slice A k c) (l.take k):=by
 obtain⟨A',c',g,h1,h2,h3,h5,h6⟩:=h
 injection h1 with ha hb hc
 subst ha hc
 have hl:(l.take k).length=k:=by rw[List.length_take];omega
 exact⟨A,c,g,by rw[hl],by rw[hl];omega,h3,h5.take k,fun hne=>h6 (fun e=>hne (by rw[e];simp))⟩
theorem F8.cutTo {w:World} {F:List Nat} {A:Option Addr} {n c:Nat} {l:List Int} (h:F8 w F (.slice A n c) l) (k:Nat) (hk:k≤l.length):F8 w F (.slice A k c) (l.take k):=by
 obtain⟨A',c',g,h1,h2,h3,h5,h6⟩:=h
 injection h1 with ha hb hc
 subst ha hc
 have hl:(l.take k).length=k:=by rw[List.length_take];omega
 refine⟨A,c,g,by rw[hl],by rw[hl];omega,h3,⟨by rw[List.length_map,hl];omega,fun h0=> ?_⟩,fun hne=>h6 (fun e=>hne (by rw[e];simp))⟩
 obtain⟨o,e1,e2,e3⟩:=h5.2 (by rw[hl] at h0;omega)
 refine⟨o,e1,e2,fun j u hu=>e3 j u ?_⟩
 rw[List.map_take] at hu
 have hj:j<k:=by
  have:=(List.getElem?_eq_some_iff.1 hu).1
  rw[List.length_take] at this;omega
 rw[List.getElem?_take_of_lt hj] at hu
 exact hu
theorem IW {r:RQ} {ev u:Value} (h:r.name.length=32) (l:List UInt8):(U8 r ev).toArray.setIfInBounds 36 u=(U8 ⟨r.client,r.num,r.kind,r.version,r.name,l⟩ u).toArray:=(fO h u).trans rfl
theorem YU {r:AN} {ev u:Value} (h:r.name.length=32) (l:List UInt8):(x9 r ev).toArray.setIfInBounds 37 u=(x9 ⟨r.client,r.num,r.code,r.version,r.epoch,r.name,l⟩ u).toArray:=(wM h u).trans rfl
theorem ZE {α:Type} (l:List α) (n:Nat):l.take (l.take n).length=l.take n:=by
 rw[List.length_take]
 rcases Nat.le_total n l.length with h|h
 ·rw[Nat.min_eq_left h]
 ·rw[Nat.min_eq_right h,List.take_of_length_le (Nat.le_refl _),List.take_of_length_le h]
theorem FP {w:World} {g:Nat} {t:TypeId} {cs:List Value} (h:l5 w g t cs.toArray) (n sz:Nat) (hs:cs.length=n*sz):MB w (some ⟨g,0,none⟩) g n sz cs:=
 ⟨hs,fun _=>⟨0,rfl,h.lt,fun j u hu=>by rw[h.cell];simpa using hu⟩⟩
def cwAt (F:List Nat) (w w0 wx:World) (l:List VT) (i:Nat) (v:Value):Prop:=
 ∃ A c T,v= .slice A i c∧T.map (·.1)=(l.take i).map VT.cut8∧T.length=i∧qA wx 69 4 (.slice A i c) i (Z9 T)∧(∀ y∈Z6 (.slice A i c),w0.heap.size≤y)∧(∀ t∈T,F8 w F t.2 t.1.conf.chain)∧U1 [] w0 wx
def VL (p:PK) (F:List Nat) (w:World) (e:Ending) (w':World):Prop:=
 ∃ X G,e= .returned (.agg (X:List Value).toArray)∧iB w' G (p.cutW,X)∧(∀ y∈G,y∈F∨(w.heap.size≤y∧y<w'.heap.size))∧U1 [] w w'
theorem bN (F:List Nat) (p:PK) (ev av cv vv bw:Value) (w:World) (h:wD w F p ev av cv vv bw) (hF:∀ y∈F,y<w.heap.size):
 Calls prog 6 #[.agg (q8 p ev av cv vv bw).toArray] w (VL p F w):=by
 have hrn:=h.rn
 have han:=h.an
 obtain⟨A0,c0,g0,rfl,i0,j0, -, -⟩:=id h.re
 obtain⟨A1,c1,g1,rfl,i1,j1, -, -⟩:=id h.ae
 obtain⟨A2,c2,g2,rfl,i2,j2, -, -⟩:=id h.cc
 obtain⟨A3,c3,g3,T3,rfl,i3,j3, -⟩:=id h.vs
 obtain⟨A4,c4,g4,rfl,i4,j4, -, -⟩:=id h.bs
 obtain⟨n0,hn0⟩:∃ n,p.req.env.length=n:=⟨_,rfl⟩
 obtain⟨n1,hn1⟩:∃ n,p.ans.env.length=n:=⟨_,rfl⟩
 obtain⟨n2,hn2⟩:∃ n,p.conf.chain.length=n:=⟨_,rfl⟩
 obtain⟨n3,hn3⟩:∃ n,p.votes.length=n:=⟨_,rfl⟩
 obtain⟨n4,hn4⟩:∃ n,p.bytes.length=n:=⟨_,rfl⟩
 have HN:=U0 (U2 hn0 (U2 hn1 (U2 hn2 (U2 hn3 hn4))))
 rw[hn0] at h i0
 rw[hn1] at h i1
 rw[hn2] at h i2
 rw[hn3] at h i3
 rw[hn4] at h i4
 rw[hn0,hn1,hn2,hn3,hn4]
 unfold maxLen at j0 j1 j2 j3 j4
 obtain⟨X,hX⟩:∃ X,q8 p (.slice A0 n0 c0) (.slice A1 n1 c1) (.slice A2 n2 c2) (.slice A3 n3 c3) (.slice A4 n4 c4)=X:=⟨_,rfl⟩
 have hXl:X.length=87:=by rw[←hX];exact G8 hrn han
 obtain⟨Z,hZl,hZ, -, -⟩:=dX
 have k1:=(U1.refl [] w).alloc (.cells X.toArray 34)
 have r1:=l5.new w 34 X.toArray
 have hs1:(w.alloc (.cells X.toArray 34)).heap.size=w.heap.size+1:=World.size_alloc _ _
 obtain⟨w1,hw1⟩:∃ w1,w.alloc (.cells X.toArray 34)=w1:=⟨_,rfl⟩
 rw[hw1] at k1 r1 hs1
 have k2:=(U1.refl [] w1).alloc (.cells Z.toArray 34)
 have r2:=l5.new w1 34 Z.toArray
 have r1':=k2.row r1 (by simp)
 obtain⟨w2,hw2⟩:∃ w2,w1.alloc (.cells Z.toArray 34)=w2:=⟨_,rfl⟩
 rw[hw2] at r1' r2 k2
 rw[hs1] at r2
 have k12:=k1.then k2 (by simp)
 obtain⟨b,hb⟩:∃ b,w.heap.size=b:=⟨_,rfl⟩
 rw[hb] at r1' r2 hs1
 have HW:=U0 (U2 hw1 hw2)
 have HZ:=U0 (U2 hZ (U2 hZl hs1))
 rw[←hX] at r1'
 have PA:V5 (∀ wx,U1 [] w2 wx→RN wx b p (.slice A0 n0 c0) (.slice A1 n1 c1) (.slice A2 n2 c2) (.slice A3 n3 c3) (.slice A4 n4 c4)):=U0 (fun wx k=>(k.row r1' (by simp)).pk hrn han)
 have H2:=U0 (U2 r1' (U2 r2 (U2 k12 (h.over k12))))
 have HX:=U0 (U2 hXl hX)
 have HH0:=U0 h
 have HB:=U0 (U2 hrn (U2 han (U2 hb hF)))
 obtain⟨RL,hRL⟩:∃ L,U8 p.req (.slice A0 n0 c0)=L:=⟨_,rfl⟩
 obtain⟨AL,hAL⟩:∃ L,x9 p.ans (.slice A1 n1 c1)=L:=⟨_,rfl⟩
 have HRL:=U0 (U2 (show RL.length=37 by rw[←hRL];exact O8 hrn) (U2 (show ∀ v∈RL,v.oneCell'=true by rw[←hRL];exact fB _ rfl) hRL))
 have HAL:=U0 (U2 (show AL.length=38 by rw[←hAL];exact y9 han) (U2 (show ∀ v∈AL,v.oneCell'=true by rw[←hAL];exact IB _ rfl) hAL))
 obtain⟨ZR,hZR⟩:∃ L,U8 I7 I4=L:=⟨_,rfl⟩
 obtain⟨ZA,hZA⟩:∃ L,x9 l8 I4=L:=⟨_,rfl⟩
 have HZR:V5 ((prog.info? 26).bind (·.zero)=some (.agg ZR.toArray)∧ZR.length=37):=U0 ⟨hZR▸nI,hZR▸uJ⟩
 have HZA:V5 ((prog.info? 28).bind (·.zero)=some (.agg ZA.toArray)∧ZA.length=38):=U0 ⟨hZA▸vK,hZA▸IL⟩
 have HRG:V5 (∀ wx,U1 [] w2 wx→wx.rangeAt b 7 RL∧wx.rangeAt b 44 AL):=U0 (fun wx k=>⟨hRL▸(PA.o wx k).rq,hAL▸(PA.o wx k).an⟩)
 clear hw1 hw2 k1 r1 k2 r1' r2 k12 hXl hZl hZ hs1 hX h hrn han hn0 hn1 hn2 hn3 hn4 hF hRL hAL hZR hZA
 go_enter func6,ntmps6
 rw[HX.o.2]
 go_upto_region 1 with (first
  |(with_reducible refine Z4 _ _ rfl 34 (.tmp 0) rfl _ rfl HW.o.1 ?_;try simp only[hb])
  |(with_reducible refine F5 _ _ rfl 34 rfl _ HZ.o.1 HW.o.2 ?_;try simp only[HZ.o.2.2]))
 try simp only[Act.put,F3,U3,V3]
 go_cut [3,4] (fun v3 v4 wx=>∃ d3 d4,v3= .pointer (some ⟨d3,0,none⟩)∧v4= .pointer (some ⟨d4,0,none⟩)∧V5 (l5 wx d3 26 RL.toArray∧l5 wx d4 28 AL.toArray∧U1 [] w2 wx∧w2.heap.size≤d3∧w2.heap.size≤d4∧d3≠d4))
 case first=>
  have KS:U1 [] w2 w2.drew:=(U1.refl [] w2).drew
  refine wp_region_held_drew (S:=fun W=>U1 [] w2 W) (by kernel_rfl) KS (fun _=> ?_)
  refine FB 0 ⟨_,_,_,_,_,_⟩ _ KS ?_
  try simp only[Act.put,F3,U3,V3]
  refine wpAnyH_take (i:=1) (oi:=⟨_,_,_,_,_,_⟩) (v:= .agg (RL).toArray) rfl (by kernel_rfl) (by kernel_rfl) (by kernel_rfl) (fun _ _ _ h=>h) (uA 26 (.tmp 9) rfl b 7 rfl (RL) _ (fun w' hSw=>(HRG.o w' hSw).1) underlying26 rfl (by rw[HRL.o.1];exact D9) ?_) KS ?_
  ·rfl
  try simp only[Act.put,F3,U3,V3]
  refine FB 2 ⟨_,_,_,_,_,_⟩ _ KS ?_
  try simp only[Act.put,F3,U3,V3]
  refine wpAnyH_take (i:=3) (oi:=⟨_,_,_,_,_,_⟩) (v:= .agg (AL).toArray) rfl (by kernel_rfl) (by kernel_rfl) (by kernel_rfl) (fun _ _ _ h=>h) (uA 28 (.tmp 11) rfl b 44 rfl (AL) _ (fun w' hSw=>(HRG.o w' hSw).2) underlying28 rfl (by rw[HAL.o.1];exact Q9) ?_) KS ?_
  ·rfl
  try simp only[Act.put,F3,U3,V3]
  refine wpAnyH_ready (rs:=[4,5]) (by kernel_rfl) (by simp) ?_
  refine AllReadyH.cons (o:=⟨_,_,_,_,_,_⟩) rfl (fun K hK=> ?_) (q9 rfl (fun K hK=> ?_))
  focus (
   refine fA _ _ rfl 26 rfl ZR.toArray HZR.o.1 (rfl:w2.drew.alloc (.cells ZR.toArray 26)=_) ?_
   refine hK.out _ _ (KS.alloc (.cells ZR.toArray 26)) (fun _=> ?_)
   clear hK K
   try simp only[Act.put,F3,U3,V3]
   refine wpAnyH_ready (rs:=[5]) (by kernel_rfl) (by simp) ?_
   refine q9 rfl (fun K hK=> ?_)
   refine fA _ _ rfl 28 rfl ZA.toArray HZA.o.1 (rfl:(w2.drew.alloc (.cells ZR.toArray 26)).alloc (.cells ZA.toArray 28)=_) ?_
   refine hK.out _ _ ((KS.alloc (.cells ZR.toArray 26)).alloc (.cells ZA.toArray 28)) (fun _=> ?_)
   clear hK K
   try simp only[Act.put,F3,U3,V3]
   have ra:=((U1.refl [] (w2.drew.alloc (.cells ZR.toArray 26))).alloc (.cells ZA.toArray 28)).row (l5.new w2.drew 26 ZR.toArray) (by simp)
   have rb:=l5.new (w2.drew.alloc (.cells ZR.toArray 26)) 28 ZA.toArray
   have hsz:(w2.drew.alloc (.cells ZR.toArray 26)).heap.size=w2.drew.heap.size+1:=World.size_alloc _ _
   have kq:U1 [] w2 ((w2.drew.alloc (.cells ZR.toArray 26)).alloc (.cells ZA.toArray 28)):=(KS.alloc (.cells ZR.toArray 26)).alloc (.cells ZA.toArray 28)
   have hd0:w2.heap.size≤w2.drew.heap.size:=Nat.le_refl _
   obtain⟨dx,hdx⟩:∃ d,w2.drew.heap.size=d:=⟨_,rfl⟩
   obtain⟨dy,hdy⟩:∃ d,(w2.drew.alloc (.cells ZR.toArray 26)).heap.size=d:=⟨_,rfl⟩
   rw[hdy] at hsz rb
   rw[hdx] at hsz ra hd0
   simp only[hdy]
   simp only[hdx]
   obtain⟨W,hWW⟩:∃ W,(w2.drew.alloc (.cells ZR.toArray 26)).alloc (.cells ZA.toArray 28)=W:=⟨_,rfl⟩
   rw[hWW] at ra rb kq ⊢
   clear hWW hdx hdy
   obtain⟨d3,h3⟩:∃ d,dx=d:=⟨_,rfl⟩
   obtain⟨d4,h4⟩:∃ d,dy=d:=⟨_,rfl⟩
   have RQ3:=U0 (h3▸ra)
   have RQ4:=U0 (h4▸rb)
   have KQ:V5 (U1 [] w2 W∧w2.heap.size≤d3∧w2.heap.size≤d4∧d3≠d4):=U0 ⟨kq,by omega,by omega,by omega⟩
   rw[h3,h4]
   clear ra rb kq hsz hd0 h3 h4)
  rotate_left
  focus (
   refine fA _ _ rfl 28 rfl ZA.toArray HZA.o.1 (rfl:w2.drew.alloc (.cells ZA.toArray 28)=_) ?_
   refine hK.out _ _ (KS.alloc (.cells ZA.toArray 28)) (fun _=> ?_)
   clear hK K
   try simp only[Act.put,F3,U3,V3]
   refine wpAnyH_ready (rs:=[4]) (by kernel_rfl) (by simp) ?_
   refine q9 rfl (fun K hK=> ?_)
   refine fA _ _ rfl 26 rfl ZR.toArray HZR.o.1 (rfl:(w2.drew.alloc (.cells ZA.toArray 28)).alloc (.cells ZR.toArray 26)=_) ?_
   refine hK.out _ _ ((KS.alloc (.cells ZA.toArray 28)).alloc (.cells ZR.toArray 26)) (fun _=> ?_)
   clear hK K
   try simp only[Act.put,F3,U3,V3]
   have ra:=((U1.refl [] (w2.drew.alloc (.cells ZA.toArray 28))).alloc (.cells ZR.toArray 26)).row (l5.new w2.drew 28 ZA.toArray) (by simp)
   have rb:=l5.new (w2.drew.alloc (.cells ZA.toArray 28)) 26 ZR.toArray
   have hsz:(w2.drew.alloc (.cells ZA.toArray 28)).heap.size=w2.drew.heap.size+1:=World.size_alloc _ _
   have kq:U1 [] w2 ((w2.drew.alloc (.cells ZA.toArray 28)).alloc (.cells ZR.toArray 26)):=(KS.alloc (.cells ZA.toArray 28)).alloc (.cells ZR.toArray 26)
   have hd0:w2.heap.size≤w2.drew.heap.size:=Nat.le_refl _
   obtain⟨dx,hdx⟩:∃ d,w2.drew.heap.size=d:=⟨_,rfl⟩
   obtain⟨dy,hdy⟩:∃ d,(w2.drew.alloc (.cells ZA.toArray 28)).heap.size=d:=⟨_,rfl⟩
   rw[hdy] at hsz rb
   rw[hdx] at hsz ra hd0
   simp only[hdy]
   simp only[hdx]
   obtain⟨W,hWW⟩:∃ W,(w2.drew.alloc (.cells ZA.toArray 28)).alloc (.cells ZR.toArray 26)=W:=⟨_,rfl⟩
   rw[hWW] at ra rb kq ⊢
   clear hWW hdx hdy
   obtain⟨d3,h3⟩:∃ d,dy=d:=⟨_,rfl⟩
   obtain⟨d4,h4⟩:∃ d,dx=d:=⟨_,rfl⟩
   have RQ3:=U0 (h3▸rb)
   have RQ4:=U0 (h4▸ra)
   have KQ:V5 (U1 [] w2 W∧w2.heap.size≤d3∧w2.heap.size≤d4∧d3≠d4):=U0 ⟨kq,by omega,by omega,by omega⟩
   rw[h3,h4]
   clear ra rb kq hsz hd0 h3 h4)
  all_goals (
   have k6:U1 [d3] W (W.setCells d3 0 RL):=(U1.refl _ _).setL (.inl (by simp))
   have k7:U1 [d4] (W.setCells d3 0 RL) ((W.setCells d3 0 RL).setCells d4 0 AL):=(U1.refl _ _).setL (.inl (by simp))
   refine wpAnyH_ready (rs:=[6]) (by kernel_rfl) (by simp) ?_
   refine q9 rfl (fun K hK=> ?_)
   refine I6 rfl 26 (.tmp 3) (.tmp 10) rfl d3 0 RL.toArray rfl rfl (RQ3.o.there (by have h1:=HRL.o.1;have h2:=HZR.o.2;simp only[U4];omega)) (by rw[U4,HRL.o.1];exact D9) (all_oneCell_toArray HRL.o.2.1) ?_
   refine hK.out _ _ (KQ.o.1.setL (vs:=RL) (o:=0) (.inr KQ.o.2.1)) (fun _=> ?_)
   clear hK K
   try simp only[Act.put,F3,U3,V3]
   refine wpAnyH_ready (rs:=[7]) (by kernel_rfl) (by simp) ?_
   refine q9 rfl (fun K hK=> ?_)
   refine I6 rfl 28 (.tmp 4) (.tmp 12) rfl d4 0 AL.toArray rfl rfl ((k6.row RQ4.o (by simp;exact fun e=>KQ.o.2.2.2 e.symm)).there (by have h1:=HAL.o.1;have h2:=HZA.o.2;simp only[U4];omega)) (by rw[U4,HAL.o.1];exact Q9) (all_oneCell_toArray HAL.o.2.1) ?_
   refine hK.out _ _ ((KQ.o.1.setL (vs:=RL) (o:=0) (.inr KQ.o.2.1)).setL (vs:=AL) (o:=0) (.inr KQ.o.2.2.1)) (fun _=> ?_)
   clear hK K
   try simp only[Act.put,F3,U3,V3]
   refine wpAnyH_done (by kernel_rfl) ?_ _
   go_wp2_with fail
   have ra:=RQ3.o.setL (vs:=RL) (o:=0)
   rw[F7 (by have h1:=HRL.o.1;have h2:=HZR.o.2;simp only[U4];omega)] at ra
   have r4:=k6.row RQ4.o (by simp;exact fun e=>KQ.o.2.2.2 e.symm)
   have rb:=r4.setL (vs:=AL) (o:=0)
   rw[F7 (by have h1:=HAL.o.1;have h2:=HZA.o.2;simp only[U4];omega)] at rb
   have ra2:=k7.row ra (by simp;exact KQ.o.2.2.2)
   have kq:=((KQ.o.1.setL (vs:=RL) (o:=0) (.inr KQ.o.2.1)).setL (vs:=AL) (o:=0) (.inr KQ.o.2.2.1))
   try simp only[List.toList_toArray]
   generalize (W.setCells d3 0 RL).setCells d4 0 AL=w3 at*
   have H3:=U0 (U2 ra2 (U2 rb (U2 kq KQ.o.2)))
   clear ra r4 rb ra2 kq k6 k7 RQ3 RQ4 KQ KS
   go_meet
   exact⟨d3,d4,rfl,rfl,H3⟩)
 case rest=>
  obtain⟨d3,d4,rfl,rfl,h3⟩:=hcut
  obtain⟨h3a,h3b,h3c,h3d,h3e,h3f⟩:=h3.o
  have hb2:b<w2.heap.size:=H2.o.1.lt
  have hb21:b+1<w2.heap.size:=H2.o.2.1.lt
  have hwb:w.heap.size≤b:=by rw[HB.o.2.2.1];exact Nat.le_refl _
  have HD:=U0 (U2 (show b<d3 by omega) (U2 (show b<d4 by omega) (U2 h3f (U2 (show b+1<d3 by omega) (U2 (show b+1<d4 by omega) hwb)))))
  have y:wc.cell? ⟨d3,36,none⟩=some (.slice A0 n0 c0):=(h3a.cell 36).trans (by rw[←HRL.o.2.2];exact WC HB.o.1)
  have f:=h3a.free 36
  obtain⟨k0,hk0⟩:∃ k,(p.req.env.take 1100).length=k:=⟨_,rfl⟩
  have E0:=U0 (show (if 1100<(n0:Int) then 1100 else (n0:Int)).toNat=k0 by rw[←hk0,List.length_take,HN.o.1];split<;>omega)
  have hkn0:k0≤n0:=by rw[←hk0,List.length_take,HN.o.1];omega
  have HK0:=U0 (U2 hk0 hkn0)
  clear h3 hk0 hkn0
  go_upto_region 3 with fail
  simp only[E0.o]
  generalize (if 1100<(n0:Int) then 1100 else (n0:Int))=z0
  obtain⟨RM,hRM⟩:∃ L,U8 p.cutW.req (.slice A0 k0 c0)=L:=⟨_,rfl⟩
  have r4:l5 (wc.setCell ⟨d3,36,none⟩ (.slice A0 k0 c0)) d3 26 RM.toArray:=by
   have:=h3a.set 36 (.slice A0 k0 c0)
   rw[←HRL.o.2.2,IW HB.o.1 (p.req.env.take 1100)] at this
   rw[←hRM];exact this
  have k4:=xC wc d3 36 (.slice A0 k0 c0)
  have r4b:=k4.row h3b (by simp;exact fun e=>h3f e.symm)
  have kk4:U1 [] w2 (wc.setCell ⟨d3,36,none⟩ (.slice A0 k0 c0)):=h3c.then k4 (fun x hx=> .inr (by simp only[List.mem_singleton] at hx;omega))
  have HRM:=U0 (U2 (show RM.length=37 by rw[←hRM];exact O8 HB.o.1) (U2 (show ∀ v∈RM,v.oneCell'=true by rw[←hRM];exact fB _ rfl) hRM))
  generalize wc.setCell ⟨d3,36,none⟩ (.slice A0 k0 c0)=w4 at r4 k4 r4b kk4 ⊢
  clear h3a h3b h3c y f k4 hRM
  have y:w4.cell? ⟨d4,37,none⟩=some (.slice A1 n1 c1):=(r4b.cell 37).trans (by rw[←HAL.o.2.2];exact VC HB.o.2.1)
  have f:=r4b.free 37
  obtain⟨k1,hk1⟩:∃ k,(p.ans.env.take 1100).length=k:=⟨_,rfl⟩
  have E1:=U0 (show (if 1100<(n1:Int) then 1100 else (n1:Int)).toNat=k1 by rw[←hk1,List.length_take,HN.o.2.1];split<;>omega)
  have hkn1:k1≤n1:=by rw[←hk1,List.length_take,HN.o.2.1];omega
  have HK1:=U0 (U2 hk1 hkn1)
  clear hk1 hkn1
  go_upto_region 4 with fail
  simp only[E1.o]
  generalize (if 1100<(n1:Int) then 1100 else (n1:Int))=z1
  obtain⟨AM,hAM⟩:∃ L,x9 p.cutW.ans (.slice A1 k1 c1)=L:=⟨_,rfl⟩
  have r5:l5 (w4.setCell ⟨d4,37,none⟩ (.slice A1 k1 c1)) d4 28 AM.toArray:=by
   have:=r4b.set 37 (.slice A1 k1 c1)
   rw[←HAL.o.2.2,YU HB.o.2.1 (p.ans.env.take 1100)] at this
   rw[←hAM];exact this
  have k5:=xC w4 d4 37 (.slice A1 k1 c1)
  have r5b:=k5.row r4 (by simp;exact h3f)
  have kk5:U1 [] w2 (w4.setCell ⟨d4,37,none⟩ (.slice A1 k1 c1)):=kk4.then k5 (fun x hx=> .inr (by simp only[List.mem_singleton] at hx;omega))
  have HAM:=U0 (U2 (show AM.length=38 by rw[←hAM];exact y9 HB.o.2.1) (U2 (show ∀ v∈AM,v.oneCell'=true by rw[←hAM];exact IB _ rfl) hAM))
  generalize w4.setCell ⟨d4,37,none⟩ (.slice A1 k1 c1)=w5 at r5 k5 r5b kk5 ⊢
  have H5:=U0 (U2 r5b (U2 r5 (U2 (kk5.row H2.o.1 (by simp)) (U2 (kk5.row H2.o.2.1 (by simp)) (H2.o.2.2.1.then kk5 (by simp))))))
  clear r4 r4b kk4 y f k5 hAM r5 r5b h3d h3e h3f
  go_upto_region 5 with (first
   |(refine wpList_load_mid rfl 26 (.tmp 3) rfl d3 0 rfl RM _ H5.o.1.rangeAll underlying26 rfl (by rw[HRM.o.1];exact D9) ?_)
   |(refine wpList_store_mid rfl 26 (.tmp 30) (.tmp 29) rfl b 7 RM.toArray rfl rfl (H5.o.2.2.1.there (by simp only[U4];rw[HRM.o.1,G8 HB.o.1 HB.o.2.1];decide)) (by rw[U4,HRM.o.1];exact D9) (all_oneCell_toArray HRM.o.2.1) ?_))
  try simp only[List.toList_toArray]
  have r6:l5 (w5.setCells b 7 RM) b 34 (q8 {p with req:=p.cutW.req} (.slice A0 k0 c0) (.slice A1 n1 c1) (.slice A2 n2 c2) (.slice A3 n3 c3) (.slice A4 n4 c4)).toArray:=by
   have:=H5.o.2.2.1.setL (vs:=RM) (o:=7)
   rw[←HRM.o.2.2,mF p.cutW.req (.slice A0 k0 c0) HB.o.1 HB.o.1] at this
   rw[←HRM.o.2.2];exact this
  have k6:U1 [b] w5 (w5.setCells b 7 RM):=(U1.refl _ _).setL (.inl (by simp))
  have r6b:=k6.row H5.o.2.1 (by simp;have:=HD.o.2.1;omega)
  have r6c:=k6.row H5.o.2.2.2.1 (by simp)
  have kk6:=H5.o.2.2.2.2.then k6 (fun x hx=> .inr (by simp only[List.mem_singleton] at hx;have:=HD.o.2.2.2.2.2;omega))
  generalize w5.setCells b 7 RM=w6 at r6 k6 r6b r6c kk6 ⊢
  have H6:=U0 (U2 r6 (U2 r6b (U2 r6c kk6)))
  clear r6 k6 r6b r6c kk6 H5 kk5
  have hrn':({p with req:=p.cutW.req}:PK).req.name.length=32:=HB.o.1
  go_upto_region 6 with (first
   |(refine wpList_load_mid rfl 28 (.tmp 4) rfl d4 0 rfl AM _ H6.o.2.1.rangeAll underlying28 rfl (by rw[HAM.o.1];exact Q9) ?_)
   |(refine wpList_store_mid rfl 28 (.tmp 32) (.tmp 31) rfl b 44 AM.toArray rfl rfl (H6.o.1.there (by simp only[U4];rw[HAM.o.1,G8 hrn' HB.o.2.1];decide)) (by rw[U4,HAM.o.1];exact Q9) (all_oneCell_toArray HAM.o.2.1) ?_))
  try simp only[List.toList_toArray]
  obtain⟨p2,hp2⟩:∃ q:PK,{p with req:=p.cutW.req,ans:=p.cutW.ans}=q:=⟨_,rfl⟩
  have r7:l5 (w6.setCells b 44 AM) b 34 (q8 p2 (.slice A0 k0 c0) (.slice A1 k1 c1) (.slice A2 n2 c2) (.slice A3 n3 c3) (.slice A4 n4 c4)).toArray:=by
   have:=H6.o.1.setL (vs:=AM) (o:=44)
   rw[←HAM.o.2.2,IG p.cutW.ans (.slice A1 k1 c1) hrn' HB.o.2.1 HB.o.2.1] at this
   rw[←HAM.o.2.2,←hp2];exact this
  have k7:U1 [b] w6 (w6.setCells b 44 AM):=(U1.refl _ _).setL (.inl (by simp))
  have r7c:=k7.row H6.o.2.2.1 (by simp)
  have kk7:=H6.o.2.2.2.then k7 (fun x hx=> .inr (by simp only[List.mem_singleton] at hx;have:=HD.o.2.2.2.2.2;omega))
  generalize w6.setCells b 44 AM=w7 at r7 k7 r7c kk7 ⊢
  have HP2:=U0 (show p2.req.name.length=32∧p2.ans.name.length=32∧p2.conf=p.conf∧p2.votes=p.votes∧p2.bytes=p.bytes∧∀ e a c v b,q8 p.cutW e a c v b=q8 p2 e a c v b by rw[←hp2];exact⟨HB.o.1,HB.o.2.1,rfl,rfl,rfl,fun _ _ _ _ _=>rfl⟩)
  have PA7:=r7.pk HP2.o.1 HP2.o.2.1
  have H7:=U0 (U2 r7 (U2 r7c kk7))
  clear r7 k7 r7c kk7 H6 hrn' hp2
  have y0:=PA7.d0
  have y1:=PA7.d1
  have y2:=PA7.d2
  clear PA7
  go_upto_region 7 with fail
  rw[HP2.o.2.2.1]
  have k8:=(U1.refl [] w7).alloc (.cells #[.int .i64 p.conf.num,.int .i64 p.conf.full,.slice A2 n2 c2] 31)
  have r8:=l5.new w7 31 #[.int .i64 p.conf.num,.int .i64 p.conf.full,.slice A2 n2 c2]
  obtain⟨w8,hw8⟩:∃ W,w7.alloc (.cells #[.int .i64 p.conf.num,.int .i64 p.conf.full,.slice A2 n2 c2] 31)=W:=⟨_,rfl⟩
  obtain⟨d5,hd5⟩:∃ d,w7.heap.size=d:=⟨_,rfl⟩
  rw[hw8] at r8 k8 ⊢
  rw[hd5] at r8 ⊢
  have hbd5:b<d5:=by have:=H7.o.1.lt;omega
  have hb1d5:b+1<d5:=by have:=H7.o.2.1.lt;omega
  have HD5:=U0 (U2 hbd5 hb1d5)
  have H8:=U0 (U2 (k8.row H7.o.1 (by simp)) (U2 (k8.row H7.o.2.1 (by simp)) (H7.o.2.2.then k8 (by simp))))
  clear hw8 hd5 y0 y1 y2 k8 H7
  have y:w8.cell? ⟨d5,2,none⟩=some (.slice A2 n2 c2):=r8.cell 2
  have f:=r8.free 2
  obtain⟨k2,hk2⟩:∃ k,(p.conf.chain.take 8).length=k:=⟨_,rfl⟩
  have E2:=U0 (show (if 8<(n2:Int) then 8 else (n2:Int)).toNat=k2 by rw[←hk2,List.length_take,HN.o.2.2.1];split<;>omega)
  have hkn2:k2≤n2:=by rw[←hk2,List.length_take,HN.o.2.2.1];omega
  have HK2:=U0 (U2 hk2 hkn2)
  clear hk2 hkn2
  go_upto_region 8 with fail
  simp only[E2.o]
  generalize (if 8<(n2:Int) then 8 else (n2:Int))=z2
  have r9:l5 (w8.setCell ⟨d5,2,none⟩ (.slice A2 k2 c2)) d5 31 #[.int .i64 p.conf.num,.int .i64 p.conf.full,.slice A2 k2 c2]:=r8.set 2 _
  have k9:=xC w8 d5 2 (.slice A2 k2 c2)
  have hk9:b∉[d5]:=by simp;omega
  have H9:=U0 (U2 (k9.row H8.o.1 hk9) (U2 (k9.row H8.o.2.1 (by simp;omega)) (H8.o.2.2.then k9 (fun x hx=> .inr (by simp only[List.mem_singleton] at hx;have:=HD.o.2.2.2.2.2;omega)))))
  generalize w8.setCell ⟨d5,2,none⟩ (.slice A2 k2 c2)=w9 at r9 k9 H9 ⊢
  clear r8 y f k9 H8 hk9
  have y0:=r9.cell 0
  have y1:=r9.cell 1
  have y2:=r9.cell 2
  have PA9:=H9.o.1.pk HP2.o.1 HP2.o.2.1
  have x0:=PA9.d0
  have x1:=PA9.d1
  have x2:=PA9.d2
  have f0:=H9.o.1.free 82
  have f1:=H9.o.1.free 83
  have f2:=H9.o.1.free 84
  simp only[List.getElem?_toArray,List.getElem?_cons_zero,List.getElem?_cons_succ] at y0 y1 y2
  clear PA9
  go_upto_region 9 with fail
  have r10:l5 (((w9.setCell ⟨b,82,none⟩ (.int .i64 p.conf.num)).setCell ⟨b,83,none⟩ (.int .i64 p.conf.full)).setCell ⟨b,84,none⟩ (.slice A2 k2 c2)) b 34 (q8 p2 (.slice A0 k0 c0) (.slice A1 k1 c1) (.slice A2 k2 c2) (.slice A3 n3 c3) (.slice A4 n4 c4)).toArray:=by
   have t:=bC (p:=p2) (ev:= .slice A0 k0 c0) (av:= .slice A1 k1 c1) (cv:= .slice A2 n2 c2) (vv:= .slice A3 n3 c3) (bw:= .slice A4 n4 c4) HP2.o.1 HP2.o.2.1 (.slice A2 k2 c2)
   rw[HP2.o.2.2.1] at t
   have:=((H9.o.1.set 82 (.int .i64 p.conf.num)).set 83 (.int .i64 p.conf.full)).set 84 (.slice A2 k2 c2)
   rw[t.1,t.2.1,t.2.2.1] at this
   exact this
  have k10:U1 [b] w9 (((w9.setCell ⟨b,82,none⟩ (.int .i64 p.conf.num)).setCell ⟨b,83,none⟩ (.int .i64 p.conf.full)).setCell ⟨b,84,none⟩ (.slice A2 k2 c2)):=(((U1.refl [b] w9).setCell ⟨b,82,none⟩ _ (.inl (by simp))).setCell ⟨b,83,none⟩ _ (.inl (by simp))).setCell ⟨b,84,none⟩ _ (.inl (by simp))
  have r10b:=k10.row H9.o.2.1 (by simp)
  have kk10:=H9.o.2.2.then k10 (fun x hx=> .inr (by simp only[List.mem_singleton] at hx;have:=HD.o.2.2.2.2.2;omega))
  obtain⟨w10,hw10⟩:∃ W,((w9.setCell ⟨b,82,none⟩ (.int .i64 p.conf.num)).setCell ⟨b,83,none⟩ (.int .i64 p.conf.full)).setCell ⟨b,84,none⟩ (.slice A2 k2 c2)=W:=⟨_,rfl⟩
  rw[hw10] at r10 r10b kk10 ⊢
  have H10:=U0 (U2 r10 (U2 r10b kk10))
  clear hw10 r10 k10 r10b kk10 H9 r9 y0 y1 y2 x0 x1 x2 f0 f1 f2
  have HVS:=U0 (show xA w F (.slice A3 n3 c3) p.votes from HH0.o.vs)
  obtain⟨i0',hi0',hz0,hz1,hz2⟩:=info_parts UH
  have HI:=U0 (U2 hi0' (U2 hz0 (U2 hz1 hz2)))
  clear hi0' hz0 hz1 hz2
  go_upto_region 11 with fail
  go_loopw [6,7] (fun v6 v7 wx=>∃ i:Nat,(i≤n3∧i≤10)∧v7= .int .i64 (i:Int)∧cwAt F w w10 wx p.votes i v6) (fun _ v7 _=>n3-(intOf v7).toNat)
  case atStart=>exact⟨0,⟨by omega,by omega⟩,rfl,none,0,[],rfl,by simp,rfl,qA.nil _ _ _,by simp[d9],by simp,U1.refl _ _⟩
  case round=>
   obtain⟨i,⟨hi,hi10⟩,rfl,A,c,T,rfl,hmap,hTl,hO,hH,hV,hk⟩:=hrel
   have HP:=U0 (U2 hO (U2 hH (U2 hV (U2 hk (U2 hmap hTl)))))
   have y3:=((hk.row H10.o.1 (by simp)).pk HP2.o.1 HP2.o.2.1).d3
   clear hO hH hV hk hmap hTl
   by_cases hlt:i<n3∧i<10
   ·obtain⟨hlt,hlt10⟩:=hlt
    have hlt':(i:Int)<(n3:Int):=by omega
    have hlt2:(i:Int)<10:=by omega
    have hn0:(0:Int)≤(i:Int):=by omega
    have hw1:IntKind.i64.wrap ((i:Int)+1)=(i:Int)+1:=Z8 _ (by omega) (by omega)
    obtain⟨a,ha⟩:∃ a,p.votes[i]? =some a:=⟨_,List.getElem?_eq_getElem (by have:=HN.o.2.2.2.1;omega)⟩
    obtain⟨g,o,cv,rfl,hgl,_,hcv,x0,x1,x2,x3⟩:=HVS.o.at ha
    have hkw:=H10.o.2.2.then HP.o.2.2.2.1 (by simp)
    have e:=fun z=>hkw.cell (p:=⟨g,z,none⟩) hgl (by simp)
    rw[←e] at x0 x1 x2 x3
    clear e hkw
    obtain⟨ab,an,af,al⟩:=a
    dsimp only at x0 x1 x2 x3 hcv
    obtain⟨CA,cc,cg,rfl,ic,jc, -, -⟩:=id hcv
    obtain⟨m,hm⟩:∃ m,al.length=m:=⟨_,rfl⟩
    rw[hm] at x3 hcv ic
    obtain⟨km,hkm⟩:∃ k,(al.take 8).length=k:=⟨_,rfl⟩
    have EM:=U0 (show (if 8<(m:Int) then 8 else (m:Int)).toNat=km by rw[←hkm,List.length_take,hm];split<;>omega)
    have hkmm:km≤m:=by rw[←hkm,List.length_take,hm];omega
    have hcut:=hcv.cutTo km (by omega)
    rw[←hkm,ZE,hkm] at hcut
    have HCV:=U0 (U2 hcut (U2 ha hkm))
    unfold maxLen at jc
    clear hcv ha hm hkm hcut
    go_upto_region 14 with fail
    have k12:=(U1.refl [] wr).alloc (.cells #[.int .i64 ab,.int .i64 an,.int .i64 af,.slice CA m cc] 69)
    have r12:=l5.new wr 69 #[.int .i64 ab,.int .i64 an,.int .i64 af,.slice CA m cc]
    obtain⟨wv,hwv⟩:∃ W,wr.alloc (.cells #[.int .i64 ab,.int .i64 an,.int .i64 af,.slice CA m cc] 69)=W:=⟨_,rfl⟩
    obtain⟨tv,htv⟩:∃ t,wr.heap.size=t:=⟨_,rfl⟩
    rw[hwv] at k12 r12 ⊢
    rw[htv] at r12 ⊢
    have htl:w10.heap.size≤tv:=by have:=HP.o.2.2.2.1.size;omega
    have htw:tv<wv.heap.size:=r12.lt
    have HTW:=U0 (U2 htv htl)
    clear hwv x0 x1 x2 x3 y3 htv
    have z:=r12.cell 3
    have f:=r12.free 3
    simp only[List.getElem?_toArray,List.getElem?_cons_zero,List.getElem?_cons_succ] at z
    go_upto_region 15 with fail
    simp only[EM.o]
    generalize (if 8<(m:Int) then 8 else (m:Int))=zm
    have r13:l5 (wv.setCell ⟨tv,3,none⟩ (.slice CA km cc)) tv 69 #[.int .i64 ab,.int .i64 an,.int .i64 af,.slice CA km cc]:=r12.set 3 _
    have k13:=xC wv tv 3 (.slice CA km cc)
    obtain⟨w4,hw4⟩:∃ W,wv.setCell ⟨tv,3,none⟩ (.slice CA km cc)=W:=⟨_,rfl⟩
    rw[hw4] at r13 k13 ⊢
    have kall:U1 [] w10 w4:=(HP.o.2.2.2.1.then k12 (by simp)).then k13 (fun x hx=> .inr (by simp only[List.mem_singleton] at hx;omega))
    have hO4:=((HP.o.1.keep k12 (by simp)).keep k13 (fun y hy=>by have:=HP.o.1.lt y hy;have:=HTW.o.1;simp;omega))
    have H5:=U0 (U2 kall hO4)
    have z0:w4.cell? ⟨tv,0,none⟩=some (.int .i64 ab):=r13.cell 0
    have z1:w4.cell? ⟨tv,1,none⟩=some (.int .i64 an):=r13.cell 1
    have z2:w4.cell? ⟨tv,2,none⟩=some (.int .i64 af):=r13.cell 2
    have z3:w4.cell? ⟨tv,3,none⟩=some (.slice CA km cc):=r13.cell 3
    clear hw4 r12 r13 k12 k13 kall hO4 z f
    go_wp2_with (at_builtin;refine NA _ rfl (.tmp 72) (.tmp 74) 32 rfl 69 i0' (.agg #[.int .i64 0,.int .i64 0,.int .i64 0,.slice none 0 0]) 4 48 underlying32 HI.o.1 HI.o.2.1 HI.o.2.2.1 HI.o.2.2.2 rfl (by decide) (.slice A i c) i (Z9 T) rfl (H5.o.2.keep ((U1.refl [] w4).alloc (.cells #[.int .i64 ab,.int .i64 an,.int .i64 af,.slice CA km cc] 69)) (by simp)) (some ⟨w4.heap.size,0,none⟩) w4.heap.size 1 1 [.int .i64 ab,.int .i64 an,.int .i64 af,.slice CA km cc] rfl (FP (l5.new w4 69 #[.int .i64 ab,.int .i64 an,.int .i64 af,.slice CA km cc]) 1 4 rfl) (by intro u hu;simp at hu;rcases hu with rfl|rfl|rfl|rfl<;>rfl) (by omega) (by unfold maxLen;omega) ?_;intro A6 c6 w6 hown6 hkb6 hloc6)
    have hRV:cwAt F w w10 w6 p.votes (i+1) (.slice A6 (i+1) c6):=by
     have kwa:=(U1.refl [] w4).alloc (.cells #[.int .i64 ab,.int .i64 an,.int .i64 af,.slice CA km cc] 69)
     have hsa:(w4.alloc (.cells #[.int .i64 ab,.int .i64 an,.int .i64 af,.slice CA km cc] 69)).heap.size=w4.heap.size+1:=World.size_alloc _ _
     have hH:=HP.o.2.1
     have hs0:=H5.o.1.size
     refine⟨A6,c6,T++[(⟨ab,an,af,al.take 8⟩,.slice CA km cc)],rfl,?_,?_,?_,fun y hy=> ?_,fun t ht=> ?_,(H5.o.1.then kwa (by simp)).then hkb6 (fun x hx=> .inr (hH x hx))⟩
     ·rw[List.map_append,HP.o.2.2.2.2.1,show p.votes.take (i+1)=p.votes.take i++p.votes[i]?.toList from List.take_add_one,HCV.o.2.1];simp[VT.cut8]
     ·rw[List.length_append,HP.o.2.2.2.2.2];rfl
     ·rw[DD];exact hown6
     ·rcases hloc6 y hy with h|h
      ·exact hH y h
      ·omega
     ·rcases List.mem_append.1 ht with ht|ht
      ·exact HP.o.2.2.1 t ht
      ·simp at ht
       subst ht
       exact HCV.o.1
    go_roundw
    case rel=>exact⟨i+1,⟨by omega,by omega⟩,by go_num,hRV⟩
    case measure=>simp[intOf];omega
   ·have HM:=U0 (show (p.votes.take 10).length=i∧p.votes.take i=p.votes.take 10 by
     have hx:(p.votes.take 10).length=i:=by rw[List.length_take,HN.o.2.2.2.1];omega
     exact⟨hx,by rw[←hx,ZE]⟩)
    have hcond:((i:Int)<(n3:Int)∧ ¬(i:Int)<10)∨ ¬(i:Int)<(n3:Int):=by omega
    clear hlt
    have rb:=HP.o.2.2.2.1.row H10.o.1 (by simp)
    have rz:=HP.o.2.2.2.1.row H10.o.2.1 (by simp)
    have kk:=H10.o.2.2.then HP.o.2.2.2.1 (by simp)
    have f85:=rb.free 85
    have f86:=rb.free 86
    have y4:=(rb.pk HP2.o.1 HP2.o.2.1).d4
    obtain⟨k4,hk4⟩:∃ k,(p.bytes.take 3000).length=k:=⟨_,rfl⟩
    have E4:=U0 (show (if 3000<(n4:Int) then 3000 else (n4:Int)).toNat=k4 by rw[←hk4,List.length_take,HN.o.2.2.2.2];split<;>omega)
    have hkn4:k4≤n4:=by rw[←hk4,List.length_take,HN.o.2.2.2.2];omega
    have HK4:=U0 (U2 hk4 hkn4)
    clear hk4 hkn4
    have r14:l5 ((wr.setCell ⟨b,85,none⟩ (.slice A i c)).setCell ⟨b,86,none⟩ (.slice A4 k4 c4)) b 34 (q8 p2 (.slice A0 k0 c0) (.slice A1 k1 c1) (.slice A2 k2 c2) (.slice A i c) (.slice A4 k4 c4)).toArray:=by
     have t:=bC (p:=p2) (ev:= .slice A0 k0 c0) (av:= .slice A1 k1 c1) (cv:= .slice A2 k2 c2) (vv:= .slice A3 n3 c3) (bw:= .slice A4 n4 c4) HP2.o.1 HP2.o.2.1 (.slice A i c)
     have t2:=bC (p:=p2) (ev:= .slice A0 k0 c0) (av:= .slice A1 k1 c1) (cv:= .slice A2 k2 c2) (vv:= .slice A i c) (bw:= .slice A4 n4 c4) HP2.o.1 HP2.o.2.1 (.slice A4 k4 c4)
     have:=(rb.set 85 (.slice A i c)).set 86 (.slice A4 k4 c4)
     rw[t.2.2.2.1,t2.2.2.2.2] at this
     exact this
    have k14:U1 [b] wr ((wr.setCell ⟨b,85,none⟩ (.slice A i c)).setCell ⟨b,86,none⟩ (.slice A4 k4 c4)):=((U1.refl [b] wr).setCell ⟨b,85,none⟩ _ (.inl (by simp))).setCell ⟨b,86,none⟩ _ (.inl (by simp))
    have H14:=U0 (U2 r14 (U2 (k14.row rz (by simp)) (U2 k14 (kk.then k14 (fun x hx=> .inr (by simp only[List.mem_singleton] at hx;have:=HD.o.2.2.2.2.2;omega))))))
    have y4':(wr.setCell ⟨b,85,none⟩ (.slice A i c)).cell? ⟨b,86,none⟩=some (.slice A4 n4 c4):=(World.cell?_setCell_other wr _ _ _ (by intro e;injection e with _ e2 _;omega)).trans y4
    clear r14 k14 rb rz kk y4
    rcases hcond with⟨hc1,hc2⟩|hc1
    all_goals (
     go_upto_region 18 with fail
     simp only[E4.o]
     generalize (if 3000<(n4:Int) then 3000 else (n4:Int))=z4
     obtain⟨w14,hw14⟩:∃ W,(wr.setCell ⟨b,85,none⟩ (.slice A i c)).setCell ⟨b,86,none⟩ (.slice A4 k4 c4)=W:=⟨_,rfl⟩
     rw[hw14] at H14 ⊢
     obtain⟨Y,hY⟩:∃ Y,q8 p2 (.slice A0 k0 c0) (.slice A1 k1 c1) (.slice A2 k2 c2) (.slice A i c) (.slice A4 k4 c4)=Y:=⟨_,rfl⟩
     have HYL:=U0 (U2 (show Y.length=87 by rw[←hY];exact G8 HP2.o.1 HP2.o.2.1) (U2 (show ∀ v∈Y,v.oneCell'=true by rw[←hY];exact yA rfl rfl rfl rfl rfl) hY))
     rw[hY] at H14
     have HJ:=U0 (show (prog.info? 34).map (·.size)=some Y.length by rw[HYL.o.1];exact I5)
     have rr:=H14.o.2.1.setL (vs:=Y) (o:=0)
     rw[F7 (by rw[U4,HYL.o.1,HZ.o.2.1])] at rr
     have kl:U1 [b+1] w14 (w14.setCells (b+1) 0 Y):=(U1.refl _ _).setL (.inl (by simp))
     have HR:=U0 (U2 rr (U2 (H14.o.2.1.there (o:=0) (n:=Y.toArray.size) (by simp only[U4];rw[HYL.o.1,HZ.o.2.1];decide)) (U2 (H14.o.2.2.2.then kl (fun x hx=> .inr (by simp only[List.mem_singleton] at hx;have:=HD.o.2.2.2.2.2;omega))) (H14.o.2.2.1.more (T:=[b,b+1]) (by simp)))))
     have HKL:=U0 kl
     clear hw14 hY rr kl
     go_wp2_with (first
      |(refine wpList_load_mid rfl 34 (.tmp 1) rfl b 0 rfl Y _ H14.o.1.rangeAll underlying34 rfl HJ.o ?_)
      |(refine wpList_store_mid rfl 34 (.tmp 2) (.tmp 86) rfl (b+1) 0 Y.toArray rfl rfl HR.o.2.1 (by rw[U4];exact HJ.o) (all_oneCell_toArray HYL.o.2.1) ?_))
     refine bodyPost_ret (results_cell_row rfl _ _ (b+1) 34 _ (0,0) _ rfl HR.o.1 underlying34 rfl (by rw[U4];exact HJ.o)) rfl ?_
     have KF:=HR.o.2.2.1
     have hsz:∀ y∈F,y∈Z6 (.slice A i c)++F:=fun y hy=>List.mem_append.2 (.inr hy)
     have hx0:=HH0.o.re.cutTo k0 (by rw[HN.o.1];exact HK0.o.2)
     have hx1:=HH0.o.ae.cutTo k1 (by rw[HN.o.2.1];exact HK1.o.2)
     have hx2:=HH0.o.cc.cutTo k2 (by rw[HN.o.2.2.1];exact HK2.o.2)
     have hx4:=HH0.o.bs.cutTo k4 (by rw[HN.o.2.2.2.2];exact HK4.o.2)
     rw[←HK0.o.1,ZE,HK0.o.1] at hx0
     rw[←HK1.o.1,ZE,HK1.o.1] at hx1
     rw[←HK2.o.1,ZE,HK2.o.1] at hx2
     rw[←HK4.o.1,ZE,HK4.o.1] at hx4
     have hnb:∀ y∈Z6 (.slice A i c),y∉[b,b+1]:=fun y hy=>by
      have h1:=HP.o.2.1 y hy
      have h2:=H10.o.1.lt
      have h3:=H10.o.2.1.lt
      simp;omega
     have hO:=(HP.o.1.keep (H14.o.2.2.1) (fun y hy hm=>hnb y hy (by simp only[List.mem_singleton] at hm;simp[hm]))).keep HKL.o (fun y hy hm=>hnb y hy (by simp only[List.mem_singleton] at hm;simp[hm]))
     refine⟨Y,Z6 (.slice A i c)++F,rfl,⟨.slice A0 k0 c0,.slice A1 k1 c1,.slice A2 k2 c2,.slice A i c,.slice A4 k4 c4,by rw[HP2.o.2.2.2.2.2];exact HYL.o.2.2.symm,HB.o.1,HB.o.2.1,(hx0.keep KF (by simp)).more hsz,(hx1.keep KF (by simp)).more hsz,(hx2.keep KF (by simp)).more hsz,?_,(hx4.keep KF (by simp)).more hsz⟩,fun y hy=> ?_,KF⟩
     ·obtain⟨A9,c9,e9,h91,h92,h93,h94⟩:=hO.form
      injection e9 with e9a e9b e9c
      subst e9a e9c
      obtain⟨g9,hg9⟩:=EA (.slice A i c)
      have hal:p.cutW.votes.length=i:=by show ((p.votes.take 10).map VT.cut8).length=i;rw[List.length_map,HM.o.1]
      refine⟨A,c,g9,T,by rw[hal],by rw[hal];exact h91,h92,by rw[HP.o.2.2.2.2.1,HM.o.2];rfl,by rw[hal];exact h94 g9 hg9,fun t ht=>((HP.o.2.2.1 t ht).keep KF (by simp)).more hsz,fun hne=> ?_⟩
      obtain⟨o,hA,_⟩:=(h94 g9 hg9).2 (by have h0:0<p.cutW.votes.length:=List.length_pos_iff.2 hne;omega)
      rw[hA];simp[V8]
     ·rcases List.mem_append.1 hy with hy|hy
      ·exact .inr ⟨by have h1:=HP.o.2.1 y hy;have h2:=H10.o.2.2.size;omega,Nat.lt_of_lt_of_le (HP.o.1.lt y hy) (Nat.le_trans H14.o.2.2.1.size HKL.o.size)⟩
      ·exact .inl hy)
def vM (G:List Nat) (b:Nat) (X:List Value) (w1 wx:World):Prop:=l5 wx b 34 X.toArray∧U1 G w1 wx∧sG w1 wx
theorem vM.set {G:List Nat} {b:Nat} {X:List Value} {w1 wx:World} (h:vM G b X w1 wx) (hb:b∉G) {g j:Nat} (hg:g∈G) {k:IntKind} {z:Int} (hz:wx.cell? ⟨g,j,none⟩=some (.int k z)) (u:Int):vM G b X w1 (wx.setCell ⟨g,j,none⟩ (.int k u)):=by
 have kk:U1 G wx (wx.setCell ⟨g,j,none⟩ (.int k u)):=(U1.refl G wx).setCell _ _ (.inl hg)
 exact⟨kk.row h.1 hb,h.2.1.then kk (fun x hx=> .inl hx),h.2.2.set hz u⟩
theorem vM.drew {G:List Nat} {b:Nat} {X:List Value} {w1 wx:World} (h:vM G b X w1 wx):vM G b X w1 wx.drew:=⟨h.1,h.2.1.drew,h.2.2.drew⟩
theorem vM.free {G:List Nat} {b:Nat} {X:List Value} {w0 w1 wx:World} (h:vM G b X w1 wx) (hk:U1 [] w0 w1) (hG:∀ y∈G,w0.heap.size≤y) {g:Nat} (hg:g∈G) (i:Nat):wx.frozen? ⟨g,i,none⟩=false:=
 (hk.then h.2.1 (fun x hx=> .inr (hG x hx))).free (hG g hg) i
theorem bS (G:List Nat) (p:PK) (X:List Value) (w0 w:World) (h:iB w G (p,X)) (hk:U1 [] w0 w) (hG:I9 w0 w G):
 Calls prog 25 #[.agg X.toArray] w fun e w'=>e= .returned (.tuple #[])∧U1 G w w':=by
 obtain⟨ev,av,cv,vv,bw,hX,hv⟩:=h
 dsimp only at hX hv
 have hrn:=hv.rn
 have han:=hv.an
 have k1:=(U1.refl [] w).alloc (.cells X.toArray 34)
 have r1:=l5.new w 34 X.toArray
 obtain⟨w1,hw1⟩:∃ w1,w.alloc (.cells X.toArray 34)=w1:=⟨_,rfl⟩
 rw[hw1] at k1 r1
 obtain⟨b,hb⟩:∃ b,w.heap.size=b:=⟨_,rfl⟩
 rw[hb] at r1
 have hbG:b∉G:=fun hm=>by have:=(hG b hm).2;omega
 have hv1:=hv.over k1
 have HV:=U0 hv1
 obtain⟨A0,c0,g0,rfl,i0,j0, -, -⟩:=id hv1.re
 obtain⟨A1,c1,g1,rfl,i1,j1, -, -⟩:=id hv1.ae
 obtain⟨A2,c2,g2,rfl,i2,j2, -, -⟩:=id hv1.cc
 obtain⟨A3,c3,g3,T3,rfl,i3,j3,hTm,hrd,hTi,hTg⟩:=id hv1.vs
 obtain⟨A4,c4,g4,rfl,i4,j4, -, -⟩:=id hv1.bs
 have t0:=hv1.re.intsAt
 have t1:=hv1.ae.intsAt
 have t2:=hv1.cc.intsAt
 have t4:=hv1.bs.intsAt
 obtain⟨n0,hn0⟩:∃ n,p.req.env.length=n:=⟨_,rfl⟩
 obtain⟨n1,hn1⟩:∃ n,p.ans.env.length=n:=⟨_,rfl⟩
 obtain⟨n2,hn2⟩:∃ n,p.conf.chain.length=n:=⟨_,rfl⟩
 obtain⟨n3,hn3⟩:∃ n,p.votes.length=n:=⟨_,rfl⟩
 obtain⟨n4,hn4⟩:∃ n,p.bytes.length=n:=⟨_,rfl⟩
 have hp:=r1
 rw[hX] at hp
 have PA:=hp.pk hrn han
 have e0:X.toArray[43]? =some (.slice A0 n0 c0):=by rw[hX,←hn0];exact oU hrn
 have e1:X.toArray[81]? =some (.slice A1 n1 c1):=by rw[←r1.cell,←hn1];exact PA.an 37 _ (by have:=VC (ev:= .slice A1 p.ans.env.length c1) han;simpa using this)
 have e2:X.toArray[84]? =some (.slice A2 n2 c2):=by rw[←r1.cell,←hn2];exact PA.d2
 have e3:X.toArray[85]? =some (.slice A3 n3 c3):=by rw[←r1.cell,←hn3];exact PA.d3
 have e4:X.toArray[86]? =some (.slice A4 n4 c4):=by rw[←r1.cell,←hn4];exact PA.d4
 rw[hn0] at t0 i0
 rw[hn1] at t1 i1
 rw[hn2] at t2 i2
 rw[hn3] at i3
 rw[hn4] at t4 i4
 have HT0:=U0 t0
 have HT1:=U0 t1
 have HT2:=U0 t2
 have HT4:=U0 t4
 have hvs:=hv1.vs
 rw[hn3] at hvs
 have HT3:=U0 (U2 hvs hn3)
 have HE:=U0 (U2 e0 (U2 e1 (U2 e2 (U2 e3 e4))))
 have hk1:U1 [] w0 w1:=hk.then k1 (by simp)
 have HB:=U0 (U2 hbG (U2 hk1 (U2 (fun y hy=>(hG y hy).1:∀ y∈G,w0.heap.size≤y) k1)))
 have HS:V5 (vM G b X w1 w1):=U0 ⟨r1,U1.refl _ _,sG.refl _⟩
 have HW:=U0 (U2 hw1 hb)
 unfold maxLen at j0 j1 j2 j3 j4
 clear hX hv hrn han k1 r1 hw1 hb hbG hv1 HV hTm hrd hTi hTg t0 t1 t2 t4 hn0 hn1 hn2 hn3 hn4 hp PA e0 e1 e2 e3 e4 hvs hk1 hk hG
 go_enter func25,ntmps25
 go_upto_region 2 with (with_reducible refine Z4 _ _ rfl 34 (.tmp 0) rfl _ rfl HW.o.1 ?_;try simp only[HW.o.2])
 go_loopw [2] (fun v wx=>∃ i:Nat,i≤n0∧v= .int .i64 (i:Int)∧V5 (vM G b X w1 wx)) (fun v _=>n0-(intOf v).toNat)
 case atStart=>exact⟨0,Nat.zero_le _,rfl,HS⟩
 case round=>
  obtain⟨q0,hil,rfl,H1⟩:=hrel
  have a0:wr.cell? ⟨b,43,none⟩=some (.slice A0 n0 c0):=(H1.o.1.cell 43).trans HE.o.1
  by_cases hlt:q0<n0
  ·obtain⟨g,o,rfl,hg1,hg2⟩:=HT0.o (by omega)
   obtain⟨z0,hz0⟩:=hg2 q0 hlt
   obtain⟨z,hz⟩:=H1.o.2.2.1 _ _ _ hz0
   have hfr:=H1.o.free HB.o.2.1 HB.o.2.2.1 hg1 (o+q0)
   have hi2:(q0:Int)<(n0:Int):=by omega
   have hi0:(0:Int)≤(q0:Int):=by omega
   have hwi:IntKind.i64.wrap ((q0:Int)+1)=(q0:Int)+1:=by rw[IntKind.wrap_i64];omega
   have HN:=U0 (H1.o.set HB.o.1 hg1 hz (bits BinOp.xor IntKind.u8 z 90))
   clear hg1 hg2 hz0
   go_upto_region 4 with fail
   go_region
   have HM:V5 (vM G b X w1 (wr.setCell ⟨g,o+q0,none⟩ (.int .u8 (bits BinOp.xor IntKind.u8 z 90))).drew):=U0 HN.o.drew
   generalize (wr.setCell ⟨g,o+q0,none⟩ (.int .u8 (bits BinOp.xor IntKind.u8 z 90))).drew=wx at HM ⊢
   clear HN hz hfr a0
   go_wp2_with fail
   go_roundw
   case rel=>exact⟨q0+1,by omega,by go_num,HM⟩
   case measure=>simp only[intOf];omega
  ·have hie: ¬(q0:Int)<(n0:Int):=by omega
   go_upto_region 6 with fail
   clear a0 hlt hie hil HS
   go_loopw [3] (fun v wx=>∃ i:Nat,i≤n1∧v= .int .i64 (i:Int)∧V5 (vM G b X w1 wx)) (fun v _=>n1-(intOf v).toNat)
   case atStart=>exact⟨0,Nat.zero_le _,rfl,H1⟩
   case round=>
    obtain⟨q1,hil,rfl,H2⟩:=hrel
    have a1:wr.cell? ⟨b,81,none⟩=some (.slice A1 n1 c1):=(H2.o.1.cell 81).trans HE.o.2.1
    by_cases hlt:q1<n1
    ·obtain⟨g,o,rfl,hg1,hg2⟩:=HT1.o (by omega)
     obtain⟨z0,hz0⟩:=hg2 q1 hlt
     obtain⟨z,hz⟩:=H2.o.2.2.1 _ _ _ hz0
     have hfr:=H2.o.free HB.o.2.1 HB.o.2.2.1 hg1 (o+q1)
     have hi2:(q1:Int)<(n1:Int):=by omega
     have hi0:(0:Int)≤(q1:Int):=by omega
     have hwi:IntKind.i64.wrap ((q1:Int)+1)=(q1:Int)+1:=by rw[IntKind.wrap_i64];omega
     have HN:=U0 (H2.o.set HB.o.1 hg1 hz (bits BinOp.xor IntKind.u8 z 90))
     clear hg1 hg2 hz0
     go_upto_region 8 with fail
     go_region
     have HM:V5 (vM G b X w1 (wr.setCell ⟨g,o+q1,none⟩ (.int .u8 (bits BinOp.xor IntKind.u8 z 90))).drew):=U0 HN.o.drew
     generalize (wr.setCell ⟨g,o+q1,none⟩ (.int .u8 (bits BinOp.xor IntKind.u8 z 90))).drew=wx at HM ⊢
     clear HN hz hfr a1
     go_wp2_with fail
     go_roundw
     case rel=>exact⟨q1+1,by omega,by go_num,HM⟩
     case measure=>simp only[intOf];omega
    ·have hie: ¬(q1:Int)<(n1:Int):=by omega
     go_upto_region 10 with fail
     clear a1 hlt hie hil H1
     go_loopw [4] (fun v wx=>∃ i:Nat,i≤n4∧v= .int .i64 (i:Int)∧V5 (vM G b X w1 wx)) (fun v _=>n4-(intOf v).toNat)
     case atStart=>exact⟨0,Nat.zero_le _,rfl,H2⟩
     case round=>
      obtain⟨q2,hil,rfl,H3⟩:=hrel
      have a2:wr.cell? ⟨b,86,none⟩=some (.slice A4 n4 c4):=(H3.o.1.cell 86).trans HE.o.2.2.2.2
      by_cases hlt:q2<n4
      ·obtain⟨g,o,rfl,hg1,hg2⟩:=HT4.o (by omega)
       obtain⟨z0,hz0⟩:=hg2 q2 hlt
       obtain⟨z,hz⟩:=H3.o.2.2.1 _ _ _ hz0
       have hfr:=H3.o.free HB.o.2.1 HB.o.2.2.1 hg1 (o+q2)
       have hi2:(q2:Int)<(n4:Int):=by omega
       have hi0:(0:Int)≤(q2:Int):=by omega
       have hwi:IntKind.i64.wrap ((q2:Int)+1)=(q2:Int)+1:=by rw[IntKind.wrap_i64];omega
       have HN:=U0 (H3.o.set HB.o.1 hg1 hz (bits BinOp.xor IntKind.u8 z 90))
       clear hg1 hg2 hz0
       go_upto_region 12 with fail
       go_region
       have HM:V5 (vM G b X w1 (wr.setCell ⟨g,o+q2,none⟩ (.int .u8 (bits BinOp.xor IntKind.u8 z 90))).drew):=U0 HN.o.drew
       generalize (wr.setCell ⟨g,o+q2,none⟩ (.int .u8 (bits BinOp.xor IntKind.u8 z 90))).drew=wx at HM ⊢
       clear HN hz hfr a2
       go_wp2_with fail
       go_roundw
       case rel=>exact⟨q2+1,by omega,by go_num,HM⟩
       case measure=>simp only[intOf];omega
      ·have hie: ¬(q2:Int)<(n4:Int):=by omega
       go_upto_region 14 with fail
       clear a2 hlt hie hil H2
       go_loopw [5] (fun v wx=>∃ i:Nat,i≤n2∧v= .int .i64 (i:Int)∧V5 (vM G b X w1 wx)) (fun v _=>n2-(intOf v).toNat)
       case atStart=>exact⟨0,Nat.zero_le _,rfl,H3⟩
       case round=>
        obtain⟨q3,hil,rfl,H4⟩:=hrel
        have a3:wr.cell? ⟨b,84,none⟩=some (.slice A2 n2 c2):=(H4.o.1.cell 84).trans HE.o.2.2.1
        by_cases hlt:q3<n2
        ·obtain⟨g,o,rfl,hg1,hg2⟩:=HT2.o (by omega)
         obtain⟨z0,hz0⟩:=hg2 q3 hlt
         obtain⟨z,hz⟩:=H4.o.2.2.1 _ _ _ hz0
         have hfr:=H4.o.free HB.o.2.1 HB.o.2.2.1 hg1 (o+q3)
         have hi2:(q3:Int)<(n2:Int):=by omega
         have hi0:(0:Int)≤(q3:Int):=by omega
         have hwi:IntKind.i64.wrap ((q3:Int)+1)=(q3:Int)+1:=by rw[IntKind.wrap_i64];omega
         have HN:=U0 (H4.o.set HB.o.1 hg1 hz (-9))
         clear hg1 hg2 hz0
         have HM:=HN
         clear HN
         go_wp2_with fail
         go_roundw
         case rel=>exact⟨q3+1,by omega,by go_num,HM⟩
         case measure=>simp only[intOf];omega
        ·have hie: ¬(q3:Int)<(n2:Int):=by omega
         go_upto_region 18 with fail
         clear a3 hlt hie hil H3
         go_loopw [6] (fun v wx=>∃ i:Nat,i≤n3∧v= .int .i64 (i:Int)∧V5 (vM G b X w1 wx)) (fun v _=>n3-(intOf v).toNat)
         case atStart=>exact⟨0,Nat.zero_le _,rfl,H4⟩
         case round=>
          obtain⟨q5,hil,rfl,H5⟩:=hrel
          have a5:wr.cell? ⟨b,85,none⟩=some (.slice A3 n3 c3):=(H5.o.1.cell 85).trans HE.o.2.2.2.1
          by_cases hlt:q5<n3
          ·obtain⟨a,ha⟩:∃ a,p.votes[q5]? =some a:=⟨_,List.getElem?_eq_getElem (by have:=HT3.o.2;omega)⟩
           obtain⟨g,o,cv,rfl,hgl,hgG,hcv,x0,x1,x2,x3⟩:=HT3.o.1.at ha
           obtain⟨CA,cc,cg,rfl,ic,jc, -, -⟩:=id hcv
           obtain⟨m,hm⟩:∃ m,a.conf.chain.length=m:=⟨_,rfl⟩
           rw[hm] at x3 hcv ic
           unfold maxLen at jc
           have HTV:=U0 hcv.intsAt
           have HX3:=U0 x3
           have hi2:(q5:Int)<(n3:Int):=by omega
           have hi0:(0:Int)≤(q5:Int):=by omega
           have hwi:IntKind.i64.wrap ((q5:Int)+1)=(q5:Int)+1:=by rw[IntKind.wrap_i64];omega
           clear x0 x1 x2 x3 hcv ha hm hgl hgG
           go_upto_region 21 with fail
           go_loopw [7] (fun v wx=>∃ i:Nat,i≤m∧v= .int .i64 (i:Int)∧V5 (vM G b X w1 wx)) (fun v _=>m-(intOf v).toNat)
           case atStart=>exact⟨0,Nat.zero_le _,rfl,H5⟩
           case round=>
            obtain⟨q6,hil6,rfl,H6⟩:=hrel
            have a6:wr.cell? ⟨b,85,none⟩=some (.slice (some ⟨g,o,none⟩) n3 c3):=(H6.o.1.cell 85).trans HE.o.2.2.2.1
            have b6:=H6.o.2.2.2 _ _ HX3.o (by intro k z e;cases e)
            by_cases hlt6:q6<m
            ·obtain⟨g2,o2,rfl,hg1,hg2⟩:=HTV.o (by omega)
             obtain⟨z0,hz0⟩:=hg2 q6 hlt6
             obtain⟨z,hz⟩:=H6.o.2.2.1 _ _ _ hz0
             have hfr:=H6.o.free HB.o.2.1 HB.o.2.2.1 hg1 (o2+q6)
             have hj2:(q6:Int)<(m:Int):=by omega
             have hj0:(0:Int)≤(q6:Int):=by omega
             have hwj:IntKind.i64.wrap ((q6:Int)+1)=(q6:Int)+1:=by rw[IntKind.wrap_i64];omega
             have HM:=U0 (H6.o.set HB.o.1 hg1 hz (-9))
             clear hg1 hg2 hz0
             go_wp2_with fail
             go_roundw
             case rel=>exact⟨q6+1,by omega,by go_num,HM⟩
             case measure=>simp only[intOf];omega
            ·have hje: ¬(q6:Int)<(m:Int):=by omega
             clear hlt6
             go_wp2_with fail
             go_roundw
             case rel=>exact⟨q5+1,by omega,by go_num,H6⟩
             case measure=>simp only[intOf];omega
          ·have hie: ¬(q5:Int)<(n3:Int):=by omega
           have HF:=U0 (show U1 G w wr from (HB.o.2.2.2.more (by simp)).then H5.o.2.1 (fun x hx=> .inl hx))
           go_wp2_with fail
           go_end0
           exact⟨rfl,HF.o⟩
end Go.Proofs.YthfdkonhjpdflaaGreatDoor
