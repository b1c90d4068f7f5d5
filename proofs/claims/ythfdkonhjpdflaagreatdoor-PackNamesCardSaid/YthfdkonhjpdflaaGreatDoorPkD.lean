import Derived.Test.YthfdkonhjpdflaaGreatDoorPk15
import Derived.Test.YthfdkonhjpdflaaGreatDoorLow2
namespace Go.Proofs.YthfdkonhjpdflaaGreatDoor
open Go.RowKit Go.Proofs.Tryz
set_option linter.unusedVariables false
set_option maxRecDepth 100000
set_option maxHeartbeats 16000000
theorem MB.seenB {w:World} {A:Option Addr} {g:Nat} {l:List UInt8} (h:MB w A g l.length 1 (l.map bv)):QA w A g l:=fun hl=>by
 obtain⟨o,e1,e2,e3⟩:=h.2 (List.length_pos_iff.2 hl)
 exact⟨o,e1,e2,fun j b hb=>e3 j (bv b) (by rw[List.getElem?_map,hb];rfl)⟩
def I9 (w w':World) (G:List Nat):Prop:=∀ y∈G,w.heap.size≤y∧y<w'.heap.size
theorem TH:(prog.info? 5).map (fun i=>(i.zero,i.size,i.bytes))=some (some (.int .u8 0),1,1):=by kernel_rfl
theorem zN:(prog.info? 3).map (fun i=>(i.zero,i.size,i.bytes))=some (some (.int .i64 0),1,8):=by kernel_rfl
theorem xG (F:List Nat) (v:Value) (l:List UInt8) (w:World) (h:G7 w F v l) (hb:l.length≤140737488355328):
 Calls prog 89 #[v] w fun e w'=>∃ u G,e= .returned u∧G7 w' G u l∧I9 w w' G∧U1 [] w w':=by
 obtain⟨A,c,g,rfl,h2,h3,h4,h5⟩:=h
 obtain⟨i0,hi0,hz0,hz1,hz2⟩:=info_parts TH
 have H:=U0 (U2 (QA.reads h4) (qA.nil w 5 1))
 clear h4 h5 h3
 go_enter func89,ntmps89
 go_wp2_with (at_builtin;refine NA _ rfl _ _ 24 rfl 5 i0 (.int .u8 0) 1 1 underlying24 hi0 hz0 hz1 hz2 rfl (by decide) (.slice none 0 0) 0 [] rfl H.o.2 A g l.length c _ (by simp[Act.eval]) H.o.1 (by intro u hu;simp at hu;obtain⟨b,_,rfl⟩:=hu;rfl) (by omega) (by unfold maxLen;omega) ?_;intro A2 c2 w2 hown2 hkb2 hloc2)
 go_ret
 simp only[Nat.zero_add,List.nil_append] at hown2 hloc2 ⊢
 obtain⟨A3,c3,e3,h31,h32,h33,h34⟩:=hown2.form
 injection e3 with e3a e3b e3c
 subst e3a e3c
 obtain⟨g3,hg3⟩:=EA (.slice A2 l.length c2)
 refine⟨_,Z6 (.slice A2 l.length c2),rfl,⟨A2,c2,g3,rfl,h31,h32,MB.seenB (h34 g3 hg3),fun hne=> ?_⟩,fun y hy=>⟨?_,h33 y hy⟩,hkb2.more (by simp[d9])⟩
 ·obtain⟨o,hA,_⟩:=(h34 g3 hg3).2 (List.length_pos_iff.2 hne)
  rw[hA];simp[V8]
 ·rcases hloc2 y hy with h|h
  ·simp[d9] at h
  ·exact h
theorem VM (F:List Nat) (v:Value) (l:List Int) (w:World) (h:F8 w F v l) (hb:l.length≤17592186044416):
 Calls prog 138 #[v] w fun e w'=>∃ u G,e= .returned u∧F8 w' G u l∧I9 w w' G∧U1 [] w w':=by
 obtain⟨A,c,g,rfl,h2,h3,h4,h5⟩:=h
 obtain⟨i0,hi0,hz0,hz1,hz2⟩:=info_parts zN
 have H:=U0 (U2 h4 (qA.nil w 3 1))
 clear h4 h5 h3
 go_enter func138,ntmps138
 go_wp2_with (at_builtin;refine NA _ rfl _ _ 29 rfl 3 i0 (.int .i64 0) 1 8 underlying29 hi0 hz0 hz1 hz2 rfl (by decide) (.slice none 0 0) 0 [] rfl H.o.2 A g l.length c _ (by simp[Act.eval]) H.o.1 (by intro u hu;simp at hu;obtain⟨b,_,rfl⟩:=hu;rfl) (by omega) (by unfold maxLen;omega) ?_;intro A2 c2 w2 hown2 hkb2 hloc2)
 go_ret
 simp only[Nat.zero_add,List.nil_append] at hown2 hloc2 ⊢
 obtain⟨A3,c3,e3,h31,h32,h33,h34⟩:=hown2.form
 injection e3 with e3a e3b e3c
 subst e3a e3c
 obtain⟨g3,hg3⟩:=EA (.slice A2 l.length c2)
 refine⟨_,Z6 (.slice A2 l.length c2),rfl,⟨A2,c2,g3,rfl,h31,h32,h34 g3 hg3,fun hne=> ?_⟩,fun y hy=>⟨?_,h33 y hy⟩,hkb2.more (by simp[d9])⟩
 ·obtain⟨o,hA,_⟩:=(h34 g3 hg3).2 (List.length_pos_iff.2 hne)
  rw[hA];simp[V8]
 ·rcases hloc2 y hy with h|h
  ·simp[d9] at h
  ·exact h
theorem MH (F:List Nat) (c:CF) (cv:Value) (w:World) (h:F8 w F cv c.chain) (hb:c.chain.length≤17592186044416):
 Calls prog 90 #[.agg (bA c cv).toArray] w fun e w'=>∃ u G,e= .returned (.agg (bA c u).toArray)∧F8 w' G u c.chain∧I9 w w' G∧U1 [] w w':=by
 have hr0:=l5.new w 31 #[.int .i64 c.num,.int .i64 c.full,cv]
 have hr1:=l5.new (w.alloc (.cells #[.int .i64 c.num,.int .i64 c.full,cv] 31)) 31 #[.int .i64 0,.int .i64 0,.slice none 0 0]
 have hk0:=(U1.refl [] w).alloc (.cells #[.int .i64 c.num,.int .i64 c.full,cv] 31)
 have hk1:=(U1.refl [] (w.alloc (.cells #[.int .i64 c.num,.int .i64 c.full,cv] 31))).alloc (.cells #[.int .i64 0,.int .i64 0,.slice none 0 0] 31)
 have hr0':=hk1.row hr0 (by simp)
 have h':=(h.keep hk0 (by simp)).keep hk1 (by simp)
 have hk:=hk0.then hk1 (by simp)
 rw[World.size_alloc] at hr1
 obtain⟨A,cc,g,rfl,h2⟩:=h
 unfold bA
 generalize hW:(w.alloc (.cells #[.int .i64 c.num,.int .i64 c.full,.slice A c.chain.length cc] 31)).alloc (.cells #[.int .i64 0,.int .i64 0,.slice none 0 0] 31)=w1 at*
 have c2:w1.cell? ⟨w.heap.size,2,none⟩=some (.slice A c.chain.length cc):=hr0'.cell 2
 have H:=U0 (U2 hr0' (U2 hr1 (U2 h' hk)))
 have HW:=U0 hW
 clear hr0 hr1 hk0 hk1 hr0' h' hk hW h2
 go_enter func90,ntmps90
 go_upto_region 1 with fail
 rw[HW.o]
 go_wp2_with fail
 refine (VM F _ _ _ H.o.2.2.1 hb).mono ?_;rintro e w2 ⟨v,G,rfl,⟨A2,n2,g2,rfl,i2,i3,i5,i6⟩,hG,hk2⟩
 have r0:=hk2.row H.o.1 (by simp)
 have r1:=hk2.row H.o.2.1 (by simp)
 have a0:w2.cell? ⟨w.heap.size,0,none⟩=some (.int .i64 c.num):=r0.cell 0
 have a1:w2.cell? ⟨w.heap.size,1,none⟩=some (.int .i64 c.full):=r0.cell 1
 have a2:w2.cell? ⟨w.heap.size,2,none⟩=some (.slice A c.chain.length cc):=r0.cell 2
 have f2:w2.frozen? ⟨w.heap.size,2,none⟩=false:=r0.free 2
 have b0:w2.cell? ⟨w.heap.size+1,0,none⟩=some (.int .i64 0):=r1.cell 0
 have b1:w2.cell? ⟨w.heap.size+1,1,none⟩=some (.int .i64 0):=r1.cell 1
 have b2:w2.cell? ⟨w.heap.size+1,2,none⟩=some (.slice none 0 0):=r1.cell 2
 have e0:w2.frozen? ⟨w.heap.size+1,0,none⟩=false:=r1.free 0
 have e1:w2.frozen? ⟨w.heap.size+1,1,none⟩=false:=r1.free 1
 have e2:w2.frozen? ⟨w.heap.size+1,2,none⟩=false:=r1.free 2
 have hgg:=H.o.1.lt
 have H2:=U0 (U2 hG (U2 hk2 (U2 i2 (U2 i3 (U2 i5 i6)))))
 clear r0 r1 hG hk2 i2 i3 i5 i6 c2 hgg
 go_wp2
 refine bodyPost_ret (v:= .agg #[.int .i64 c.num,.int .i64 c.full,.slice A2 c.chain.length n2]) (by simp[results,Tryz.results90,go_sem, *]) rfl ?_
 obtain⟨hG,hk2,i2,i3,i5,i6⟩:=H2.o
 have hs1:=H.o.2.1.lt
 have k4:=((((U1.refl [w.heap.size,w.heap.size+1] w2).setCell ⟨w.heap.size,2,none⟩ (.slice A2 c.chain.length n2) (by simp)).setCell ⟨w.heap.size+1,0,none⟩ (.int .i64 c.num) (by simp)).setCell ⟨w.heap.size+1,1,none⟩ (.int .i64 c.full) (by simp)).setCell ⟨w.heap.size+1,2,none⟩ (.slice A2 c.chain.length n2) (by simp)
 have hh:F8 w2 G (.slice A2 c.chain.length n2) c.chain:=⟨A2,n2,g2,rfl,i2,i3,i5,i6⟩
 have hkk:=(H.o.2.2.2.then hk2 (by simp)).then k4 (by simp)
 refine⟨_,G,rfl,hh.keep k4 (fun y hy=> ?_),fun y hy=>⟨?_,Nat.lt_of_lt_of_le (hG y hy).2 k4.size⟩,hkk⟩
 ·have:=(hG y hy).1;simp;omega
 ·have:=(hG y hy).1;omega
theorem JJ:∀ T:List (VT × Value),(∀ t∈T,t.2.oneCell'=true)→∀ u∈Z9 T,u.oneCell'=true
 |[],_,u,hu=>by simp[Z9] at hu
 |t::r,h,u,hu=>by
  simp only[Z9,List.mem_append,oD,bA,List.mem_cons,List.not_mem_nil,or_false] at hu
  rcases hu with (rfl|rfl|rfl|rfl)|hu
  ·rfl
  ·rfl
  ·rfl
  ·exact h t (by simp)
  ·exact JJ r (fun t ht=>h t (by simp[ht])) u hu
theorem jQ:(prog.info? 69).map (fun i=>(i.zero,i.size,i.bytes))=some (some (.agg #[.int .i64 0,.int .i64 0,.int .i64 0,.slice none 0 0]),4,48):=by kernel_rfl
def JE (w:World) (A:Option Addr) (n c:Nat) (T:List (VT × Value)):Prop:=qA w 69 4 (.slice A n c) n (Z9 T)
theorem WM (A:Option Addr) (g c:Nat) (l:List VT) (T:List (VT × Value)) (w:World) (h2:l.length≤c) (h5:MB w A g l.length 4 (Z9 T)) (h6:∀ t∈T,t.2.oneCell'=true) (hb:l.length≤2932031007402):
 Calls prog 91 #[.slice A l.length c] w fun e w'=>∃ A c,e= .returned (.slice A l.length c)∧JE w' A l.length c T∧(∀ y∈Z6 (.slice A l.length c),w.heap.size≤y)∧U1 [] w w':=by
 obtain⟨i0,hi0,hz0,hz1,hz2⟩:=info_parts jQ
 have H:=U0 (U2 h5 (U2 (qA.nil w 69 4) (JJ T h6)))
 clear h5 h6
 go_enter func91,ntmps91
 go_wp2_with (at_builtin;refine NA _ rfl _ _ 32 rfl 69 i0 (.agg #[.int .i64 0,.int .i64 0,.int .i64 0,.slice none 0 0]) 4 48 underlying32 hi0 hz0 hz1 hz2 rfl (by decide) (.slice none 0 0) 0 [] rfl H.o.2.1 A g l.length c _ (by simp[Act.eval]) H.o.1 H.o.2.2 (by omega) (by unfold maxLen;omega) ?_;intro A2 c2 w2 hown2 hkb2 hloc2)
 go_ret
 simp only[Nat.zero_add,List.nil_append] at hown2 hloc2 ⊢
 refine⟨A2,c2,rfl,hown2,fun y hy=> ?_,hkb2.more (by simp[d9])⟩
 rcases hloc2 y hy with h|h
 ·simp[d9] at h
 ·exact h
theorem rH:∀ (T:List (VT × Value)) (j:Nat),(Z9 T)[j]? =(T[j/4]?).bind fun t=>(oD t.1 t.2)[j % 4]?
 |[],j=>by simp[Z9]
 |t::r,j=>by
  rw[Z9]
  by_cases h:j<4
  ·rw[List.getElem?_append_left (by simp[oD,bA];omega),show j/4=0 by omega,show j % 4=j by omega]
   rfl
  ·have hl:(oD t.1 t.2).length=4:=rfl
   rw[List.getElem?_append_right (by omega),hl,rH r (j-4),show j/4=(j-4)/4+1 by omega,show j % 4=(j-4) % 4 by omega,List.getElem?_cons_succ]
theorem ZO {T:List (VT × Value)} {i:Nat} {a:VT} {old u:Value} (hT:T[i]? =some (a,old)) {cur:Array Value} {n:Nat} (hn:T.length=n) (hc:n*4≤cur.size) (hr:cur.toList.take (n*4)=Z9 T):
 (KA cur (i*4+1) [.int .i64 a.conf.num,.int .i64 a.conf.full,u]).toList.take (n*4)=Z9 (T.set i (a,u)):=by
 have hi:i<T.length:=(List.getElem?_eq_some_iff.1 hT).1
 apply List.ext_getElem?
 intro j
 rw[rH,List.getElem?_take]
 by_cases hj:j<n*4
 ·rw[if_pos hj,Array.getElem?_toList,KG _ _ _ _ (by simp;omega)]
  have ho:cur[j]? =(T[j/4]?).bind fun t=>(oD t.1 t.2)[j % 4]? :=by
   rw[←rH,←hr,List.getElem?_take,if_pos hj,Array.getElem?_toList]
  by_cases hq:j/4=i
  ·subst hq
   rw[List.getElem?_set_self hi]
   by_cases h0:j % 4=0
   ·rw[if_neg (by simp only[List.length_cons,List.length_nil];omega),ho,hT,h0];rfl
   ·rw[if_pos (by simp only[List.length_cons,List.length_nil];omega)]
    have h3:j % 4<4:=Nat.mod_lt _ (by omega)
    rw[show j-(j/4*4+1)=j % 4-1 by omega]
    rcases (by omega:j % 4=1∨j % 4=2∨j % 4=3) with e|e|e<;>rw[e]<;>rfl
  ·rw[if_neg (by simp only[List.length_cons,List.length_nil];omega),ho,List.getElem?_set_ne (fun h=>hq h.symm)]
 ·rw[if_neg hj]
  cases hk:(T.set i (a,u))[j/4]? with
  |none=>rfl
  |some t=>
   have:=(List.getElem?_eq_some_iff.1 hk).1
   rw[List.length_set] at this
   omega
theorem mD {l a b:List Value} {x:Value} {k:Nat} (hl:l=a++x::b) (hk:a.length=k) (u:Value):l.toArray.setIfInBounds k u=(a++u::b).toArray:=by
 subst hl;subst hk
 rw[F3]
 congr 1
 rw[List.set_append_right _ _ (Nat.le_refl _),Nat.sub_self,U3]
section
variable {p:PK} {ev av cv vv bw:Value}
theorem rU (h:p.req.name.length=32) (u:Value):(q8 p ev av cv vv bw).toArray.setIfInBounds 43 u=(q8 p u av cv vv bw).toArray:=by
 rw[mD (l:=q8 p ev av cv vv bw) (a:=[.int .i64 p.kind,.int .i64 p.frm,.int .i64 p.dst,.int .i64 p.num,.int .i64 p.seq,.int .i64 p.ballot,.bool p.ready,.int .i64 p.req.client,.int .i64 p.req.num,.int .i64 p.req.kind,.int .i64 p.req.version]++U7 p.req.name) (x:=ev) (b:=x9 p.ans av++(bA p.conf cv++[vv,bw])) (k:=43) (by simp[q8,U8]) (by simp[A8,h]) u]
 simp[q8,U8]
theorem qU (h:p.req.name.length=32) (h':p.ans.name.length=32) (u:Value):(q8 p ev av cv vv bw).toArray.setIfInBounds 81 u=(q8 p ev u cv vv bw).toArray:=by
 rw[mD (l:=q8 p ev av cv vv bw) (a:=[.int .i64 p.kind,.int .i64 p.frm,.int .i64 p.dst,.int .i64 p.num,.int .i64 p.seq,.int .i64 p.ballot,.bool p.ready]++(U8 p.req ev++([.int .i64 p.ans.client,.int .i64 p.ans.num,.int .i64 p.ans.code,.int .i64 p.ans.version,.int .i64 p.ans.epoch]++U7 p.ans.name))) (x:=av) (b:=bA p.conf cv++[vv,bw]) (k:=81) (by simp[q8,x9]) (by simp[O8 h,A8,h']) u]
 simp[q8,x9]
theorem bC (h:p.req.name.length=32) (h':p.ans.name.length=32) (u:Value):(q8 p ev av cv vv bw).toArray.setIfInBounds 82 (.int .i64 p.conf.num)=(q8 p ev av cv vv bw).toArray∧(q8 p ev av cv vv bw).toArray.setIfInBounds 83 (.int .i64 p.conf.full)=(q8 p ev av cv vv bw).toArray∧(q8 p ev av cv vv bw).toArray.setIfInBounds 84 u=(q8 p ev av u vv bw).toArray∧(q8 p ev av cv vv bw).toArray.setIfInBounds 85 u=(q8 p ev av cv u bw).toArray∧(q8 p ev av cv vv bw).toArray.setIfInBounds 86 u=(q8 p ev av cv vv u).toArray:=by
 have hp:([Value.int .i64 p.kind,.int .i64 p.frm,.int .i64 p.dst,.int .i64 p.num,.int .i64 p.seq,.int .i64 p.ballot,.bool p.ready]++(U8 p.req ev++x9 p.ans av)).length=82:=by simp[O8 h,y9 h']
 have he:q8 p ev av cv vv bw=([Value.int .i64 p.kind,.int .i64 p.frm,.int .i64 p.dst,.int .i64 p.num,.int .i64 p.seq,.int .i64 p.ballot,.bool p.ready]++(U8 p.req ev++x9 p.ans av))++[.int .i64 p.conf.num,.int .i64 p.conf.full,cv,vv,bw]:=by simp[q8,bA]
 have hu:∀ cv vv bw,([Value.int .i64 p.kind,.int .i64 p.frm,.int .i64 p.dst,.int .i64 p.num,.int .i64 p.seq,.int .i64 p.ballot,.bool p.ready]++(U8 p.req ev++x9 p.ans av))++[.int .i64 p.conf.num,.int .i64 p.conf.full,cv,vv,bw]=q8 p ev av cv vv bw:=fun cv vv bw=>by simp[q8,bA]
 generalize[Value.int .i64 p.kind,.int .i64 p.frm,.int .i64 p.dst,.int .i64 p.num,.int .i64 p.seq,.int .i64 p.ballot,.bool p.ready]++(U8 p.req ev++x9 p.ans av)=Z at*
 refine⟨?_,?_,?_,?_,?_⟩
 ·rw[mD he hp,←he]
 ·rw[mD (a:=Z++[.int .i64 p.conf.num]) (k:=83) (x:= .int .i64 p.conf.full) (b:=[cv,vv,bw]) (by rw[he];simp) (by simp[hp]),←hu];simp
 ·rw[mD (a:=Z++[.int .i64 p.conf.num,.int .i64 p.conf.full]) (k:=84) (x:=cv) (b:=[vv,bw]) (by rw[he];simp) (by simp[hp]),←hu];simp
 ·rw[mD (a:=Z++[.int .i64 p.conf.num,.int .i64 p.conf.full,cv]) (k:=85) (x:=vv) (b:=[bw]) (by rw[he];simp) (by simp[hp]),←hu];simp
 ·rw[mD (a:=Z++[.int .i64 p.conf.num,.int .i64 p.conf.full,cv,vv]) (k:=86) (x:=bw) (b:=[]) (by rw[he];simp) (by simp[hp]),←hu];simp
theorem oU (h:p.req.name.length=32):(q8 p ev av cv vv bw).toArray[43]? =some ev:=nQ 36 _ (by have:=WC (ev:=ev) h;simpa using this)
theorem aX (h:p.req.name.length=32) (h':p.ans.name.length=32):(q8 p ev av cv vv bw).toArray[81]? =some av:=mQ h 37 _ (by have:=VC (ev:=av) h';simpa using this)
end
structure NH (w w':World) (g:Nat) (p:PK) (ev av cv vv bw:Value):Prop where
 row:l5 w' g 34 (q8 p ev av cv vv bw).toArray
 res:l5 w' (g+1) 34 Tryz.zeroCells34
 kp:U1 [] w w'
theorem NH.over {w a b:World} {g:Nat} {p:PK} {ev av cv vv bw:Value} (h:NH w a g p ev av cv vv bw) (hk:U1 [] a b):NH w b g p ev av cv vv bw:=
 ⟨hk.row h.row (by simp),hk.row h.res (by simp),h.kp.then hk (by simp)⟩
theorem NH.set {w a:World} {g:Nat} {p:PK} {ev av cv vv bw ev' av' cv' vv' bw':Value} (h:NH w a g p ev av cv vv bw) (hg:w.heap.size≤g) (k:Nat) (u:Value) (he:(q8 p ev av cv vv bw).toArray.setIfInBounds k u=(q8 p ev' av' cv' vv' bw').toArray):
 NH w (a.setCell ⟨g,k,none⟩ u) g p ev' av' cv' vv' bw':=
 ⟨by rw[←he];exact h.row.set k u,(((U1.refl [g] a).setCell ⟨g,k,none⟩ u (.inl (by simp))).row h.res (by simp)),h.kp.setCell _ _ (.inr hg)⟩
theorem I9.keep {w a b:World} {G:List Nat} (h:I9 w a G) (hs:a.heap.size≤b.heap.size):I9 w b G:=fun y hy=>⟨(h y hy).1,Nat.lt_of_lt_of_le (h y hy).2 hs⟩
structure PK.fits (p:PK):Prop where
 e:p.req.env.length≤140737488355328
 a:p.ans.env.length≤140737488355328
 c:p.conf.chain.length≤17592186044416
 v:p.votes.length≤2932031007402
 vc:∀ v∈p.votes,v.conf.chain.length≤17592186044416
 b:p.bytes.length≤140737488355328
theorem xA.more {F G:List Nat} {w:World} {v:Value} {l:List VT} (h:xA w F v l) (hF:∀ y∈F,y∈G):xA w G v l:=by
 obtain⟨A,c,g,T,h1,h2,h3,h4,h5,h6,h7⟩:=h
 exact⟨A,c,g,T,h1,h2,h3,h4,h5,fun t ht=>(h6 t ht).more hF,fun hl=>hF g (h7 hl)⟩
theorem wD.more {F G:List Nat} {w:World} {p:PK} {ev av cv vv bw:Value} (h:wD w F p ev av cv vv bw) (hF:∀ y∈F,y∈G):wD w G p ev av cv vv bw:=
 ⟨h.rn,h.an,h.re.more hF,h.ae.more hF,h.cc.more hF,h.vs.more hF,h.bs.more hF⟩
def XM (p:PK) (w:World) (e:Ending) (w':World):Prop:=
 ∃ G ev av cv vv bw,e= .returned (.agg (q8 p ev av cv vv bw).toArray)∧wD w' G p ev av cv vv bw∧I9 w w' G∧U1 [] w w'
def VD (b:Nat) (W:World) (G:List Nat):Prop:=∀ y∈G,b+2≤y∧y<W.heap.size
theorem VD.of {w a:World} {b:Nat} {G:List Nat} (h:I9 w a G) (hb:b+1<w.heap.size):VD b a G:=fun y hy=>⟨by have:=(h y hy).1;omega,(h y hy).2⟩
theorem VD.far {b:Nat} {W:World} {G:List Nat} (h:VD b W G):∀ y∈G,y∉[b]:=fun y hy=>by have:=(h y hy).1;simp;omega
theorem VD.keep {b:Nat} {W W':World} {S G:List Nat} (h:VD b W G) (hk:U1 S W W'):VD b W' G:=fun y hy=>⟨(h y hy).1,Nat.lt_of_lt_of_le (h y hy).2 hk.size⟩
def aN (b:Nat) (W:World) (G:List Nat) (v:Value) (l:List UInt8):Prop:=G7 W G v l∧VD b W G
def sV (b:Nat) (W:World) (G:List Nat) (v:Value) (l:List Int):Prop:=F8 W G v l∧VD b W G
theorem aN.keep {b:Nat} {W W':World} {G:List Nat} {v:Value} {l:List UInt8} (h:aN b W G v l) (hk:U1 [b] W W'):aN b W' G v l:=⟨h.1.keep hk h.2.far,h.2.keep hk⟩
theorem sV.keep {b:Nat} {W W':World} {G:List Nat} {v:Value} {l:List Int} (h:sV b W G v l) (hk:U1 [b] W W'):sV b W' G v l:=⟨h.1.keep hk h.2.far,h.2.keep hk⟩
theorem aN.over {b:Nat} {W W':World} {G:List Nat} {v:Value} {l:List UInt8} (h:aN b W G v l) (hk:U1 [] W W'):aN b W' G v l:=h.keep (hk.more (by simp))
theorem sV.over {b:Nat} {W W':World} {G:List Nat} {v:Value} {l:List Int} (h:sV b W G v l) (hk:U1 [] W W'):sV b W' G v l:=h.keep (hk.more (by simp))
theorem xC (W:World) (b k:Nat) (u:Value):U1 [b] W (W.setCell ⟨b,k,none⟩ u):=(U1.refl [b] W).setCell ⟨b,k,none⟩ u (.inl (by simp))
theorem JE.gives {w:World} {V:Option Addr} {n c:Nat} {T:List (VT × Value)} (h:JE w V n c T) (hn:0<n):∃ g,V=some ⟨g,0,none⟩:=by
 rcases h.2 with⟨_,h0⟩|⟨g,cap,cur,he,_⟩
 ·omega
 ·injection he with he
  exact⟨g,he⟩
theorem JE.cells {w:World} {g n c:Nat} {T:List (VT × Value)} (h:JE w (some ⟨g,0,none⟩) n c T) {i:Nat} {t:VT × Value} (ht:T[i]? =some t):
 ∃ cur,l5 w g 69 cur∧cur.size=c*4∧cur.toList.take (n*4)=Z9 T∧∀ k u,(oD t.1 t.2)[k]? =some u→w.cell? ⟨g,i*4+k,none⟩=some u:=by
 rcases h.2 with⟨h0,_⟩|⟨g',cap,cur,he,hr,h1,h2,h3,h4⟩
 ·cases h0
 ·injection he with he1 _ he2
  injection he1 with he1
  injection he1 with he1
  subst he1 he2
  refine⟨cur,hr,h3,h4,fun k u hu=> ?_⟩
  rw[hr.cell]
  have:=zI T i t ht k u hu
  rw[←h4,List.getElem?_take] at this
  split at this
  ·simpa using this
  ·cases this
def mJ (b:Nat) (w0 W:World) (V:Option Addr) (n c:Nat) (T:List (VT × Value)) (l:List VT) (i:Nat):Prop:=
 ∃ T' G,T'.map (·.1)=l∧JE W V n c T'∧U1 (Z6 (.slice V n c)) w0 W∧VD b W G∧(∀ y∈G,y∉Z6 (.slice V n c))∧(∀ j t,j<i→T'[j]? =some t→F8 W G t.2 t.1.conf.chain)∧(∀ j t,i≤j→T'[j]? =some t→T[j]? =some t)
theorem mJ.step {b gv n c i:Nat} {w0 wr w':World} {T T':List (VT × Value)} {l:List VT} {G G':List Nat} {a:VT} {old u:Value} (hm:T'.map (·.1)=l) (hvr:JE wr (some ⟨gv,0,none⟩) n c T')
 (hk:U1 (Z6 (.slice (some ⟨gv,0,none⟩) n c)) w0 wr) (hnb:VD b wr G) (hnh:∀ y∈G,y∉Z6 (.slice (some ⟨gv,0,none⟩) n c)) (hdone:∀ j t,j<i→T'[j]? =some t→F8 wr G t.2 t.1.conf.chain)
 (hrest:∀ j t,i≤j→T'[j]? =some t→T[j]? =some t) (hTn:T'.length=n) (ht:T'[i]? =some (a,old)) (k1:U1 [] wr w') (hu:F8 w' G' u a.conf.chain) (hG:I9 wr w' G') (hb:b+2≤wr.heap.size):
 mJ b w0 (((w'.setCell ⟨gv,i*4+1,none⟩ (.int .i64 a.conf.num)).setCell ⟨gv,i*4+1+1,none⟩ (.int .i64 a.conf.full)).setCell ⟨gv,i*4+1+2,none⟩ u) (some ⟨gv,0,none⟩) n c T l (i+1):=by
 have hi:i<T'.length:=(List.getElem?_eq_some_iff.1 ht).1
 obtain⟨cur,hr,hcs,hcf,_⟩:=hvr.cells ht
 have hgl:=hr.lt
 have hnc:n≤c:=by
  rcases hvr.2 with⟨h0,_⟩|⟨g',cap,cur',he,_,h1,_⟩
  ·cases h0
  ·injection he with _ _ he;omega
 have hcm:c≤maxLen:=by
  rcases hvr.2 with⟨h0,_⟩|⟨g',cap,cur',he,_,_,h1,_⟩
  ·cases h0
  ·injection he with _ _ he;omega
 have r1:=k1.row hr (by simp)
 have r2:=((r1.set (i*4+1) (.int .i64 a.conf.num)).set (i*4+1+1) (.int .i64 a.conf.full)).set (i*4+1+2) u
 have ks:=((xC w' gv (i*4+1) (.int .i64 a.conf.num)).setCell ⟨gv,i*4+1+1,none⟩ (.int .i64 a.conf.full) (.inl (by simp))).setCell ⟨gv,i*4+1+2,none⟩ u (.inl (by simp))
 have hf:=ZO (u:=u) ht (cur:=cur) hTn (by omega) hcf
 have hs':((KA cur (i*4+1) [.int .i64 a.conf.num,.int .i64 a.conf.full,u])).size=c*4:=by rw[bB,hcs]
 refine⟨T'.set i (a,u),G++G',?_,⟨?_,.inr ⟨gv,c,_,rfl,r2,hnc,hcm,hs',hf⟩⟩,?_,?_,?_,?_,?_⟩
 ·rw[←hm]
  apply List.ext_getElem?
  intro j
  rw[List.getElem?_map,List.getElem?_map,List.getElem?_set]
  by_cases e:i=j
  ·subst e;rw[if_pos rfl,if_pos hi,ht];rfl
  ·rw[if_neg e]
 ·rw[sH,List.length_set,hTn]
 ·exact (hk.then k1 (by simp)).then ks (fun x hx=> .inl (by rw[V8];exact hx))
 ·intro y hy
  have h1:=k1.size
  have h2:=ks.size
  rcases List.mem_append.1 hy with hy|hy
  ·have:=hnb y hy;omega
  ·have:=hG y hy;omega
 ·intro y hy
  rcases List.mem_append.1 hy with hy|hy
  ·exact hnh y hy
  ·have:=hG y hy;simp[V8];omega
 ·intro j t hj hjt
  rw[List.getElem?_set] at hjt
  by_cases e:i=j
  ·subst e
   rw[if_pos rfl,if_pos hi] at hjt
   injection hjt with hjt
   subst hjt
   exact (hu.keep ks (fun y hy=>by have:=hG y hy;simp;omega)).more (fun y hy=>List.mem_append.2 (.inr hy))
  ·rw[if_neg e] at hjt
   exact (((hdone j t (by omega) hjt).keep k1 (by simp)).keep ks (fun y hy=>by have:=hnh y hy;rw[V8] at this;exact this)).more (fun y hy=>List.mem_append.2 (.inl hy))
 ·intro j t hj hjt
  rw[List.getElem?_set,if_neg (by omega)] at hjt
  exact hrest j t (by omega) hjt
theorem QO (F:List Nat) (p:PK) (ev av cv vv bw:Value) (w:World) (h:wD w F p ev av cv vv bw) (hf:p.fits):
 Calls prog 24 #[.agg (q8 p ev av cv vv bw).toArray] w (XM p w):=by
 have k1:=(U1.refl [] w).alloc (.cells (q8 p ev av cv vv bw).toArray 34)
 have r1:=l5.new w 34 (q8 p ev av cv vv bw).toArray
 have hs1:(w.alloc (.cells (q8 p ev av cv vv bw).toArray 34)).heap.size=w.heap.size+1:=World.size_alloc _ _
 obtain⟨w1,hw1⟩:∃ w1,w.alloc (.cells (q8 p ev av cv vv bw).toArray 34)=w1:=⟨_,rfl⟩
 rw[hw1] at k1 r1 hs1
 have k2:=(U1.refl [] w1).alloc (.cells Tryz.zeroCells34 34)
 have r2:=l5.new w1 34 Tryz.zeroCells34
 have r1':=k2.row r1 (by simp)
 rw[hs1] at r2
 have k12:=k1.then k2 (by simp)
 have hrn:=h.rn
 have han:=h.an
 have HW:=U0 hw1
 have hv:=U0 h
 obtain⟨A0,c0,g0,rfl,_⟩:=id h.re
 obtain⟨A1,c1,g1,rfl,_⟩:=id h.ae
 obtain⟨A2,c2,g2,rfl,_⟩:=id h.cc
 obtain⟨A3,c3,g3,T3,rfl,hv1,hv2,hv3,hv4,hv5,hv6⟩:=id h.vs
 have hT3:=U0 (U2 hv1 (U2 hv4 (fun t ht=>(hv5 t ht).one)))
 have hT3c:=U0 (U2 hv3 hv5)
 clear hv1 hv2 hv3 hv4 hv5 hv6
 obtain⟨A4,c4,g4,rfl,_⟩:=id h.bs
 clear hw1 k1 r1 k2 h
 go_enter func24,ntmps24
 go_upto_region 1 with (first
  |(with_reducible refine Z4 _ _ rfl 34 (.tmp 0) rfl _ rfl HW.o ?_))
 obtain⟨w2,hw2⟩:∃ w2,w1.alloc (.cells Tryz.zeroCells34 34)=w2:=⟨_,rfl⟩
 rw[hw2] at r1' r2 k12 ⊢
 have C0:V5 (NH w w2 w.heap.size p _ _ _ _ _):=U0 ⟨r1',r2,k12⟩
 obtain⟨b,hb⟩:∃ b,w.heap.size=b:=⟨_,rfl⟩
 have hbl:w.heap.size≤b:=by omega
 rw[hb] at C0 ⊢
 have HB:=U0 (U2 hb hbl)
 clear hw2 r1' r2 k12 HW hs1 hb hbl
 have x43:=(C0.o.row.cell 43).trans (oU hrn)
 go_upto_region 2 with (first
  |(go_at_call 89;refine (xG F _ p.req.env _ (hv.o.re.keep C0.o.kp (by simp)) hf.e).mono ?_;rintro e w3 ⟨u0,G0,rfl,⟨B0,d0,q0,rfl,i0⟩,n0,kk0⟩;have C1:=U0 (C0.o.over kk0);have y43:=(C1.o.row.cell 43).trans (oU hrn);have f43:=C1.o.row.free 43;have E0:V5 (aN b w3 G0 _ p.req.env):=U0 ⟨⟨B0,d0,q0,rfl,i0⟩,VD.of n0 C0.o.res.lt⟩;clear i0 n0 kk0 x43))
 have D1:=U0 (C1.o.set HB.o.2 43 (.slice B0 p.req.env.length d0) (rU hrn _))
 have E1:=U0 (E0.o.keep (xC w3 b 43 (.slice B0 p.req.env.length d0)))
 obtain⟨w4,hw4⟩:∃ w4,w3.setCell ⟨b,43,none⟩ (.slice B0 p.req.env.length d0)=w4:=⟨_,rfl⟩
 rw[hw4] at D1 E1 ⊢
 clear hw4 y43 f43 E0 C1 C0
 have x81:=(D1.o.row.cell 81).trans (aX hrn han)
 go_upto_region 3 with (first
  |(go_at_call 89;refine (xG F _ p.ans.env _ (hv.o.ae.keep D1.o.kp (by simp)) hf.a).mono ?_;rintro e w5 ⟨u0,G1,rfl,⟨B1,d1,q1,rfl,i0⟩,n0,kk0⟩;have C1:=U0 (D1.o.over kk0);have y81:=(C1.o.row.cell 81).trans (aX hrn han);have f81:=C1.o.row.free 81;have E2:=U0 (E1.o.over kk0);have F2:V5 (aN b w5 G1 _ p.ans.env):=U0 ⟨⟨B1,d1,q1,rfl,i0⟩,VD.of n0 D1.o.res.lt⟩;clear i0 n0 kk0 x81))
 have D2:=U0 (C1.o.set HB.o.2 81 (.slice B1 p.ans.env.length d1) (qU hrn han _))
 have E3:=U0 (U2 (E2.o.keep (xC w5 b 81 (.slice B1 p.ans.env.length d1))) (F2.o.keep (xC w5 b 81 (.slice B1 p.ans.env.length d1))))
 obtain⟨w6,hw6⟩:∃ w6,w5.setCell ⟨b,81,none⟩ (.slice B1 p.ans.env.length d1)=w6:=⟨_,rfl⟩
 rw[hw6] at D2 E3 ⊢
 clear hw6 y81 f81 E2 E1 F2 C1 D1
 have P2:=D2.o.row.pk hrn han
 have x82:=P2.d0
 have x83:=P2.d1
 have x84:=P2.d2
 clear P2
 go_upto_region 4 with (first
  |(go_at_call 90;refine (MH F p.conf _ _ (hv.o.cc.keep D2.o.kp (by simp)) hf.c).mono ?_;rintro e w7 ⟨u0,G2,rfl,⟨B2,d2,q2,rfl,i0⟩,n0,kk0⟩;dsimp only[bA];have C1:=U0 (D2.o.over kk0);have P3:=C1.o.row.pk hrn han;have y82:=P3.d0;have y83:=P3.d1;have y84:=P3.d2;have f82:=C1.o.row.free 82;have f83:=C1.o.row.free 83;have f84:=C1.o.row.free 84;have E4:=U0 (U2 (E3.o.1.over kk0) (E3.o.2.over kk0));have F4:V5 (sV b w7 G2 _ p.conf.chain):=U0 ⟨⟨B2,d2,q2,rfl,i0⟩,VD.of n0 D2.o.res.lt⟩;clear i0 n0 kk0 x82 x83 x84 P3))
 have D3:=U0 (((C1.o.set HB.o.2 82 _ (bC hrn han (.int .i64 0)).1).set HB.o.2 83 _ (bC hrn han (.int .i64 0)).2.1).set HB.o.2 84 (.slice B2 p.conf.chain.length d2) (bC hrn han _).2.2.1)
 have kc:=((xC w7 b 82 (.int .i64 p.conf.num)).setCell ⟨b,83,none⟩ (.int .i64 p.conf.full) (.inl (by simp))).setCell ⟨b,84,none⟩ (.slice B2 p.conf.chain.length d2) (.inl (by simp))
 have E5:=U0 (U2 (E4.o.1.keep kc) (U2 (E4.o.2.keep kc) (F4.o.keep kc)))
 obtain⟨w8,hw8⟩:∃ w8,((w7.setCell ⟨b,82,none⟩ (.int .i64 p.conf.num)).setCell ⟨b,83,none⟩ (.int .i64 p.conf.full)).setCell ⟨b,84,none⟩ (.slice B2 p.conf.chain.length d2)=w8:=⟨_,rfl⟩
 rw[hw8] at D3 E5 ⊢
 clear hw8 kc E4 F4 E3 C1 y82 y83 y84 f82 f83 f84 D2
 have x85:=(D3.o.row.pk hrn han).d3
 go_upto_region 5 with (first
  |(go_at_call 91;refine (WM A3 g3 c3 p.votes T3 _ hT3.o.1 (hT3.o.2.1.keepS D3.o.kp (by simp)) hT3.o.2.2 hf.v).mono ?_;rintro e w9 ⟨V,cV,rfl,hV,hVn,kk0⟩;have C1:=U0 (D3.o.over kk0);have y85:=(C1.o.row.pk hrn han).d3;have f85:=C1.o.row.free 85;have E6:=U0 (U2 (E5.o.1.over kk0) (U2 (E5.o.2.1.over kk0) (E5.o.2.2.over kk0)));have hV0:V5 (JE w9 V p.votes.length cV T3∧(∀ y∈Z6 (.slice V p.votes.length cV),b+2≤y∧w8.heap.size≤y)):=U0 ⟨hV,fun y hy=>⟨by have:=hVn y hy;have:=D3.o.res.lt;omega,hVn y hy⟩⟩;have hlt9:V5 (U1 [] w8 w9):=U0 kk0;clear hV hVn kk0 x85))
 obtain⟨hVr,hVb⟩:=hV0.o
 have D4:=U0 (C1.o.set HB.o.2 85 (.slice V p.votes.length cV) (bC hrn han _).2.2.2.1)
 have k9:=xC w9 b 85 (.slice V p.votes.length cV)
 have hbV:b∉Z6 (.slice V p.votes.length cV):=fun hm=>by have:=(hVb b hm).1;omega
 have hV1:=U0 (hVr.keep k9 (fun y hy=>by have:=(hVb y hy).1;simp;omega))
 have E7:=U0 (U2 (E6.o.1.keep k9) (U2 (E6.o.2.1.keep k9) (E6.o.2.2.keep k9)))
 have hV2:=U0 (U2 hbV (U2 (fun y hy=>(hVb y hy).1) (U2 (fun y hy=>(hVb y hy).2) (E5.o))))
 have x85:=(D4.o.row.pk hrn han).d3
 obtain⟨wA,hwA⟩:∃ wA,w9.setCell ⟨b,85,none⟩ (.slice V p.votes.length cV)=wA:=⟨_,rfl⟩
 rw[hwA] at D4 hV1 E7 x85 ⊢
 clear hwA k9 y85 f85 C1 E6 hV0 hVr hVb hbV hlt9 E5 D3
 have hnl:p.votes.length≤2932031007402:=hf.v
 obtain⟨n,hn⟩:∃ n,p.votes.length=n:=⟨_,rfl⟩
 rw[hn] at D4 hV1 hV2 x85 hnl ⊢
 have HN:=U0 hn
 go_upto_region 6 with fail
 go_loopw [3,4,28] (fun _ _ v28 wx=>∃ i:Nat,i≤n∧v28= .int .i64 (i:Int)∧mJ b wA wx V n cV T3 p.votes i) (fun _ _ v28 _=>n-(intOf v28).toNat)
 case atStart=>exact⟨0,by omega,rfl,T3,[],hT3c.o.1,hV1.o,U1.refl _ _,by simp[VD],by simp,by simp,fun j t _ h=>h⟩
 case round=>
  obtain⟨i,hi,rfl,HL⟩:=hrel
  by_cases hlt:i<n
  ·obtain⟨T',G,hm,hvr,hk,hnb,hnh,hdone,hrest⟩:=HL
   obtain⟨gv,rfl⟩:=hvr.gives (by omega)
   have hTn:T'.length=n:=by rw[←List.length_map (f:=(·.1)),hm,HN.o]
   obtain⟨t,ht⟩:∃ t,T'[i]? =some t:=⟨_,List.getElem?_eq_getElem (by omega)⟩
   obtain⟨cur,hr,hcs,hcf,hat⟩:=hvr.cells ht
   have hkw:U1 [] w wr:=D4.o.kp.then hk (fun y hy=> .inr (by have:=hV2.o.2.1 y hy;have:=HB.o.1;omega))
   have hgvb:gv≠b:=fun e=>hV2.o.1 (by rw[←e];simp[V8])
   have hcv:=(hT3c.o.2 t (List.mem_of_getElem? (hrest i t (Nat.le_refl _) ht))).keep hkw (by simp)
   obtain⟨⟨ab,an,af,al⟩,cv⟩:=t
   have y0:wr.cell? ⟨gv,i*4,none⟩=some (.int .i64 ab):=hat 0 _ rfl
   have y1:wr.cell? ⟨gv,i*4+1,none⟩=some (.int .i64 an):=hat 1 _ rfl
   have y2:wr.cell? ⟨gv,i*4+2,none⟩=some (.int .i64 af):=hat 2 _ rfl
   have y3:wr.cell? ⟨gv,i*4+3,none⟩=some cv:=hat 3 _ rfl
   have rb:=hk.row D4.o.row hV2.o.1
   have hlt':(i:Int)<(n:Int):=by omega
   have hn0:(0:Int)≤(i:Int):=by omega
   have hw1:IntKind.i64.wrap ((i:Int)+1)=(i:Int)+1:=Z8 _ (by omega) (by omega)
   dsimp only at hcv
   obtain⟨CA,cc,cg,rfl,_⟩:=id hcv
   have HR:=U0 (U2 hm (U2 hvr (U2 hk (U2 hnb (U2 hnh (U2 hdone (U2 hrest (U2 hTn (U2 ht (U2 hr (U2 hcs (U2 hcf (U2 hkw (U2 hcv rb))))))))))))))
   clear hm hvr hk hnb hnh hdone hrest hTn ht hr hcs hcf hkw hcv rb hat
   go_upto_region 8 with fail
   have k7:=(U1.refl [] wr).alloc (.cells #[.int .i64 ab,.int .i64 an,.int .i64 af,.slice CA al.length cc] 69)
   have r7:=l5.new wr 69 #[.int .i64 ab,.int .i64 an,.int .i64 af,.slice CA al.length cc]
   have rb7:=k7.row HR.o.2.2.2.2.2.2.2.2.2.2.2.2.2.2 (by simp)
   have rv7:=k7.row HR.o.2.2.2.2.2.2.2.2.2.1 (by simp)
   have i7:=HR.o.2.2.2.2.2.2.2.2.2.2.2.2.2.1.keep k7 (by simp)
   obtain⟨wv,hwv⟩:∃ wv,wr.alloc (.cells #[.int .i64 ab,.int .i64 an,.int .i64 af,.slice CA al.length cc] 69)=wv:=⟨_,rfl⟩
   rw[hwv] at k7 r7 rb7 rv7 i7 ⊢
   obtain⟨tv,htv⟩:∃ tv,wr.heap.size=tv:=⟨_,rfl⟩
   rw[htv] at r7 ⊢
   have htvg:tv≠gv:=fun e=>by have:=HR.o.2.2.2.2.2.2.2.2.2.1.lt;omega
   have z85:wv.cell? ⟨b,85,none⟩=some (.slice (some ⟨gv,0,none⟩) n cV):=(rb7.pk hrn han).d3
   have q1:wv.cell? ⟨tv,1,none⟩=some (.int .i64 an):=r7.cell 1
   have q2:wv.cell? ⟨tv,2,none⟩=some (.int .i64 af):=r7.cell 2
   have q3:wv.cell? ⟨tv,3,none⟩=some (.slice CA al.length cc):=r7.cell 3
   have H7:=U0 (U2 k7 (U2 r7 (U2 rb7 (U2 rv7 (U2 i7 htv)))))
   have hal:al.length≤17592186044416:=hf.vc ⟨ab,an,af,al⟩ (by rw[←HR.o.1];exact List.mem_map.2 ⟨_,List.mem_of_getElem? HR.o.2.2.2.2.2.2.2.2.1,rfl⟩)
   have HY:=U0 (U2 y1 (U2 y2 y3))
   clear hwv k7 r7 rb7 rv7 i7 y0 y1 y2 y3 htv
   go_region_held3 (fun w'=>w'.cell? ⟨b,85,none⟩=some (.slice (some ⟨gv,0,none⟩) n cV)∧w'.cell? ⟨tv,1,none⟩=some (.int .i64 an)∧w'.cell? ⟨tv,2,none⟩=some (.int .i64 af)∧w'.cell? ⟨tv,3,none⟩=some (.slice CA al.length cc)) (first|exact⟨z85,q1,q2,q3⟩|exact⟨e85,p1,p2,p3⟩|exact⟨s85,s1,s2,s3⟩)
    (first
      |(go_at_call 90;refine (MH F ⟨an,af,al⟩ _ _ (H7.o.2.2.2.2.1.keep ((U1.refl [] wv).drew) (by simp)) hal).mono ?_;rintro e w' ⟨u,G',rfl,⟨D,cd,gd,rfl,i2⟩,hG',kk⟩;dsimp only[bA];have kd:=((U1.refl [] wv).drew).then kk (by simp);have e85:=(kd.cell (p:=⟨b,85,none⟩) H7.o.2.2.1.lt (by simp)).trans z85;have p1:=(kd.cell (p:=⟨tv,1,none⟩) H7.o.2.1.lt (by simp)).trans q1;have p2:=(kd.cell (p:=⟨tv,2,none⟩) H7.o.2.1.lt (by simp)).trans q2;have p3:=(kd.cell (p:=⟨tv,3,none⟩) H7.o.2.1.lt (by simp)).trans q3;have rv8:=kd.row H7.o.2.2.2.1 (by simp);have ks:=((xC w' gv (i*4+1) (.int .i64 an)).setCell ⟨gv,i*4+1+1,none⟩ (.int .i64 af) (.inl (by simp))).setCell ⟨gv,i*4+1+2,none⟩ (.slice D al.length cd) (.inl (by simp));have s85:=(ks.cell (p:=⟨b,85,none⟩) (Nat.lt_of_lt_of_le H7.o.2.2.1.lt kd.size) (by simp;exact fun e=>hgvb e.symm)).trans e85;have s1:=(ks.cell (p:=⟨tv,1,none⟩) (Nat.lt_of_lt_of_le H7.o.2.1.lt kd.size) (by simp[htvg])).trans p1;have s2:=(ks.cell (p:=⟨tv,2,none⟩) (Nat.lt_of_lt_of_le H7.o.2.1.lt kd.size) (by simp[htvg])).trans p2;have s3:=(ks.cell (p:=⟨tv,3,none⟩) (Nat.lt_of_lt_of_le H7.o.2.1.lt kd.size) (by simp[htvg])).trans p3;have v1:=(rv8.cell (i*4+1)).trans ((HR.o.2.2.2.2.2.2.2.2.2.1.cell _).symm.trans HY.o.1);have v2:=(rv8.cell (i*4+1+1)).trans ((HR.o.2.2.2.2.2.2.2.2.2.1.cell _).symm.trans HY.o.2.1);have v3:=(rv8.cell (i*4+1+2)).trans ((HR.o.2.2.2.2.2.2.2.2.2.1.cell _).symm.trans HY.o.2.2);have fz0:=rv8.free (i*4+1);have fz1:=rv8.free (i*4+1+1);have fz2:=rv8.free (i*4+1+2)))
   have HT:=U0 (mJ.step HR.o.1 HR.o.2.1 HR.o.2.2.1 HR.o.2.2.2.1 HR.o.2.2.2.2.1 HR.o.2.2.2.2.2.1 HR.o.2.2.2.2.2.2.1 HR.o.2.2.2.2.2.2.2.1 HR.o.2.2.2.2.2.2.2.2.1 (H7.o.1.then kd (by simp)) ⟨D,cd,gd,rfl,i2⟩ (fun y hy=>⟨Nat.le_trans H7.o.1.size (hG' y hy).1,(hG' y hy).2⟩) (by have h1:=D4.o.res.lt;have h2:=HR.o.2.2.1.size;omega))
   clear kd kk ks i2 hG' e85 p1 p2 p3 rv8 z85 q1 q2 q3 v1 v2 v3 fz0 fz1 fz2 s85 s1 s2 s3
   go_wp2_with fail
   go_roundw
   case rel=>exact⟨i+1,by omega,by go_num,HT.o⟩
   case measure=>simp[intOf];omega
  ·obtain rfl:i=n:=by omega
   obtain⟨T',G,hm,hvr,hk,hnb,hnh,hdone,_⟩:=HL
   have D5:V5 (NH w wr b p (.slice B0 p.req.env.length d0) (.slice B1 p.ans.env.length d1) (.slice B2 p.conf.chain.length d2) (.slice V i cV) (.slice A4 p.bytes.length c4)):=U0 ⟨hk.row D4.o.row hV2.o.1,hk.row D4.o.res (fun hm=>by have:=hV2.o.2.1 _ hm;omega),D4.o.kp.then hk (fun y hy=> .inr (by have:=hV2.o.2.1 y hy;have:=HB.o.1;omega))⟩
   have hfar:∀ G,VD b w8 G→∀ y∈G,y∉Z6 (.slice V i cV):=fun G hG y hy hm=>by have h1:=(hG y hy).2;have h2:=hV2.o.2.2.1 y hm;omega
   have E8:V5 (aN b wr G0 _ p.req.env∧aN b wr G1 _ p.ans.env∧sV b wr G2 _ p.conf.chain):=U0 ⟨⟨E7.o.1.1.keep hk (hfar _ hV2.o.2.2.2.1.2),E7.o.1.2.keep hk⟩,⟨E7.o.2.1.1.keep hk (hfar _ hV2.o.2.2.2.2.1.2),E7.o.2.1.2.keep hk⟩,⟨E7.o.2.2.1.keep hk (hfar _ hV2.o.2.2.2.2.2.2),E7.o.2.2.2.keep hk⟩⟩
   have hvv:V5 (xA wr (G++Z6 (.slice V i cV)) (.slice V i cV) p.votes∧VD b wr (G++Z6 (.slice V i cV))):=U0 (by
    have hTn:T'.length=i:=by rw[←List.length_map (f:=(·.1)),hm,HN.o]
    refine⟨?_,fun y hy=> ?_⟩
    ·obtain⟨A,c,he,h1,h2,h3,h4⟩:=hvr.form
     injection he with he1 he2 he3
     subst he1 he3
     obtain⟨g,hg⟩:=EA (.slice V i cV)
     refine⟨V,cV,g,T',by rw[HN.o],by rw[HN.o];exact h1,h2,hm,by rw[HN.o];exact h4 g hg,fun t ht=> ?_,fun hne=> ?_⟩
     ·obtain⟨j,hj⟩:=List.getElem?_of_mem ht
      exact (hdone j t (by have:=(List.getElem?_eq_some_iff.1 hj).1;omega) hj).more (fun y hy=>List.mem_append.2 (.inl hy))
     ·obtain⟨o,hA,_⟩:=(h4 g hg).2 (by have:=HN.o;have:=List.length_pos_iff.2 hne;omega)
      rw[hA];simp[V8]
    ·rcases List.mem_append.1 hy with hy|hy
     ·exact hnb y hy
     ·exact⟨hV2.o.2.1 y hy,hvr.lt y hy⟩)
   clear hm hvr hk hnb hnh hdone hfar hV2 E7 D4 x85
   have x86:=(D5.o.row.pk hrn han).d4
   go_upto_region 10 with fail
   go_upto_region 11 with (first
    |(go_at_call 89;refine (xG F _ p.bytes _ (hv.o.bs.keep D5.o.kp (by simp)) hf.b).mono ?_;rintro e wB ⟨u0,G4,rfl,⟨B4,d4,q4,rfl,i0⟩,n0,kk0⟩;have C1:=U0 (D5.o.over kk0);have y86:=(C1.o.row.pk hrn han).d4;have f86:=C1.o.row.free 86;have E9:=U0 (U2 (E8.o.1.over kk0) (U2 (E8.o.2.1.over kk0) (E8.o.2.2.over kk0)));have F9:V5 (aN b wB G4 _ p.bytes):=U0 ⟨⟨B4,d4,q4,rfl,i0⟩,VD.of n0 D5.o.res.lt⟩;have V9:=U0 (U2 (hvv.o.1.keep kk0 (by simp)) (hvv.o.2.keep kk0));clear i0 n0 kk0 x86))
   have D6:=U0 (C1.o.set HB.o.2 86 (.slice B4 p.bytes.length d4) (bC hrn han (.slice B4 p.bytes.length d4)).2.2.2.2)
   have kz:=xC wB b 86 (.slice B4 p.bytes.length d4)
   have EZ:=U0 (U2 (E9.o.1.keep kz) (U2 (E9.o.2.1.keep kz) (U2 (E9.o.2.2.keep kz) (U2 (F9.o.keep kz) (U2 (V9.o.1.keep kz V9.o.2.far) (V9.o.2.keep kz))))))
   obtain⟨wZ,hwZ⟩:∃ wZ,wB.setCell ⟨b,86,none⟩ (.slice B4 p.bytes.length d4)=wZ:=⟨_,rfl⟩
   rw[hwZ] at D6 EZ ⊢
   clear hwZ kz y86 f86 C1 E9 F9 V9 E8 D5 hvv
   have hlen:=G8 (p:=p) (ev:= .slice B0 p.req.env.length d0) (av:= .slice B1 p.ans.env.length d1) (cv:= .slice B2 p.conf.chain.length d2) (vv:= .slice V i cV) (bw:= .slice B4 p.bytes.length d4) hrn han
   have hone:=yA (p:=p) (ev:= .slice B0 p.req.env.length d0) (av:= .slice B1 p.ans.env.length d1) (cv:= .slice B2 p.conf.chain.length d2) (vv:= .slice V i cV) (bw:= .slice B4 p.bytes.length d4) rfl rfl rfl rfl rfl
   have rz:=D6.o.row.rangeAll
   have rs:=D6.o.res.setL (vs:=(q8 p (.slice B0 p.req.env.length d0) (.slice B1 p.ans.env.length d1) (.slice B2 p.conf.chain.length d2) (.slice V i cV) (.slice B4 p.bytes.length d4))) (o:=0)
   rw[F7 (by rw[hlen];rfl)] at rs
   have ks:=(U1.refl [b+1] wZ).setL (vs:=(q8 p (.slice B0 p.req.env.length d0) (.slice B1 p.ans.env.length d1) (.slice B2 p.conf.chain.length d2) (.slice V i cV) (.slice B4 p.bytes.length d4))) (g:=b+1) (o:=0) (by simp)
   have ks':=D6.o.kp.setL (vs:=(q8 p (.slice B0 p.req.env.length d0) (.slice B1 p.ans.env.length d1) (.slice B2 p.conf.chain.length d2) (.slice V i cV) (.slice B4 p.bytes.length d4))) (g:=b+1) (o:=0) (.inr (by have:=HB.o.1;omega))
   have ht:=D6.o.res.there (o:=0) (n:=(q8 p (.slice B0 p.req.env.length d0) (.slice B1 p.ans.env.length d1) (.slice B2 p.conf.chain.length d2) (.slice V i cV) (.slice B4 p.bytes.length d4)).toArray.size) (by rw[U4,hlen];exact Nat.le_refl _)
   have hI:(prog.info? 34).map (·.size)=some (q8 p (.slice B0 p.req.env.length d0) (.slice B1 p.ans.env.length d1) (.slice B2 p.conf.chain.length d2) (.slice V i cV) (.slice B4 p.bytes.length d4)).length:=by rw[hlen];exact I5
   have hJ:(prog.info? 34).map (·.size)=some (q8 p (.slice B0 p.req.env.length d0) (.slice B1 p.ans.env.length d1) (.slice B2 p.conf.chain.length d2) (.slice V i cV) (.slice B4 p.bytes.length d4)).toArray.size:=by rw[U4];exact hI
   have HS:=U0 (U2 rz (U2 rs (U2 ks (U2 ht (U2 hI (U2 hJ ks'))))))
   have HC:=U0 (all_oneCell_toArray hone)
   clear rz rs ks ht hI hJ hlen hone ks'
   go_wp2_with (first
    |(refine wpList_load_mid rfl 34 (.tmp 1) rfl b 0 rfl (q8 p (.slice B0 p.req.env.length d0) (.slice B1 p.ans.env.length d1) (.slice B2 p.conf.chain.length d2) (.slice V i cV) (.slice B4 p.bytes.length d4)) _ HS.o.1 underlying34 rfl HS.o.2.2.2.2.1 ?_)
    |(refine wpList_store_mid rfl 34 (.tmp 2) (.tmp 46) rfl (b+1) 0 (q8 p (.slice B0 p.req.env.length d0) (.slice B1 p.ans.env.length d1) (.slice B2 p.conf.chain.length d2) (.slice V i cV) (.slice B4 p.bytes.length d4)).toArray rfl rfl HS.o.2.2.2.1 HS.o.2.2.2.2.2.1 HC.o ?_))
   refine bodyPost_ret (results_cell_row rfl _ _ (b+1) 34 _ (0,0) _ rfl HS.o.2.1 underlying34 rfl HS.o.2.2.2.2.2.1) rfl ?_
   have hfarS:∀ G,VD b wZ G→∀ y∈G,y∉[b+1]:=fun G hG y hy=>by have:=(hG y hy).1;simp;omega
   refine⟨G0++(G1++(G2++((G++Z6 (.slice V i cV))++G4))),_,_,_,_,_,rfl,⟨hrn,han,?_,?_,?_,?_,?_⟩,?_,HS.o.2.2.2.2.2.2⟩
   ·exact (EZ.o.1.1.keep HS.o.2.2.1 (hfarS _ EZ.o.1.2)).more (fun y hy=>by simp[hy])
   ·exact (EZ.o.2.1.1.keep HS.o.2.2.1 (hfarS _ EZ.o.2.1.2)).more (fun y hy=>by simp[hy])
   ·exact (EZ.o.2.2.1.1.keep HS.o.2.2.1 (hfarS _ EZ.o.2.2.1.2)).more (fun y hy=>by simp[hy])
   ·exact (EZ.o.2.2.2.2.1.keep HS.o.2.2.1 (hfarS _ EZ.o.2.2.2.2.2)).more (fun y hy=>by rcases List.mem_append.1 hy with hy|hy<;>simp[hy])
   ·exact (EZ.o.2.2.2.1.1.keep HS.o.2.2.1 (hfarS _ EZ.o.2.2.2.1.2)).more (fun y hy=>by simp[hy])
   ·have hall:VD b wZ (G0++(G1++(G2++((G++Z6 (.slice V i cV))++G4)))):=fun y hy=>by
     rcases List.mem_append.1 hy with hy|hy
     ·exact EZ.o.1.2 y hy
     rcases List.mem_append.1 hy with hy|hy
     ·exact EZ.o.2.1.2 y hy
     rcases List.mem_append.1 hy with hy|hy
     ·exact EZ.o.2.2.1.2 y hy
     rcases List.mem_append.1 hy with hy|hy
     ·exact EZ.o.2.2.2.2.2 y hy
     ·exact EZ.o.2.2.2.1.2 y hy
    exact fun y hy=>⟨by have:=(hall y hy).1;have:=HB.o.1;omega,Nat.lt_of_lt_of_le (hall y hy).2 HS.o.2.2.1.size⟩
def xE (w0 w:World) (p:Nat) (l:List UInt8):Prop:=
 ∃ v,QE w p v ⟨l,0⟩∧w0.heap.size≤p∧(∀ x∈Z6 v,w0.heap.size≤x)∧U1 [] w0 w
theorem xE.kept {w0 w:World} {p:Nat} {l:List UInt8} (h:xE w0 w p l):U1 [] w0 w:=by obtain⟨v,_,_,_,h⟩:=h;exact h
theorem xE.lt {w0 w:World} {p:Nat} {l:List UInt8} (h:xE w0 w p l):p<w.heap.size:=by obtain⟨v,h,_⟩:=h;exact h.1.lt
theorem xE.over {w0 w w':World} {p:Nat} {l:List UInt8} (h:xE w0 w p l) (hk:U1 [] w w'):xE w0 w' p l:=by
 obtain⟨v,h1,h2,h3,h4⟩:=h
 exact⟨v,h1.keep hk (by simp) (by simp),h2,h3,h4.then hk (by simp)⟩
theorem xE.step {w0 w w':World} {p:Nat} {l m:List UInt8} {v:Value} {e:Ending} (h:QE w p v ⟨l,0⟩) (h1:w0.heap.size≤p) (h2:∀ x∈Z6 v,w0.heap.size≤x) (h3:U1 [] w0 w) (hp:nK p v ⟨m,0⟩ w e w'):
 e= .returned (.pointer (some ⟨p,0,none⟩))∧xE w0 w' p m:=by
 obtain⟨he,v',hw,hk,hh⟩:=hp
 refine⟨he,v',hw,h1,fun x hx=> ?_,h3.then hk (fun x hx=> .inr ?_)⟩
 ·rcases hh x hx with q|q
  ·exact h2 x q
  ·have:=h3.size;omega
 ·rcases List.mem_cons.1 hx with rfl|hx
  ·exact h1
  ·exact h2 x hx
theorem wQ (l:List UInt8) {n:Int} (h0:0≤n) (h1:n<256):(WS.mk l 0).num 1 n=⟨l++l7 1 n.toNat,0⟩:=by
 unfold WS.num
 have hf:LB 1 n=true:=by
  unfold LB
  rw[if_neg (by omega)]
  simp;omega
 have hw:FI 1=true:=rfl
 simp[hf,hw]
theorem SG (l:List UInt8) {n:Int} (h0:0≤n) (h1:n≤9007199254740991):(WS.mk l 0).count n=⟨l++cb n.toNat,0⟩:=by
 unfold WS.count
 rw[if_pos rfl,if_neg (by unfold YF;omega)]
theorem RP (l t:List UInt8):(WS.mk l 0).raw t=⟨l++t,0⟩:=by
 unfold WS.raw
 rw[if_pos rfl]
theorem mI (l t:List UInt8) (h:t.length≤1000000000):(WS.mk l 0).text t=⟨(l++cb t.length)++t,0⟩:=by
 unfold WS.text
 rw[SG l (by omega) (by omega),RP,Int.toNat_natCast]
def UJ (w0:World) (p:Nat) (l:List UInt8) (e:Ending) (w':World):Prop:=e= .returned (.pointer (some ⟨p,0,none⟩))∧xE w0 w' p l
theorem xE.start {w0:World}:Calls prog 41 #[] w0 fun e w'=>∃ p,e= .returned (.pointer (some ⟨p,0,none⟩))∧xE w0 w' p []:=
 (ES w0).mono fun e w' ⟨p,he,h1,h2,h3⟩=>⟨p,he,_,h1,h2,by simp[d9],h3⟩
theorem xE.num {w0 w:World} {p:Nat} {l:List UInt8} (h:xE w0 w p l) (n:Int) (h0:0≤n) (h1:n<256) (hb:l.length≤1000000000):
 Calls prog 42 #[.pointer (some ⟨p,0,none⟩),.int .i64 1,.int .i64 n] w (UJ w0 p (l++l7 1 n.toNat)):=by
 obtain⟨v,a,b,c,d⟩:=h
 refine (OU p v _ 1 n w a hb).mono fun e w' hp=> ?_
 rw[wQ l h0 h1] at hp
 exact xE.step a b c d hp
theorem xE.count {w0 w:World} {p:Nat} {l:List UInt8} (h:xE w0 w p l) (n:Int) (h0:0≤n) (h1:n≤9007199254740991) (hb:l.length≤1000000000):
 Calls prog 43 #[.pointer (some ⟨p,0,none⟩),.int .i64 n] w (UJ w0 p (l++cb n.toNat)):=by
 obtain⟨v,a,b,c,d⟩:=h
 refine (yH p v _ n w a hb).mono fun e w' hp=> ?_
 rw[SG l h0 h1] at hp
 exact xE.step a b c d hp
theorem xE.raw {w0 w:World} {p:Nat} {l:List UInt8} (h:xE w0 w p l) (A:Option Addr) (g n c:Nat) (t:List UInt8) (hn:t.length=n) (hs:QA w A g t) (hb:l.length≤1000000000) (hb2:t.length≤1000000000):
 Calls prog 79 #[.pointer (some ⟨p,0,none⟩),.slice A n c] w (UJ w0 p (l++t)):=by
 subst hn
 obtain⟨v,a,b,d,k⟩:=h
 refine (uO p v _ A g c t w a hs (show l.length+t.length≤_ by omega)).mono fun e w' hp=> ?_
 rw[RP] at hp
 exact xE.step a b d k hp
theorem xE.text {w0 w:World} {p:Nat} {l:List UInt8} (h:xE w0 w p l) (A:Option Addr) (g n c:Nat) (t:List UInt8) (hn:t.length=n) (hs:QA w0 A g t) (hb:l.length≤1000000000) (hb2:t.length≤1000000000):
 Calls prog 49 #[.pointer (some ⟨p,0,none⟩),.slice A n c] w (UJ w0 p ((l++cb t.length)++t)):=by
 subst hn
 obtain⟨v,a,b,d,k⟩:=h
 have hg:t≠[]→g<w0.heap.size:=fun hne=>by obtain⟨o,_,h2,_⟩:=hs hne;exact h2
 refine (GL p v _ A g c t w a (hs.keep k (by simp)) (fun hne=>⟨fun e=>by have:=hg hne;omega,fun hm=>by have:=hg hne;have:=d g hm;omega⟩) hb hb2).mono fun e w' hp=> ?_
 rw[mI l t hb2] at hp
 exact xE.step a b d k hp
theorem xE.textNew {w0 wb w:World} {p:Nat} {l:List UInt8} (h:xE w0 wb p l) (hk:U1 [] wb w) (A:Option Addr) (g n c:Nat) (t:List UInt8) (hn:t.length=n) (hs:QA w A g t) (hg:t≠[]→wb.heap.size≤g) (hb:l.length≤1000000000) (hb2:t.length≤1000000000):
 Calls prog 49 #[.pointer (some ⟨p,0,none⟩),.slice A n c] w (UJ w0 p ((l++cb t.length)++t)):=by
 subst hn
 obtain⟨v,a,b,d,k⟩:=h
 have hp1:=a.1.lt
 have hp2:=a.2.lt
 refine (GL p v _ A g c t w (a.keep hk (by simp) (by simp)) hs (fun hne=>⟨fun e=>by have:=hg hne;omega,fun hm=>by have:=hg hne;have:=hp2 g hm;omega⟩) hb hb2).mono fun e w' hp=> ?_
 rw[mI l t hb2] at hp
 exact xE.step (a.keep hk (by simp) (by simp)) b d (k.then hk (by simp)) hp
def QD (w0:World) (l:List UInt8) (e:Ending) (w':World):Prop:=∃ v G,e= .returned (.tuple #[v,.int .i64 0])∧G7 w' G v l∧I9 w0 w' G∧U1 [] w0 w'
theorem xE.bytes {w0 w:World} {p:Nat} {l:List UInt8} (h:xE w0 w p l) (hb:l.length≤1000000000):
 Calls prog 50 #[.pointer (some ⟨p,0,none⟩)] w (QD w0 l):=by
 obtain⟨v,a,b,d,k⟩:=h
 refine (NP p v _ w a (show l.length≤_ by omega)).mono fun e w' hp=> ?_
 obtain⟨v',he,h1,h2,h3⟩:=hp
 have hl:(WS.mk l 0).bytes=l:=by simp[WS.bytes]
 rw[hl] at h1
 obtain⟨A3,c3,e3,h31,h32,h33,h34⟩:=h1.form
 subst e3
 obtain⟨g3,hg3⟩:=EA (.slice A3 l.length c3)
 have hks:=k.size
 refine⟨_,Z6 (.slice A3 l.length c3),he,⟨A3,c3,g3,rfl,h31,h32,MB.seenB (h34 g3 hg3),fun hne=> ?_⟩,fun y hy=>⟨by have:=h2 y hy;omega,h33 y hy⟩,k.then h3 (by simp)⟩
 obtain⟨o,hA,_⟩:=(h34 g3 hg3).2 (List.length_pos_iff.2 hne)
 rw[hA];simp[V8]
theorem GH {n:Int} (h1:n≤9007199254740991):(cb n.toNat).length≤8:=VF n.toNat (by unfold YF;omega)
theorem UE (n:Nat):(l7 1 n).length=1:=bF 1 n
def dE (r:RQ):List UInt8:=((((((([]++l7 1 r.client.toNat)++cb r.num.toNat)++l7 1 r.kind.toNat)++cb r.version.toNat)++r.name)++cb r.env.length)++r.env)
def UD (r:AN):List UInt8:=(((((((([]++l7 1 r.client.toNat)++cb r.num.toNat)++l7 1 r.code.toNat)++cb r.version.toNat)++l7 1 r.epoch.toNat)++r.name)++cb r.env.length)++r.env)
def wK:List Int→List UInt8
 |[]=>[]
 |n::r=>l7 1 n.toNat++wK r
def WE (c:CF):List UInt8:=((([]++cb c.num.toNat)++l7 1 c.full.toNat)++l7 1 c.chain.length)++wK c.chain
theorem RQ.ok_facts {r:RQ} (h:r.ok=true):(0≤r.client∧r.client≤2)∧(1≤r.num∧r.num≤9007199254740991)∧(1≤r.kind∧r.kind≤4)∧(0≤r.version∧r.version≤9007199254740991)∧r.env.length≤1024:=by
 unfold RQ.ok at h
 rw[Bool.and_eq_true,Bool.and_eq_true,EC,EC] at h
 obtain⟨h1,h2,h3⟩:=h
 refine⟨h1,h2,?_⟩
 split at h3
 ·rename_i hk
  simp at h3
  rw[h3.1,h3.2]
  simp;omega
 ·split at h3
  ·rename_i hk
   rw[Bool.and_eq_true,EC,EC] at h3
   omega
  ·split at h3
   ·rename_i hk
    rw[Bool.and_eq_true,Bool.and_eq_true,EC] at h3
    have:=h3.2.2
    simp at this
    rw[this]
    simp;omega
   ·cases h3
theorem AN.ok_facts {r:AN} (h:r.ok=true):(0≤r.client∧r.client≤2)∧(1≤r.num∧r.num≤9007199254740991)∧(0≤r.code∧r.code≤3)∧(0≤r.version∧r.version≤9007199254740991)∧(0≤r.epoch∧r.epoch≤255)∧r.env.length≤1024:=by
 unfold AN.ok at h
 simp only[Bool.and_eq_true,EC,decide_eq_true_eq] at h
 exact h
def sG (w w':World):Prop:=(∀ a k z,w.cell? a=some (.int k z)→∃ z',w'.cell? a=some (.int k z'))∧(∀ a v,w.cell? a=some v→(∀ k z,v≠ .int k z)→w'.cell? a=some v)
theorem sG.refl (w:World):sG w w:=⟨fun a k z h=>⟨z,h⟩,fun a v h _=>h⟩
theorem sG.set {w wx:World} (h:sG w wx) {a:Addr} {k:IntKind} {z:Int} (hz:wx.cell? a=some (.int k z)) (u:Int):sG w (wx.setCell a (.int k u)):=by
 refine⟨fun b k' z' hb=> ?_,fun b v hb hv=> ?_⟩
 ·obtain⟨z2,h2⟩:=h.1 b k' z' hb
  by_cases e:b=a
  ·subst e
   rw[hz] at h2
   injection h2 with h2
   injection h2 with h3 h4
   subst h3
   exact⟨u,World.cell?_setCell_same wx _ _ hz⟩
  ·exact⟨z2,by rw[World.cell?_setCell_other wx _ _ _ (fun q=>e q.symm)];exact h2⟩
 ·have h2:=h.2 b v hb hv
  by_cases e:b=a
  ·subst e
   rw[hz] at h2
   injection h2 with h2
   exact absurd h2.symm (hv k z)
  ·rw[World.cell?_setCell_other wx _ _ _ (fun q=>e q.symm)];exact h2
theorem sG.drew {w wx:World} (h:sG w wx):sG w wx.drew:=h
def aU (k:IntKind) (w:World) (A:Option Addr) (n:Nat) (G:List Nat):Prop:=0<n→∃ g o,A=some ⟨g,o,none⟩∧g∈G∧∀ j,j<n→∃ z,w.cell? ⟨g,o+j,none⟩=some (.int k z)
theorem G7.intsAt {w:World} {G:List Nat} {A:Option Addr} {n c:Nat} {l:List UInt8} (h:G7 w G (.slice A n c) l):aU .u8 w A n G:=fun hn=>by
 obtain⟨A',c',g,e,h2,h3,h5,h6⟩:=h
 injection e with e1 e2 e3
 subst e1 e2 e3
 have hl:l≠[]:=List.length_pos_iff.1 hn
 obtain⟨o,rfl,hg,hc⟩:=h5 hl
 exact⟨g,o,rfl,h6 hl,fun j hj=>⟨(l[j].toNat:Int),hc j _ (by simp[List.getElem?_eq_getElem hj])⟩⟩
theorem F8.intsAt {w:World} {G:List Nat} {A:Option Addr} {n c:Nat} {l:List Int} (h:F8 w G (.slice A n c) l):aU .i64 w A n G:=fun hn=>by
 obtain⟨A',c',g,e,h2,h3,h5,h6⟩:=h
 injection e with e1 e2 e3
 subst e1 e2 e3
 obtain⟨o,rfl,hg,hc⟩:=h5.2 hn
 exact⟨g,o,rfl,h6 (List.length_pos_iff.1 hn),fun j hj=>⟨l[j],hc j _ (by simp[List.getElem?_eq_getElem hj])⟩⟩
end Go.Proofs.YthfdkonhjpdflaaGreatDoor
