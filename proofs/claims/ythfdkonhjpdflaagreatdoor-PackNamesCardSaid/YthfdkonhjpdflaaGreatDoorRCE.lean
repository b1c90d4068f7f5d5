import Derived.Test.YthfdkonhjpdflaaGreatDoorRCA
import Derived.Test.YthfdkonhjpdflaaGreatDoorPkD
import Derived.Test.YthfdkonhjpdflaaGreatDoorRCD
namespace Go.Proofs.YthfdkonhjpdflaaGreatDoor
open Go.RowKit Go.Proofs.Tryz
set_option linter.unusedVariables false
set_option maxRecDepth 100000
set_option linter.unusedSimpArgs false
set_option maxHeartbeats 16000000
theorem fF (F:List Nat) (v:Value) (l:List UInt8) (w:World) (h:G7 w F v l) (hb:l.length≤140737488355328):
 Calls prog 27 #[v] w fun e w'=>∃ u G,e= .returned u∧G7 w' G u l∧I9 w w' G∧U1 [] w w':=by
 obtain⟨A,c,g,rfl,h2,h3,h4,h5⟩:=h
 obtain⟨i0,hi0,hz0,hz1,hz2⟩:=info_parts TH
 have H:=U0 (U2 (QA.reads h4) (qA.nil w 5 1))
 clear h4 h5 h3
 go_enter func27,ntmps27
 go_wp2_with (at_builtin;refine NA _ rfl _ _ 24 rfl 5 i0 (.int .u8 0) 1 1 underlying24 hi0 hz0 hz1 hz2 rfl (by decide) (.slice none 0 0) 0 [] rfl H.o.2 A g l.length c _ (by simp[Act.eval]) H.o.1 (by intro u hu;simp at hu;obtain⟨b,_,rfl⟩:=hu;rfl) (by omega) (by unfold maxLen;omega) ?_;intro A2 c2 w2 hown2 hkb2 hloc2)
 go_ret
 simp only[Nat.zero_add,List.nil_append] at hown2 hloc2 ⊢
 obtain⟨A3,c3,e3,h31,h32,h33,h34⟩:=hown2.form
 injection e3 with e3a e3b e3c
 subst e3a e3c
 obtain⟨g3,hg3⟩:=EA (.slice A2 l.length c2)
 refine⟨_,Z6 (.slice A2 l.length c2),rfl,⟨A2,c2,g3,rfl,h31,h32,MB.seenB (h34 g3 hg3),fun hne=> ?_⟩,fun y hy=>⟨?_,h33 y hy⟩,hkb2.more (by simp[d9])⟩
 ·obtain⟨o,hA,_⟩:=(h34 g3 hg3).2 (List.length_pos_iff.2 hne)
  rw[hA];simp[V8]
 ·rcases hloc2 y hy with h|h
  ·simp[d9] at h
  ·exact h
theorem bR (F:List Nat) (v:Value) (l:List Int) (w:World) (h:F8 w F v l) (hb:l.length≤17592186044416):
 Calls prog 137 #[v] w fun e w'=>∃ u G,e= .returned u∧F8 w' G u l∧I9 w w' G∧U1 [] w w':=by
 obtain⟨A,c,g,rfl,h2,h3,h4,h5⟩:=h
 obtain⟨i0,hi0,hz0,hz1,hz2⟩:=info_parts zN
 have H:=U0 (U2 h4 (qA.nil w 3 1))
 clear h4 h5 h3
 go_enter func137,ntmps137
 go_wp2_with (at_builtin;refine NA _ rfl _ _ 29 rfl 3 i0 (.int .i64 0) 1 8 underlying29 hi0 hz0 hz1 hz2 rfl (by decide) (.slice none 0 0) 0 [] rfl H.o.2 A g l.length c _ (by simp[Act.eval]) H.o.1 (by intro u hu;simp at hu;obtain⟨b,_,rfl⟩:=hu;rfl) (by omega) (by unfold maxLen;omega) ?_;intro A2 c2 w2 hown2 hkb2 hloc2)
 go_ret
 simp only[Nat.zero_add,List.nil_append] at hown2 hloc2 ⊢
 obtain⟨A3,c3,e3,h31,h32,h33,h34⟩:=hown2.form
 injection e3 with e3a e3b e3c
 subst e3a e3c
 obtain⟨g3,hg3⟩:=EA (.slice A2 l.length c2)
 refine⟨_,Z6 (.slice A2 l.length c2),rfl,⟨A2,c2,g3,rfl,h31,h32,h34 g3 hg3,fun hne=> ?_⟩,fun y hy=>⟨?_,h33 y hy⟩,hkb2.more (by simp[d9])⟩
 ·obtain⟨o,hA,_⟩:=(h34 g3 hg3).2 (List.length_pos_iff.2 hne)
  rw[hA];simp[V8]
 ·rcases hloc2 y hy with h|h
  ·simp[d9] at h
  ·exact h
theorem SK (F:List Nat) (c:CF) (cv:Value) (w:World) (h:F8 w F cv c.chain) (hb:c.chain.length≤17592186044416):
 Calls prog 87 #[.agg (bA c cv).toArray] w fun e w'=>∃ u G,e= .returned (.agg (bA c u).toArray)∧F8 w' G u c.chain∧I9 w w' G∧U1 [] w w':=by
 have hr0:=l5.new w 31 #[.int .i64 c.num,.int .i64 c.full,cv]
 have hr1:=l5.new (w.alloc (.cells #[.int .i64 c.num,.int .i64 c.full,cv] 31)) 31 #[.int .i64 0,.int .i64 0,.slice none 0 0]
 have hk0:=(U1.refl [] w).alloc (.cells #[.int .i64 c.num,.int .i64 c.full,cv] 31)
 have hk1:=(U1.refl [] (w.alloc (.cells #[.int .i64 c.num,.int .i64 c.full,cv] 31))).alloc (.cells #[.int .i64 0,.int .i64 0,.slice none 0 0] 31)
 have hr0':=hk1.row hr0 (by simp)
 have h':=(h.keep hk0 (by simp)).keep hk1 (by simp)
 have hk:=hk0.then hk1 (by simp)
 rw[World.size_alloc] at hr1
 obtain⟨A,cc,g,rfl,h2⟩:=h
 unfold bA
 generalize hW:(w.alloc (.cells #[.int .i64 c.num,.int .i64 c.full,.slice A c.chain.length cc] 31)).alloc (.cells #[.int .i64 0,.int .i64 0,.slice none 0 0] 31)=w1 at*
 have c2:w1.cell? ⟨w.heap.size,2,none⟩=some (.slice A c.chain.length cc):=hr0'.cell 2
 have H:=U0 (U2 hr0' (U2 hr1 (U2 h' hk)))
 have HW:=U0 hW
 clear hr0 hr1 hk0 hk1 hr0' h' hk hW h2
 go_enter func87,ntmps87
 go_upto_region 1 with fail
 rw[HW.o]
 go_wp2_with fail
 refine (bR F _ _ _ H.o.2.2.1 hb).mono ?_;rintro e w2 ⟨v,G,rfl,⟨A2,n2,g2,rfl,i2,i3,i5,i6⟩,hG,hk2⟩
 have r0:=hk2.row H.o.1 (by simp)
 have r1:=hk2.row H.o.2.1 (by simp)
 have a0:w2.cell? ⟨w.heap.size,0,none⟩=some (.int .i64 c.num):=r0.cell 0
 have a1:w2.cell? ⟨w.heap.size,1,none⟩=some (.int .i64 c.full):=r0.cell 1
 have a2:w2.cell? ⟨w.heap.size,2,none⟩=some (.slice A c.chain.length cc):=r0.cell 2
 have f2:w2.frozen? ⟨w.heap.size,2,none⟩=false:=r0.free 2
 have b0:w2.cell? ⟨w.heap.size+1,0,none⟩=some (.int .i64 0):=r1.cell 0
 have b1:w2.cell? ⟨w.heap.size+1,1,none⟩=some (.int .i64 0):=r1.cell 1
 have b2:w2.cell? ⟨w.heap.size+1,2,none⟩=some (.slice none 0 0):=r1.cell 2
 have e0:w2.frozen? ⟨w.heap.size+1,0,none⟩=false:=r1.free 0
 have e1:w2.frozen? ⟨w.heap.size+1,1,none⟩=false:=r1.free 1
 have e2:w2.frozen? ⟨w.heap.size+1,2,none⟩=false:=r1.free 2
 have hgg:=H.o.1.lt
 have H2:=U0 (U2 hG (U2 hk2 (U2 i2 (U2 i3 (U2 i5 i6)))))
 clear r0 r1 hG hk2 i2 i3 i5 i6 c2 hgg
 go_wp2
 refine bodyPost_ret (v:= .agg #[.int .i64 c.num,.int .i64 c.full,.slice A2 c.chain.length n2]) (by simp[results,Tryz.results87,go_sem, *]) rfl ?_
 obtain⟨hG,hk2,i2,i3,i5,i6⟩:=H2.o
 have hs1:=H.o.2.1.lt
 have k4:=((((U1.refl [w.heap.size,w.heap.size+1] w2).setCell ⟨w.heap.size,2,none⟩ (.slice A2 c.chain.length n2) (by simp)).setCell ⟨w.heap.size+1,0,none⟩ (.int .i64 c.num) (by simp)).setCell ⟨w.heap.size+1,1,none⟩ (.int .i64 c.full) (by simp)).setCell ⟨w.heap.size+1,2,none⟩ (.slice A2 c.chain.length n2) (by simp)
 have hh:F8 w2 G (.slice A2 c.chain.length n2) c.chain:=⟨A2,n2,g2,rfl,i2,i3,i5,i6⟩
 have hkk:=(H.o.2.2.2.then hk2 (by simp)).then k4 (by simp)
 refine⟨_,G,rfl,hh.keep k4 (fun y hy=> ?_),fun y hy=>⟨?_,Nat.lt_of_lt_of_le (hG y hy).2 k4.size⟩,hkk⟩
 ·have:=(hG y hy).1;simp;omega
 ·have:=(hG y hy).1;omega
structure XO (w:World) (l:List VT) (v:Value) (wx:World) (i:Nat) (T:List (VT × Value)) (G:List Nat):Prop where
 m:T.map (·.1)=l.take i
 n:T.length=i
 own:qA wx 69 4 v i (Z9 T)
 its:∀ t∈T,F8 wx G t.2 t.1.conf.chain
 kept:U1 [] w wx
 far:∀ y∈G,w.heap.size≤y∧y<wx.heap.size∧y∉Z6 v
 new:∀ x∈Z6 v,w.heap.size≤x
def YW (w:World) (l:List VT) (v3 v4:Value) (wx:World):Prop:=∃ (i:Nat) (T:List (VT × Value)) (G:List Nat),i≤l.length∧v4= .int .i64 (i:Int)∧XO w l v3 wx i T G
theorem IJ:∀ T U:List (VT × Value),Z9 (T++U)=Z9 T++Z9 U
 |[],_=>rfl
 |t::r,U=>by
  show oD t.1 t.2++Z9 (r++U)=(oD t.1 t.2++Z9 r)++Z9 U
  rw[IJ r U,List.append_assoc]
theorem XO.step {w wr w5 w7:World} {l:List VT} {v v7:Value} {i:Nat} {T:List (VT × Value)} {G G5:List Nat} {a:VT} {u:Value} (h:XO w l v wr i T G) (ha:l[i]? =some a)
 (k5:U1 [] wr w5) (hu:F8 w5 G5 u a.conf.chain) (hG:I9 wr w5 G5)
 (own7:qA w7 69 4 v7 (i+1) (Z9 T++oD a u)) (k7:U1 (Z6 v) (w5.alloc (.cells (oD a u).toArray 69)) w7)
 (h7:∀ x∈Z6 v7,x∈Z6 v∨(w5.alloc (.cells (oD a u).toArray 69)).heap.size≤x):XO w l v7 w7 (i+1) (T++[(a,u)]) (G++G5):=by
 have ka:=(U1.refl [] w5).alloc (.cells (oD a u).toArray 69)
 have s0:=h.kept.size
 have s5:=k5.size
 have s7:=k7.size
 rw[World.size_alloc] at s7 h7
 have hlt:=h.own.lt
 have kk:U1 (Z6 v) wr w7:=((k5.then ka (by simp)).more (by simp)).then k7 (fun x hx=> .inl hx)
 refine⟨by rw[List.map_append,h.m,List.take_add_one,ha];rfl,by rw[List.length_append,h.n];rfl,by rw[IJ];simpa[Z9] using own7,fun t ht=> ?_,h.kept.then kk (fun x hx=> .inr (h.new x hx)),fun y hy=> ?_,fun x hx=> ?_⟩
 ·rcases List.mem_append.1 ht with ht|ht
  ·exact ((h.its t ht).keep kk (fun y hy=>(h.far y hy).2.2)).more (fun y hy=>List.mem_append_left _ hy)
  ·simp only[List.mem_singleton] at ht
   subst ht
   exact ((hu.keep ka (by simp)).keep k7 (fun y hy hm=>by have:=hlt y hm;have:=(hG y hy).1;omega)).more (fun y hy=>List.mem_append_right _ hy)
 ·rcases List.mem_append.1 hy with hy|hy
  ·have f:=h.far y hy
   refine⟨f.1,by omega,fun hm=> ?_⟩
   rcases h7 y hm with h1|h1
   ·exact f.2.2 h1
   ·omega
  ·have g:=hG y hy
   refine⟨by omega,by omega,fun hm=> ?_⟩
   rcases h7 y hm with h1|h1
   ·have:=hlt y h1;omega
   ·omega
 ·rcases h7 x hx with h1|h1
  ·exact h.new x h1
  ·omega
theorem XO.done {w wx:World} {l:List VT} {v:Value} {T:List (VT × Value)} {G:List Nat} (h:XO w l v wx l.length T G):∃ G',xA wx G' v l∧I9 w wx G':=by
 obtain⟨A,c,rfl,h1,h2,h3,h4⟩:=h.own.form
 obtain⟨g,hg⟩:=EA (.slice A l.length c)
 refine⟨G++Z6 (.slice A l.length c),⟨A,c,g,T,rfl,h1,h2,by rw[h.m,List.take_length],h4 g hg,fun t ht=>(h.its t ht).more (fun y hy=>List.mem_append_left _ hy),fun hne=> ?_⟩,fun y hy=> ?_⟩
 ·obtain⟨o,hA,_⟩:=(h4 g hg).2 (List.length_pos_iff.2 hne)
  rw[hA];simp[V8]
 ·rcases List.mem_append.1 hy with hy|hy
  ·exact⟨(h.far y hy).1,(h.far y hy).2.1⟩
  ·exact⟨h.new y hy,h3 y hy⟩
theorem RO (F:List Nat) (l:List VT) (v:Value) (w:World) (h:xA w F v l) (hb:l.length≤2932031007402) (hcb:∀ v∈l,v.conf.chain.length≤17592186044416):
 Calls prog 88 #[v] w fun e w'=>∃ u G,e= .returned u∧xA w' G u l∧I9 w w' G∧U1 [] w w':=by
 obtain⟨A,c,gA,TA,rfl,_,hc,_⟩:=id h
 obtain⟨L,hL⟩:∃ L,l.length=L:=⟨_,rfl⟩
 have HA:=U0 h
 have HB:=U0 hcb
 have HS0:V5 (YW w l (.slice none 0 0) (.int .i64 0) w):=U0 ⟨0,[],[],by omega,rfl,by simp,rfl,qA.nil _ _ _,by simp,U1.refl _ _,by simp,by simp[d9]⟩
 rw[hL] at HA hb ⊢
 have HL:=U0 hL
 obtain⟨i0,hi0,hz0,hz1,hz2⟩:=info_parts jQ
 clear h hL hcb hc
 go_enter func88,ntmps88
 go_upto_region 3 with fail
 go_loopw [3,4] (fun v3 v4 wx=>YW w l v3 v4 wx) (fun _ v4 _=>L-(intOf v4).toNat)
 case atStart=>exact HS0.o
 case round=>
  obtain⟨i,T,G,hi,rfl,hI⟩:=hrel
  rw[HL.o] at hi
  by_cases hlt:i<L
  ·have hlt':(i:Int)<(L:Int):=by omega
   obtain⟨a,ha⟩:∃ a,l[i]? =some a:=⟨_,List.getElem?_eq_getElem (by rw[HL.o];omega)⟩
   obtain⟨g,o,cv,rfl,hgl,_,hcv,x0,x1,x2,x3⟩:=(HA.o.keep hI.kept (by simp)).at ha
   have hgw:g<w.heap.size:=by
    obtain⟨g2,o2,_,e2,h2,_⟩:=HA.o.at ha
    injection e2 with e2
    injection e2 with e2
    rw[e2];exact h2
   have hnh:g∉Z6 u3:=fun hm=>by have:=hI.new g hm;omega
   have hal:a.conf.chain.length≤17592186044416:=HB.o a (List.mem_of_getElem? ha)
   have HR:=U0 (U2 hI (U2 ha hcv))
   have hw1:IntKind.i64.wrap ((i:Int)+1)=(i:Int)+1:=by rw[IntKind.wrap_i64];omega
   clear hI ha hcv
   obtain⟨ab,an,af,al⟩:=a
   dsimp only at x0 x1 x2 x3 hal
   obtain⟨CA,cc,cg,rfl,_⟩:=id HR.o.2.2
   dsimp only at x3
   have HC:=U0 (SK F ⟨an,af,al⟩ _ wr.drew (HR.o.2.2.keep (U1.refl [] wr).drew (by simp)) hal)
   have HFO:=U0 HR.o.1.own.form
   go_upto_region 5 with fail
   go_region_held3 (fun w'=>w'.cell? ⟨g,o+i*4,none⟩=some (.int .i64 ab)∧w'.cell? ⟨g,o+i*4+1,none⟩=some (.int .i64 an)∧w'.cell? ⟨g,o+i*4+2,none⟩=some (.int .i64 af)∧w'.cell? ⟨g,o+i*4+3,none⟩=some (.slice CA al.length cc)) (first|exact⟨x0,x1,x2,x3⟩|exact⟨y0,y1,y2,y3⟩|exact⟨z0,z1,z2,z3⟩|exact⟨q0,q1,q2,q3⟩)
    (first
      |(go_at_call 87;refine HC.o.mono ?_;rintro e w5 ⟨u,G5,rfl,hu5,hG5,k5⟩;obtain⟨UA,uc,ug,rfl,_⟩:=id hu5;dsimp only[bA];have hkd:=((U1.refl [] wr).drew).then k5 (by simp);have y0:=(hkd.cell (p:=⟨g,o+i*4,none⟩) hgl (by simp)).trans x0;have y1:=(hkd.cell (p:=⟨g,o+i*4+1,none⟩) hgl (by simp)).trans x1;have y2:=(hkd.cell (p:=⟨g,o+i*4+2,none⟩) hgl (by simp)).trans x2;have y3:=(hkd.cell (p:=⟨g,o+i*4+3,none⟩) hgl (by simp)).trans x3;have hgl5:=Nat.lt_of_lt_of_le hgl hkd.size;have ka5:=(U1.refl [] w5).alloc (.cells #[.int .i64 ab,.int .i64 an,.int .i64 af,.slice UA al.length uc] 69);have z0:=(ka5.cell (p:=⟨g,o+i*4,none⟩) hgl5 (by simp)).trans y0;have z1:=(ka5.cell (p:=⟨g,o+i*4+1,none⟩) hgl5 (by simp)).trans y1;have z2:=(ka5.cell (p:=⟨g,o+i*4+2,none⟩) hgl5 (by simp)).trans y2;have z3:=(ka5.cell (p:=⟨g,o+i*4+3,none⟩) hgl5 (by simp)).trans y3;have hgl6:=Nat.lt_of_lt_of_le hgl5 ka5.size)
      |(refine oC _ rfl (.tmp 11) (.tmp 24) 32 rfl 69 i0 _ 4 48 underlying32 hi0 hz0 hz1 hz2 rfl (by decide) _ i (Z9 T) rfl ((HR.o.1.own.keep hkd (by simp)).keep ka5 (by simp)) (some ⟨w5.heap.size,0,none⟩) w5.heap.size 1 1 _ rfl (xL w5 69 [.int .i64 ab,.int .i64 an,.int .i64 af,.slice UA al.length uc]) (by intro u hu;simp at hu;rcases hu with rfl|rfl|rfl|rfl<;>rfl) (by omega) (by unfold maxLen;omega) ?_;intro A7 c7 w7 hown7 hkb7 hloc7;have q0:=(hkb7.cell (p:=⟨g,o+i*4,none⟩) hgl6 hnh).trans z0;have q1:=(hkb7.cell (p:=⟨g,o+i*4+1,none⟩) hgl6 hnh).trans z1;have q2:=(hkb7.cell (p:=⟨g,o+i*4+2,none⟩) hgl6 hnh).trans z2;have q3:=(hkb7.cell (p:=⟨g,o+i*4+3,none⟩) hgl6 hnh).trans z3))
   have HT:=U0 (HR.o.1.step (w5:=w5) (u:= .slice UA al.length uc) (a:=⟨ab,an,af,al⟩) HR.o.2.1 hkd hu5 hG5 hown7 hkb7 hloc7)
   clear hown7 hkb7 hloc7 q0 q1 q2 q3 z0 z1 z2 z3 y0 y1 y2 y3 x0 x1 x2 x3 hkd ka5 k5 hu5 hG5 hi0 hz0 hz1 hz2
   go_wp2_with fail
   go_roundw
   case rel=>exact⟨i+1,_,_,by rw[HL.o];omega,by go_num,HT.o⟩
   case measure=>simp[intOf];omega
  ·obtain rfl:i=L:=by omega
   have hI':XO w l u3 wr l.length T G:=by rw[HL.o];exact hI
   have HE:=U0 (U2 hI'.done hI'.kept)
   clear hI hI'
   go_wp2_with fail
   go_ret
   obtain⟨G',h1,h2⟩:=HE.o.1
   exact⟨_,G',rfl,h1,h2,HE.o.2⟩
theorem tL {a m m' r:List Value} {o:Nat} (ho:a.length=o) (h:m'.length=m.length):KA (a++(m++r)).toArray o m'=(a++(m'++r)).toArray:=by
 subst ho
 refine Array.ext_getElem? (fun i=> ?_)
 rw[KG _ _ _ _ (by simp only[U4,List.length_append];omega)]
 by_cases c:a.length≤i∧i<a.length+m'.length
 ·rw[if_pos c,List.getElem?_toArray,List.getElem?_append_right c.1,List.getElem?_append_left (by omega)]
 ·rw[if_neg c,List.getElem?_toArray,List.getElem?_toArray]
  by_cases d:i<a.length
  ·rw[List.getElem?_append_left d,List.getElem?_append_left d]
  ·rw[List.getElem?_append_right (by omega),List.getElem?_append_right (by omega),List.getElem?_append_right (by omega),List.getElem?_append_right (by omega),h]
theorem zR {p:PK} {ev av cv vv bw:Value} (h:p.req.name.length=32) (u:Value):KA (q8 p ev av cv vv bw).toArray 7 (U8 p.req u)=(q8 p u av cv vv bw).toArray:=
 tL (a:=[.int .i64 p.kind,.int .i64 p.frm,.int .i64 p.dst,.int .i64 p.num,.int .i64 p.seq,.int .i64 p.ballot,.bool p.ready]) (m:=U8 p.req ev) rfl (by rw[O8 h,O8 h])
theorem yR {p:PK} {ev av cv vv bw:Value} (h:p.req.name.length=32) (h':p.ans.name.length=32) (u:Value):KA (q8 p ev av cv vv bw).toArray 44 (x9 p.ans u)=(q8 p ev u cv vv bw).toArray:=by
 have e:∀ v,q8 p ev v cv vv bw=([.int .i64 p.kind,.int .i64 p.frm,.int .i64 p.dst,.int .i64 p.num,.int .i64 p.seq,.int .i64 p.ballot,.bool p.ready]++U8 p.req ev)++(x9 p.ans v++(bA p.conf cv++[vv,bw])):=fun v=>by simp[q8]
 rw[e,e]
 exact tL (by simp[O8 h]) (by rw[y9 h',y9 h'])
theorem fO {r:RQ} {ev:Value} (h:r.name.length=32) (u:Value):(U8 r ev).toArray.setIfInBounds 36 u=(U8 r u).toArray:=by
 rw[mD (l:=U8 r ev) (a:=[.int .i64 r.client,.int .i64 r.num,.int .i64 r.kind,.int .i64 r.version]++U7 r.name) (x:=ev) (b:=[]) (k:=36) (by simp[U8]) (by simp[A8,h]) u]
 simp[U8]
theorem wM {r:AN} {ev:Value} (h:r.name.length=32) (u:Value):(x9 r ev).toArray.setIfInBounds 37 u=(x9 r u).toArray:=by
 rw[mD (l:=x9 r ev) (a:=[.int .i64 r.client,.int .i64 r.num,.int .i64 r.code,.int .i64 r.version,.int .i64 r.epoch]++U7 r.name) (x:=ev) (b:=[]) (k:=37) (by simp[x9]) (by simp[A8,h]) u]
 simp[x9]
theorem zv_rqC:(prog.info? 26).bind (·.zero)=some (.agg (U8 I7 I4).toArray):=by kernel_rfl
theorem zv_anC:(prog.info? 28).bind (·.zero)=some (.agg (x9 l8 I4).toArray):=by kernel_rfl
theorem NH.put {w a:World} {g:Nat} {p:PK} {ev av cv vv bw ev' av':Value} (h:NH w a g p ev av cv vv bw) (hg:w.heap.size≤g) (k:Nat) (l:List Value) (he:KA (q8 p ev av cv vv bw).toArray k l=(q8 p ev' av' cv vv bw).toArray):
 NH w (a.setCells g k l) g p ev' av' cv vv bw:=
 ⟨by rw[←he];exact h.row.setL,(((U1.refl [g] a).setL (.inl (by simp))).row h.res (by simp)),h.kp.setL (.inr hg)⟩
theorem aN.keepS {S:List Nat} {b:Nat} {W W':World} {G:List Nat} {v:Value} {l:List UInt8} (h:aN b W G v l) (hk:U1 S W W') (hS:∀ y∈G,y∉S):aN b W' G v l:=⟨h.1.keep hk hS,h.2.keep hk⟩
theorem copyD (F:List Nat) (p:PK) (ev av cv vv bw:Value) (w:World) (h:wD w F p ev av cv vv bw) (hf:p.fits):
 Calls prog 23 #[.agg (q8 p ev av cv vv bw).toArray] w (XM p w):=by
 have k1:=(U1.refl [] w).alloc (.cells (q8 p ev av cv vv bw).toArray 34)
 have r1:=l5.new w 34 (q8 p ev av cv vv bw).toArray
 have hs1:(w.alloc (.cells (q8 p ev av cv vv bw).toArray 34)).heap.size=w.heap.size+1:=World.size_alloc _ _
 obtain⟨w1,hw1⟩:∃ w1,w.alloc (.cells (q8 p ev av cv vv bw).toArray 34)=w1:=⟨_,rfl⟩
 rw[hw1] at k1 r1 hs1
 have k2:=(U1.refl [] w1).alloc (.cells Tryz.zeroCells34 34)
 have r2:=l5.new w1 34 Tryz.zeroCells34
 have r1':=k2.row r1 (by simp)
 rw[hs1] at r2
 have k12:=k1.then k2 (by simp)
 have hrn:=h.rn
 have han:=h.an
 have HW:=U0 hw1
 have hv:=U0 h
 obtain⟨A0,c0,g0,rfl,_⟩:=id h.re
 obtain⟨A1,c1,g1,rfl,_⟩:=id h.ae
 obtain⟨A2,c2,g2,rfl,_⟩:=id h.cc
 obtain⟨A3,c3,g3,T3,rfl,_⟩:=id h.vs
 obtain⟨A4,c4,g4,rfl,_⟩:=id h.bs
 have HN:=U0 (U2 hrn han)
 clear hw1 k1 r1 k2 h
 go_enter func23,ntmps23
 go_upto_region 1 with (first
  |(with_reducible refine Z4 _ _ rfl 34 (.tmp 0) rfl _ rfl HW.o ?_))
 obtain⟨w2,hw2⟩:∃ w2,w1.alloc (.cells Tryz.zeroCells34 34)=w2:=⟨_,rfl⟩
 rw[hw2] at r1' r2 k12 ⊢
 have C0:V5 (NH w w2 w.heap.size p _ _ _ _ _):=U0 ⟨r1',r2,k12⟩
 obtain⟨b,hb⟩:∃ b,w.heap.size=b:=⟨_,rfl⟩
 have hbl:w.heap.size≤b:=by omega
 rw[hb] at C0 ⊢
 have HB:=U0 (U2 hb hbl)
 clear hw2 r1' r2 k12 HW hs1 hb hbl
 obtain⟨Z0,hZ0⟩:∃ Z,U8 I7 I4=Z:=⟨_,rfl⟩
 obtain⟨X0,hX0⟩:∃ X,U8 p.req (.slice A0 p.req.env.length c0)=X:=⟨_,rfl⟩
 have HZ0:=U0 (show (prog.info? 26).bind (·.zero)=some (.agg Z0.toArray)∧X0.length=Z0.length∧X0.length=37∧(∀ u∈X0,u.oneCell'=true) by rw[←hZ0,←hX0];exact⟨zv_rqC,by rw[O8 hrn,O8 j6],O8 hrn,fB _ rfl⟩)
 have HI0:=U0 (show (prog.info? 26).map (·.size)=some X0.length by rw[HZ0.o.2.2.1];exact D9)
 have HQ0:=U0 (show w2.rangeAt b 7 X0 by rw[←hX0];exact (C0.o.row.pk hrn han).rq)
 have hst:=qC (w:=w2) (t:=26) HZ0.o.2.1
 have hth:=aB (w:=w2) (t:=26) HZ0.o.2.1
 obtain⟨q0,hq0⟩:∃ q,w2.heap.size=q:=⟨_,rfl⟩
 obtain⟨wa0,hwa0⟩:∃ q,w2.alloc (.cells Z0.toArray 26)=q:=⟨_,rfl⟩
 rw[hwa0,hq0] at hst hth
 have HTH0:=U0 (U2 hth (U2 hwa0 hq0))
 obtain⟨wb0,hwb0⟩:∃ q,wa0.setCells q0 0 X0=q:=⟨_,rfl⟩
 rw[hwb0] at hst
 have HWB0:=U0 hwb0
 have CQ0:=U0 (U2 hst.1 (U2 (C0.o.over hst.2) (by have:=C0.o.row.lt;have:=C0.o.res.lt;exact (⟨by omega,by omega⟩:q0≠b∧q0≠b+1))))
 have hb0:b+1<q0:=by have:=C0.o.res.lt;omega
 have HBQ0:=U0 hb0
 clear hZ0 hst hth hwa0 hwb0 hb0
 go_upto_region 2 with (first
  |(refine wpList_load_mid rfl 26 (.tmp 5) rfl b 7 rfl X0 _ HQ0.o underlying26 rfl HI0.o ?_)
  |(with_reducible refine F5 _ _ rfl 26 rfl _ HZ0.o.1 HTH0.o.2.1 ?_)
  |(simp only[hq0];refine wpList_store_mid rfl 26 (.tmp 3) (.tmp 6) rfl q0 0 X0.toArray rfl rfl (by rw[U4];exact HTH0.o.1) (by rw[U4];exact HI0.o) (all_oneCell_toArray HZ0.o.2.2.2) ?_))
 rw[HWB0.o]
 have xe:wb0.cell? ⟨q0,36,none⟩=some (.slice A0 p.req.env.length c0):=by rw[CQ0.o.1.cell,←hX0];exact WC hrn
 go_upto_region 3 with (first
  |(go_at_call 27;refine (fF F _ p.req.env _ (hv.o.re.keep CQ0.o.2.1.kp (by simp)) hf.e).mono ?_;rintro e wc0 ⟨u0,G0,rfl,⟨B0,d0,e0,rfl,i0⟩,n0,kk0⟩;have CR0:=U0 (U2 (kk0.row CQ0.o.1 (by simp)) (CQ0.o.2.1.over kk0));have ye:wc0.cell? ⟨q0,36,none⟩=some (.slice A0 p.req.env.length c0):=(kk0.cell (p:=⟨q0,36,none⟩) CQ0.o.1.lt (by simp)).trans xe;have fe:=CR0.o.1.free 36;have EB0:V5 (aN b wc0 G0 (.slice B0 p.req.env.length d0) p.req.env∧(∀ y∈G0,y≠q0)):=U0 ⟨⟨⟨B0,d0,e0,rfl,i0⟩,VD.of n0 CQ0.o.2.1.res.lt⟩,fun y hy=>by have:=(n0 y hy).1;have:=CQ0.o.1.lt;omega⟩;clear i0 n0 kk0 xe))
 have ks:=(U1.refl [q0] wc0).setCell ⟨q0,36,none⟩ (.slice B0 p.req.env.length d0) (.inl (by simp))
 have CS0:=U0 (show l5 (wc0.setCell ⟨q0,36,none⟩ (.slice B0 p.req.env.length d0)) q0 26 (U8 p.req (.slice B0 p.req.env.length d0)).toArray from (by have hh:=CR0.o.1;rw[←hX0] at hh;have h2:=hh.set 36 (.slice B0 p.req.env.length d0);rw[fO hrn] at h2;exact h2))
 have CT0:=U0 (show NH w (wc0.setCell ⟨q0,36,none⟩ (.slice B0 p.req.env.length d0)) b p _ _ _ _ _ from⟨ks.row CR0.o.2.row (by have:=HBQ0.o;simp;omega),ks.row CR0.o.2.res (by have:=HBQ0.o;simp;omega),CR0.o.2.kp.setCell _ _ (.inr (by have:=HBQ0.o;have:=HB.o.2;show w.heap.size≤q0;omega))⟩)
 have EC0:=U0 (EB0.o.1.keepS ks (fun y hy=>by have:=EB0.o.2 y hy;simpa using this))
 obtain⟨wd0,hwd0⟩:∃ q,wc0.setCell ⟨q0,36,none⟩ (.slice B0 p.req.env.length d0)=q:=⟨_,rfl⟩
 rw[hwd0] at CS0 CT0 EC0 ⊢
 obtain⟨Y0,hY0⟩:∃ X,U8 p.req (.slice B0 p.req.env.length d0)=X:=⟨_,rfl⟩
 rw[hY0] at CS0
 have HY0:=U0 (show Y0.length=37∧(∀ u∈Y0,u.oneCell'=true) by rw[←hY0];exact⟨O8 hrn,fB _ rfl⟩)
 have HJ0:=U0 (show (prog.info? 26).map (·.size)=some Y0.length by rw[HY0.o.1];exact D9)
 have HTB0:=U0 (CT0.o.row.there (o:=7) (n:=Y0.length) (by rw[HY0.o.1,U4,G8 hrn han];decide))
 clear hX0 hwd0 ks ye fe CR0 EB0 CQ0 hq0
 go_upto_region 4 with (first
  |(refine wpList_load_mid rfl 26 (.tmp 3) rfl q0 0 rfl Y0 _ CS0.o.rangeAll underlying26 rfl HJ0.o ?_)
  |(refine wpList_store_mid rfl 26 (.tmp 12) (.tmp 11) rfl b 7 Y0.toArray rfl rfl (by rw[U4];exact HTB0.o) (by rw[U4];exact HJ0.o) (all_oneCell_toArray HY0.o.2) ?_))
 have D0:=U0 (CT0.o.put HB.o.2 7 Y0 (by rw[←hY0];exact zR hrn _))
 have kz:U1 [b] wd0 (wd0.setCells b 7 Y0):=(U1.refl [b] wd0).setL (.inl (by simp))
 have E0:=U0 (EC0.o.keep kz)
 obtain⟨we0,hwe0⟩:∃ q,wd0.setCells b 7 Y0=q:=⟨_,rfl⟩
 rw[hwe0] at D0 E0 ⊢
 clear hY0 kz hwe0 CS0 CT0 EC0 HTB0
 obtain⟨Z1,hZ1⟩:∃ Z,x9 l8 I4=Z:=⟨_,rfl⟩
 obtain⟨X1,hX1⟩:∃ X,x9 p.ans (.slice A1 p.ans.env.length c1)=X:=⟨_,rfl⟩
 have HZ1:=U0 (show (prog.info? 28).bind (·.zero)=some (.agg Z1.toArray)∧X1.length=Z1.length∧X1.length=38∧(∀ u∈X1,u.oneCell'=true) by rw[←hZ1,←hX1];exact⟨zv_anC,by rw[y9 han,y9 F6],y9 han,IB _ rfl⟩)
 have HI1:=U0 (show (prog.info? 28).map (·.size)=some X1.length by rw[HZ1.o.2.2.1];exact Q9)
 have HQ1:=U0 (show we0.rangeAt b 44 X1 by rw[←hX1];exact (D0.o.row.pk hrn han).an)
 have hst:=qC (w:=we0) (t:=28) HZ1.o.2.1
 have hth:=aB (w:=we0) (t:=28) HZ1.o.2.1
 obtain⟨q1,hq1⟩:∃ q,we0.heap.size=q:=⟨_,rfl⟩
 obtain⟨wa1,hwa1⟩:∃ q,we0.alloc (.cells Z1.toArray 28)=q:=⟨_,rfl⟩
 rw[hwa1,hq1] at hst hth
 have HTH1:=U0 (U2 hth (U2 hwa1 hq1))
 obtain⟨wb1,hwb1⟩:∃ q,wa1.setCells q1 0 X1=q:=⟨_,rfl⟩
 rw[hwb1] at hst
 have HWB1:=U0 hwb1
 have CQ1:=U0 (U2 hst.1 (U2 (D0.o.over hst.2) (by have:=D0.o.row.lt;have:=D0.o.res.lt;exact (⟨by omega,by omega⟩:q1≠b∧q1≠b+1))))
 have Ea:=U0 (E0.o.over hst.2)
 have hb1:b+1<q1:=by have:=D0.o.res.lt;omega
 have HBQ1:=U0 hb1
 clear hZ1 hst hth hwa1 hwb1 hb1
 go_upto_region 5 with (first
  |(refine wpList_load_mid rfl 28 (.tmp 13) rfl b 44 rfl X1 _ HQ1.o underlying28 rfl HI1.o ?_)
  |(with_reducible refine F5 _ _ rfl 28 rfl _ HZ1.o.1 HTH1.o.2.1 ?_)
  |(simp only[hq1];refine wpList_store_mid rfl 28 (.tmp 4) (.tmp 14) rfl q1 0 X1.toArray rfl rfl (by rw[U4];exact HTH1.o.1) (by rw[U4];exact HI1.o) (all_oneCell_toArray HZ1.o.2.2.2) ?_))
 rw[HWB1.o]
 have xe:wb1.cell? ⟨q1,37,none⟩=some (.slice A1 p.ans.env.length c1):=by rw[CQ1.o.1.cell,←hX1];exact VC han
 go_upto_region 6 with (first
  |(go_at_call 27;refine (fF F _ p.ans.env _ (hv.o.ae.keep CQ1.o.2.1.kp (by simp)) hf.a).mono ?_;rintro e wc1 ⟨u0,G1,rfl,⟨B1,d1,e1,rfl,i0⟩,n0,kk0⟩;have CR1:=U0 (U2 (kk0.row CQ1.o.1 (by simp)) (CQ1.o.2.1.over kk0));have ye:wc1.cell? ⟨q1,37,none⟩=some (.slice A1 p.ans.env.length c1):=(kk0.cell (p:=⟨q1,37,none⟩) CQ1.o.1.lt (by simp)).trans xe;have fe:=CR1.o.1.free 37;have EB1:V5 (aN b wc1 G1 (.slice B1 p.ans.env.length d1) p.ans.env∧(∀ y∈G1,y≠q1)):=U0 ⟨⟨⟨B1,d1,e1,rfl,i0⟩,VD.of n0 CQ1.o.2.1.res.lt⟩,fun y hy=>by have:=(n0 y hy).1;have:=CQ1.o.1.lt;omega⟩;have Eb:=U0 (Ea.o.over kk0);clear i0 n0 kk0 xe))
 have ks:=(U1.refl [q1] wc1).setCell ⟨q1,37,none⟩ (.slice B1 p.ans.env.length d1) (.inl (by simp))
 have CS1:=U0 (show l5 (wc1.setCell ⟨q1,37,none⟩ (.slice B1 p.ans.env.length d1)) q1 28 (x9 p.ans (.slice B1 p.ans.env.length d1)).toArray from (by have hh:=CR1.o.1;rw[←hX1] at hh;have h2:=hh.set 37 (.slice B1 p.ans.env.length d1);rw[wM han] at h2;exact h2))
 have CT1:=U0 (show NH w (wc1.setCell ⟨q1,37,none⟩ (.slice B1 p.ans.env.length d1)) b p _ _ _ _ _ from⟨ks.row CR1.o.2.row (by have:=HBQ1.o;simp;omega),ks.row CR1.o.2.res (by have:=HBQ1.o;simp;omega),CR1.o.2.kp.setCell _ _ (.inr (by have:=HBQ1.o;have:=HB.o.2;show w.heap.size≤q1;omega))⟩)
 have EC1:=U0 (EB1.o.1.keepS ks (fun y hy=>by have:=EB1.o.2 y hy;simpa using this))
 have Ec:=U0 (Eb.o.keepS ks (fun y hy=>by have:=(E0.o.2 y hy).2;have:=HTH1.o.2.2;simp;omega))
 obtain⟨wd1,hwd1⟩:∃ q,wc1.setCell ⟨q1,37,none⟩ (.slice B1 p.ans.env.length d1)=q:=⟨_,rfl⟩
 rw[hwd1] at CS1 CT1 EC1 Ec ⊢
 obtain⟨Y1,hY1⟩:∃ X,x9 p.ans (.slice B1 p.ans.env.length d1)=X:=⟨_,rfl⟩
 rw[hY1] at CS1
 have HY1:=U0 (show Y1.length=38∧(∀ u∈Y1,u.oneCell'=true) by rw[←hY1];exact⟨y9 han,IB _ rfl⟩)
 have HJ1:=U0 (show (prog.info? 28).map (·.size)=some Y1.length by rw[HY1.o.1];exact Q9)
 have HTB1:=U0 (CT1.o.row.there (o:=44) (n:=Y1.length) (by rw[HY1.o.1,U4,G8 hrn han];decide))
 clear hX1 hwd1 ks ye fe CR1 EB1 CQ1 hq1 Eb Ea
 go_upto_region 7 with (first
  |(refine wpList_load_mid rfl 28 (.tmp 4) rfl q1 0 rfl Y1 _ CS1.o.rangeAll underlying28 rfl HJ1.o ?_)
  |(refine wpList_store_mid rfl 28 (.tmp 20) (.tmp 19) rfl b 44 Y1.toArray rfl rfl (by rw[U4];exact HTB1.o) (by rw[U4];exact HJ1.o) (all_oneCell_toArray HY1.o.2) ?_))
 have D1:=U0 (CT1.o.put HB.o.2 44 Y1 (by rw[←hY1];exact yR hrn han _))
 have kz:U1 [b] wd1 (wd1.setCells b 44 Y1):=(U1.refl [b] wd1).setL (.inl (by simp))
 have E1:=U0 (EC1.o.keep kz)
 have Ed:=U0 (Ec.o.keep kz)
 obtain⟨we1,hwe1⟩:∃ q,wd1.setCells b 44 Y1=q:=⟨_,rfl⟩
 rw[hwe1] at D1 E1 Ed ⊢
 clear hY1 kz hwe1 CS1 CT1 EC1 HTB1 Ec
 have P2:=D1.o.row.pk hrn han
 have x82:=P2.d0
 have x83:=P2.d1
 have x84:=P2.d2
 clear P2
 go_upto_region 8 with (first
  |(go_at_call 87;refine (SK F p.conf _ _ (hv.o.cc.keep D1.o.kp (by simp)) hf.c).mono ?_;rintro e w7 ⟨u0,G2,rfl,⟨B2,d2,q2,rfl,i0⟩,n0,kk0⟩;dsimp only[bA];have C1:=U0 (D1.o.over kk0);have P3:=C1.o.row.pk hrn han;have y82:=P3.d0;have y83:=P3.d1;have y84:=P3.d2;have f82:=C1.o.row.free 82;have f83:=C1.o.row.free 83;have f84:=C1.o.row.free 84;have E4:=U0 (U2 (Ed.o.over kk0) (E1.o.over kk0));have F4:V5 (sV b w7 G2 _ p.conf.chain):=U0 ⟨⟨B2,d2,q2,rfl,i0⟩,VD.of n0 D1.o.res.lt⟩;clear i0 n0 kk0 x82 x83 x84 P3))
 have D3:=U0 (((C1.o.set HB.o.2 82 _ (bC hrn han (.int .i64 0)).1).set HB.o.2 83 _ (bC hrn han (.int .i64 0)).2.1).set HB.o.2 84 (.slice B2 p.conf.chain.length d2) (bC hrn han _).2.2.1)
 have kc:=((xC w7 b 82 (.int .i64 p.conf.num)).setCell ⟨b,83,none⟩ (.int .i64 p.conf.full) (.inl (by simp))).setCell ⟨b,84,none⟩ (.slice B2 p.conf.chain.length d2) (.inl (by simp))
 have E5:=U0 (U2 (E4.o.1.keep kc) (U2 (E4.o.2.keep kc) (F4.o.keep kc)))
 obtain⟨w8,hw8⟩:∃ w8,((w7.setCell ⟨b,82,none⟩ (.int .i64 p.conf.num)).setCell ⟨b,83,none⟩ (.int .i64 p.conf.full)).setCell ⟨b,84,none⟩ (.slice B2 p.conf.chain.length d2)=w8:=⟨_,rfl⟩
 rw[hw8] at D3 E5 ⊢
 clear hw8 kc E4 F4 E1 Ed C1 y82 y83 y84 f82 f83 f84 D1
 have x85:=(D3.o.row.pk hrn han).d3
 go_upto_region 9 with (first
  |(go_at_call 88;refine (RO F p.votes _ _ (hv.o.vs.keep D3.o.kp (by simp)) hf.v hf.vc).mono ?_;rintro e w9 ⟨u0,G3,rfl,⟨V,cV,gV,TV,rfl,i0⟩,n0,kk0⟩;have C1:=U0 (D3.o.over kk0);have y85:=(C1.o.row.pk hrn han).d3;have f85:=C1.o.row.free 85;have E6:=U0 (U2 (E5.o.1.over kk0) (U2 (E5.o.2.1.over kk0) (E5.o.2.2.over kk0)));have V6:V5 (xA w9 G3 (.slice V p.votes.length cV) p.votes∧VD b w9 G3):=U0 ⟨⟨V,cV,gV,TV,rfl,i0⟩,VD.of n0 D3.o.res.lt⟩;clear i0 n0 kk0 x85))
 have D4:=U0 (C1.o.set HB.o.2 85 (.slice V p.votes.length cV) (bC hrn han _).2.2.2.1)
 have k9:=xC w9 b 85 (.slice V p.votes.length cV)
 have E7:=U0 (U2 (E6.o.1.keep k9) (U2 (E6.o.2.1.keep k9) (U2 (E6.o.2.2.keep k9) (U2 (V6.o.1.keep k9 V6.o.2.far) (V6.o.2.keep k9)))))
 obtain⟨wA,hwA⟩:∃ wA,w9.setCell ⟨b,85,none⟩ (.slice V p.votes.length cV)=wA:=⟨_,rfl⟩
 rw[hwA] at D4 E7 ⊢
 clear hwA k9 y85 f85 C1 E6 V6 E5 D3
 have x86:=(D4.o.row.pk hrn han).d4
 go_upto_region 10 with (first
  |(go_at_call 27;refine (fF F _ p.bytes _ (hv.o.bs.keep D4.o.kp (by simp)) hf.b).mono ?_;rintro e wB ⟨u0,G4,rfl,⟨B4,d4,q4,rfl,i0⟩,n0,kk0⟩;have C1:=U0 (D4.o.over kk0);have y86:=(C1.o.row.pk hrn han).d4;have f86:=C1.o.row.free 86;have E8:=U0 (U2 (E7.o.1.over kk0) (U2 (E7.o.2.1.over kk0) (U2 (E7.o.2.2.1.over kk0) (U2 (E7.o.2.2.2.1.keep kk0 (by simp)) (E7.o.2.2.2.2.keep kk0)))));have F9:V5 (aN b wB G4 _ p.bytes):=U0 ⟨⟨B4,d4,q4,rfl,i0⟩,VD.of n0 D4.o.res.lt⟩;clear i0 n0 kk0 x86))
 have D6:=U0 (C1.o.set HB.o.2 86 (.slice B4 p.bytes.length d4) (bC hrn han (.slice B4 p.bytes.length d4)).2.2.2.2)
 have kz:=xC wB b 86 (.slice B4 p.bytes.length d4)
 have EZ:=U0 (U2 (E8.o.1.keep kz) (U2 (E8.o.2.1.keep kz) (U2 (E8.o.2.2.1.keep kz) (U2 (F9.o.keep kz) (U2 (E8.o.2.2.2.1.keep kz E8.o.2.2.2.2.far) (E8.o.2.2.2.2.keep kz))))))
 obtain⟨wZ,hwZ⟩:∃ wZ,wB.setCell ⟨b,86,none⟩ (.slice B4 p.bytes.length d4)=wZ:=⟨_,rfl⟩
 rw[hwZ] at D6 EZ ⊢
 clear hwZ kz y86 f86 C1 E8 F9 E7 D4
 obtain⟨X,hX⟩:∃ X,q8 p (.slice B0 p.req.env.length d0) (.slice B1 p.ans.env.length d1) (.slice B2 p.conf.chain.length d2) (.slice V p.votes.length cV) (.slice B4 p.bytes.length d4)=X:=⟨_,rfl⟩
 have hlen:X.length=87:=by rw[←hX];exact G8 hrn han
 have hone:∀ u∈X,u.oneCell'=true:=by rw[←hX];exact yA rfl rfl rfl rfl rfl
 have hrow:=D6.o.row
 rw[hX] at hrow
 have rz:=hrow.rangeAll
 have rs:=D6.o.res.setL (vs:=X) (o:=0)
 rw[F7 (by rw[hlen];rfl)] at rs
 have ks:=(U1.refl [b+1] wZ).setL (vs:=X) (g:=b+1) (o:=0) (by simp)
 have ks':=D6.o.kp.setL (vs:=X) (g:=b+1) (o:=0) (.inr (by have:=HB.o.1;omega))
 have ht:=D6.o.res.there (o:=0) (n:=X.toArray.size) (by rw[U4,hlen];exact Nat.le_refl _)
 have hI:(prog.info? 34).map (·.size)=some X.length:=by rw[hlen];exact I5
 have hJ:(prog.info? 34).map (·.size)=some X.toArray.size:=by rw[U4];exact hI
 have HS:=U0 (U2 rz (U2 rs (U2 ks (U2 ht (U2 hI (U2 hJ ks'))))))
 have HC:=U0 (all_oneCell_toArray hone)
 have HX:=U0 hX
 clear rz rs ks ht hI hJ hlen hone ks' hX hrow
 go_wp2_with (first
  |(refine wpList_load_mid rfl 34 (.tmp 1) rfl b 0 rfl X _ HS.o.1 underlying34 rfl HS.o.2.2.2.2.1 ?_)
  |(refine wpList_store_mid rfl 34 (.tmp 2) (.tmp 33) rfl (b+1) 0 X.toArray rfl rfl HS.o.2.2.2.1 HS.o.2.2.2.2.2.1 HC.o ?_))
 refine bodyPost_ret (results_cell_row rfl _ _ (b+1) 34 _ (0,0) _ rfl HS.o.2.1 underlying34 rfl HS.o.2.2.2.2.2.1) rfl ?_
 have hfarS:∀ G,VD b wZ G→∀ y∈G,y∉[b+1]:=fun G hG y hy=>by have:=(hG y hy).1;simp;omega
 refine⟨G0++(G1++(G2++(G3++G4))),_,_,_,_,_,by rw[←HX.o],⟨hrn,han,?_,?_,?_,?_,?_⟩,?_,HS.o.2.2.2.2.2.2⟩
 ·exact (EZ.o.1.1.keep HS.o.2.2.1 (hfarS _ EZ.o.1.2)).more (fun y hy=>by simp[hy])
 ·exact (EZ.o.2.1.1.keep HS.o.2.2.1 (hfarS _ EZ.o.2.1.2)).more (fun y hy=>by simp[hy])
 ·exact (EZ.o.2.2.1.1.keep HS.o.2.2.1 (hfarS _ EZ.o.2.2.1.2)).more (fun y hy=>by simp[hy])
 ·exact (EZ.o.2.2.2.2.1.keep HS.o.2.2.1 (hfarS _ EZ.o.2.2.2.2.2)).more (fun y hy=>by simp[hy])
 ·exact (EZ.o.2.2.2.1.1.keep HS.o.2.2.1 (hfarS _ EZ.o.2.2.2.1.2)).more (fun y hy=>by simp[hy])
 ·have hall:VD b wZ (G0++(G1++(G2++(G3++G4)))):=fun y hy=>by
   rcases List.mem_append.1 hy with hy|hy
   ·exact EZ.o.1.2 y hy
   rcases List.mem_append.1 hy with hy|hy
   ·exact EZ.o.2.1.2 y hy
   rcases List.mem_append.1 hy with hy|hy
   ·exact EZ.o.2.2.1.2 y hy
   rcases List.mem_append.1 hy with hy|hy
   ·exact EZ.o.2.2.2.2.2 y hy
   ·exact EZ.o.2.2.2.1.2 y hy
  exact fun y hy=>⟨by have:=(hall y hy).1;have:=HB.o.1;omega,Nat.lt_of_lt_of_le (hall y hy).2 HS.o.2.2.1.size⟩
end Go.Proofs.YthfdkonhjpdflaaGreatDoor
