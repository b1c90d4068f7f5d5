import Derived.Test.YthfdkonhjpdflaaGreatDoorPk25
import Derived.Test.YthfdkonhjpdflaaGreatDoorRWide
namespace Go.Proofs.YthfdkonhjpdflaaGreatDoor
open Go.RowKit Go.Proofs.Tryz
set_option linter.unusedVariables false
set_option maxRecDepth 100000
set_option linter.unusedSimpArgs false
set_option maxHeartbeats 4000000
def X8 (l:List UInt8):List UInt8:=l++List.replicate (32-l.length) 0
theorem aD {l:List UInt8} (h:l.length≤32):(X8 l).length=32:=by unfold X8;simp;omega
theorem nmOf_all {l:List UInt8} (h:l.length=32):X8 l=l:=by unfold X8;rw[h];simp
theorem oO (l:List UInt8) (h:l.length≤32):splice (U7 (List.replicate 32 0)) 0 (l.map bv)=U7 (X8 l):=by
 unfold splice U7 X8
 rw[List.map_replicate,List.map_append,List.map_replicate,List.drop_replicate,List.length_map]
 simp
theorem pE (r:RS):(r.raw 32).1.length≤32:=by
 unfold RS.raw
 rw[if_neg (by omega)]
 unfold RS.take
 split
 ·show (r.l.take 32).length≤32
  rw[List.length_take];omega
 ·simp
theorem ME.gl {w:World} {p g:Nat} {r:RS} (h:ME w p g r) (hne:r.l≠[]):g<w.heap.size:=by
 obtain⟨A,c,_,_,_,h4,_⟩:=h
 obtain⟨o,_,h6,_⟩:=h4 hne
 exact h6
theorem ZG {r:RS} {n:Nat} (h:(r.past n).l≠[]):r.l≠[]:=by
 intro e
 unfold RS.past at h
 split at h
 ·split at h
  ·rw[e] at h;simp at h
  ·exact h rfl
 ·exact h e
theorem yI {r:RS} {x:Int} (h:(r.fail x).l≠[]):r.l≠[]:=by
 intro e
 unfold RS.fail at h
 split at h
 ·exact h rfl
 ·exact h e
theorem qF {r:RS} {n:Int} (h:(r.raw n).2.l≠[]):r.l≠[]:=by
 unfold RS.raw at h
 split at h
 ·exact yI h
 ·exact ZG h
theorem nA {r:RS} {n:Int} (h:(r.num n).2.l≠[]):r.l≠[]:=by
 unfold RS.num at h
 split at h
 ·split at h
  ·split at h
   ·exact ZG (yI h)
   ·exact ZG h
  ·exact ZG h
 ·exact yI h
theorem W9 {r:RS} {n:Int} (h:(r.count n).2.l≠[]):r.l≠[]:=by
 intro e
 unfold RS.count at h
 split at h
 ·rw[e,TL] at h;exact h rfl
 ·exact h e
theorem cB {r:RS} {n:Int} (h:(r.text n).2.l≠[]):r.l≠[]:=W9 (qF h)
theorem TU:(prog.info? 23).bind (·.zero)=some (.agg (U7 (List.replicate 32 0)).toArray):=by kernel_rfl
theorem jD (n:List UInt8):∀ v∈U7 n,v.oneCell'=true:=by intro v hv;unfold U7 at hv;simp at hv;obtain⟨b,_,rfl⟩:=hv;rfl
theorem pR:(prog.info? 5).map (·.size)=some 1:=by kernel_rfl
theorem ZH (p g:Nat) (r:RS) (w:World) (hr:ME w p g r) (hb:r.l.length≤140737488355328):
 Calls prog 103 #[.pointer (some ⟨p,0,none⟩)] w fun e w'=>e= .returned (.agg (U7 (X8 (r.raw 32).1)).toArray)∧ME w' p g (r.raw 32).2∧U1 [p] w w':=by
 obtain⟨Z,hZ⟩:∃ Z,U7 (List.replicate 32 0)=Z:=⟨_,rfl⟩
 have zl:Z.length=32:=by rw[←hZ,A8,List.length_replicate]
 have zv:=TU
 have hsp:=oO (r.raw 32).1 (pE r)
 rw[hZ] at zv hsp
 obtain⟨wA,hwA⟩:∃ wA,w.alloc (.cells Z.toArray 23)=wA:=⟨_,rfl⟩
 obtain⟨wB,hwB⟩:∃ wB,wA.alloc (.cells Z.toArray 23)=wB:=⟨_,rfl⟩
 have rA:=l5.new w 23 Z.toArray
 have rB:=l5.new wA 23 Z.toArray
 have kA:=(U1.refl [] w).alloc (.cells Z.toArray 23)
 have kB:=(U1.refl [] wA).alloc (.cells Z.toArray 23)
 rw[hwA] at rA kA
 rw[hwB] at rB kB
 have rA3:=kB.row rA (by simp)
 have kk:=kA.then kB (by simp)
 have hlA:w.heap.size<wA.heap.size:=rA.lt
 have hpl:=hr.lt
 have HW:=U0 (U2 hwA (U2 hwB zv))
 have HR:=U0 (U2 rA3 (U2 rB (U2 kk (U2 (hr.keep kk (by simp) (by simp)) (U2 hlA (U2 zl hsp))))))
 have HL:=U0 (U2 hb (U2 (pE r) (fun hne:r.l≠[]=>hr.gl hne)))
 clear hwA hwB zv rA rB kA kB rA3 kk hr hlA zl hsp hb hZ
 have hpA:wA.heap.size≠p:=by have:=HR.o.2.2.2.2.1;omega
 have hpw:w.heap.size≠p:=by omega
 go_enter func103,ntmps103
 go_upto_region 2 with (first
  |(with_reducible refine F5 _ _ rfl 23 rfl _ HW.o.2.2 HW.o.1 ?_)
  |(with_reducible refine F5 _ _ rfl 23 rfl _ HW.o.2.2 HW.o.2.1 ?_))
 go_region_law (first
  |(go_simp;go_at_call 150;refine (pQ p g r 32 _ (HR.o.2.2.2.1.keep ((U1.refl [] wB).drew) (by simp) (by simp)) HL.o.1).mono ?_;intro e w4 hq;obtain⟨v,rfl,⟨ho,hh⟩,hr4,hk4⟩:=hq;obtain⟨A4,c4,rfl,_,_,_,hrd4⟩:=ho.form;have H4:=U0 (U2 hr4 (U2 (((U1.refl [p] wB).drew).then hk4 (by simp)) (U2 (EA (.slice A4 (r.raw 32).1.length c4)) (U2 hrd4 hh))));clear hr4 hk4 hrd4 ho hh)
  |(obtain⟨g4,hg4⟩:=H4.o.2.2.1;refine dS rfl (.tmp 4) (.tmp 6) 24 24 rfl 5 underlying24 pR wA.heap.size 0 32 32 A4 g4 c4 (r.raw 32).1 rfl rfl _ 23 (H4.o.2.1.row HR.o.2.1 (by simp[hpA])) (MB.seenB (H4.o.2.2.2.1 g4 hg4)) HL.o.2.1 (by simp only[U4];have:=HR.o.2.2.2.2.2.1;have:=HL.o.2.1;omega) ?_;intro w5 r5 k5;have H5:=U0 (U2 r5 k5);clear r5 k5))
 have hs:(splice Z 0 ((r.raw 32).1.map bv))=U7 (X8 (r.raw 32).1):=HR.o.2.2.2.2.2.2
 have r5:=H5.o.1
 rw[show (Z.toArray).toList=Z from rfl,hs] at r5
 have hnl:(U7 (X8 (r.raw 32).1)).length=32:=by rw[A8,aD HL.o.2.1]
 have rw5:=H5.o.2.row (H4.o.2.1.row HR.o.1 (by simp[hpw])) (by simp;have:=HR.o.2.2.2.2.1;omega)
 have hgl:(r.raw 32).2.l≠[]→g<w.heap.size:=fun hne=>HL.o.2.2 (qF hne)
 have hr5:=H4.o.1.keep H5.o.2 (by simp;exact fun e=>hpA e.symm) (fun hne=>by have:=hgl hne;have:=HR.o.2.2.2.2.1;simp;omega)
 have k05:U1 [p] w w5:=((HR.o.2.2.1.more (by simp)).then H4.o.2.1 (by simp)).then H5.o.2 (fun x hx=> .inr (by simp at hx;have:=HR.o.2.2.2.2.1;omega))
 have rs:=rw5.setL (vs:=U7 (X8 (r.raw 32).1)) (o:=0)
 rw[F7 (by rw[hnl,U4];exact HR.o.2.2.2.2.2.1.symm)] at rs
 have ks:=(U1.refl [w.heap.size] w5).setL (vs:=U7 (X8 (r.raw 32).1)) (g:=w.heap.size) (o:=0) (by simp)
 have kf:=k05.setL (vs:=U7 (X8 (r.raw 32).1)) (g:=w.heap.size) (o:=0) (.inr (Nat.le_refl _))
 have hr6:=hr5.keep ks (by simp;exact fun e=>hpw e.symm) (fun hne=>by have:=hgl hne;simp;omega)
 have ht:=rw5.there (o:=0) (n:=(U7 (X8 (r.raw 32).1)).toArray.size) (by simp only[U4];have:=HR.o.2.2.2.2.2.1;omega)
 have hI:(prog.info? 23).map (·.size)=some (U7 (X8 (r.raw 32).1)).length:=by rw[hnl];exact xB
 have hJ:(prog.info? 23).map (·.size)=some (U7 (X8 (r.raw 32).1)).toArray.size:=by rw[U4];exact hI
 have HS:=U0 (U2 r5.rangeAll (U2 rs (U2 ht (U2 hI (U2 hJ (U2 hr6 kf))))))
 have HO:=U0 (all_oneCell_toArray (jD (X8 (r.raw 32).1)))
 clear r5 rw5 rs ks kf hr6 ht hI hJ hr5 k05 hgl hnl hs hg4
 go_wp2_with (first
  |(refine wpList_load_mid rfl 23 (.tmp 3) rfl wA.heap.size 0 rfl _ _ HS.o.1 underlying23 rfl HS.o.2.2.2.1 ?_)
  |(refine wpList_store_mid rfl 23 (.tmp 2) (.tmp 8) rfl w.heap.size 0 (U7 (X8 (r.raw 32).1)).toArray rfl rfl HS.o.2.2.1 HS.o.2.2.2.2.1 HO.o ?_))
 refine bodyPost_ret (results_cell_row rfl _ _ w.heap.size 23 _ (0,0) _ rfl HS.o.2.1 underlying23 rfl HS.o.2.2.2.2.1) rfl ?_
 exact⟨rfl,HS.o.2.2.2.2.2.1,HS.o.2.2.2.2.2.2⟩
theorem oG (r:RS) (n:Nat):(r.past n).l.length≤r.l.length:=by
 unfold RS.past
 split
 ·split
  ·simp
  ·simp
 ·exact Nat.le_refl _
theorem qH (r:RS) (x:Int):(r.fail x).l.length≤r.l.length:=by
 unfold RS.fail
 split
 ·simp
 ·exact Nat.le_refl _
theorem U9 (r:RS) (n:Int):(r.num n).2.l.length≤r.l.length:=by
 unfold RS.num
 split
 ·split
  ·split
   ·exact Nat.le_trans (qH _ _) (oG r _)
   ·exact oG r _
  ·exact oG r _
 ·exact qH r _
theorem aG (r:RS) (n:Int):(r.raw n).2.l.length≤r.l.length:=by
 unfold RS.raw
 split
 ·exact qH r _
 ·exact oG r _
theorem zC (r:RS) (n:Int):(r.text n).2.l.length≤r.l.length:=Nat.le_trans (aG _ _) (RS.count_short r n)
theorem FE:∀ (a b b' c:List Value),b.length=b'.length→KA (a++(b++c)).toArray a.length b'=(a++(b'++c)).toArray:=fun a b b' c h=>by
 refine Array.ext_getElem? (fun i=> ?_)
 rw[KG _ _ _ _ (by simp;omega)]
 simp only[List.getElem?_toArray]
 by_cases h1:i<a.length
 ·rw[if_neg (by omega),List.getElem?_append_left h1,List.getElem?_append_left h1]
 ·by_cases h2:i-a.length<b'.length
  ·rw[if_pos (by omega),List.getElem?_append_right (by omega),List.getElem?_append_left h2]
  ·rw[if_neg (by omega),List.getElem?_append_right (by omega),List.getElem?_append_right (by omega),List.getElem?_append_right (by omega),List.getElem?_append_right (by omega),h]
structure dJ (w0 w:World) (p g tb:Nat) (r:RS) (T:TypeId) (L Z:List Value):Prop where
 rd:ME w p g r
 lo:w0.heap.size<p
 hi:p<tb
 gl:r.l≠[]→w0.heap.size<g∧g<tb
 len:r.l.length≤1000000
 row:l5 w tb T L.toArray
 res:l5 w w0.heap.size T Z.toArray
 kp:U1 [] w0 w
theorem dJ.read {w0 w w':World} {p g tb:Nat} {r r':RS} {T:TypeId} {L Z:List Value} (h:dJ w0 w p g tb r T L Z) (hr:ME w' p g r') (hk:U1 [p] w w') (hl:r'.l≠[]→r.l≠[]) (hs:r'.l.length≤r.l.length):dJ w0 w' p g tb r' T L Z:=
 ⟨hr,h.lo,h.hi,fun hne=>h.gl (hl hne),Nat.le_trans hs h.len,hk.row h.row (by have:=h.hi;simp;omega),hk.row h.res (by have:=h.lo;simp;omega),h.kp.then hk (fun x hx=> .inr (by simp at hx;have:=h.lo;omega))⟩
theorem dJ.keep {w0 w w':World} {p g tb:Nat} {r:RS} {T:TypeId} {L L' Z:List Value} (h:dJ w0 w p g tb r T L Z) (hk:U1 [tb] w w') (hrow:l5 w' tb T L'.toArray):dJ w0 w' p g tb r T L' Z:=
 ⟨h.rd.keep hk (by have:=h.hi;simp;omega) (fun hne=>by have:=h.gl hne;simp;omega),h.lo,h.hi,h.gl,h.len,hrow,hk.row h.res (by have:=h.lo;have:=h.hi;simp;omega),h.kp.then hk (fun x hx=> .inr (by simp at hx;have:=h.lo;have:=h.hi;omega))⟩
theorem dJ.set {w0 w:World} {p g tb:Nat} {r:RS} {T:TypeId} {L L' Z:List Value} (h:dJ w0 w p g tb r T L Z) (k:Nat) (u:Value) (he:L.toArray.setIfInBounds k u=L'.toArray):dJ w0 (w.setCell ⟨tb,k,none⟩ u) p g tb r T L' Z:=
 h.keep ((U1.refl [tb] w).setCell ⟨tb,k,none⟩ u (.inl (by simp))) (by rw[←he];exact h.row.set k u)
theorem dJ.setL {w0 w:World} {p g tb:Nat} {r:RS} {T:TypeId} {L L' Z:List Value} (h:dJ w0 w p g tb r T L Z) (k:Nat) (us:List Value) (he:KA L.toArray k us=L'.toArray):dJ w0 (w.setCells tb k us) p g tb r T L' Z:=
 h.keep ((U1.refl [tb] w).setL (.inl (by simp))) (by rw[←he];exact h.row.setL)
theorem dJ.over {w0 w w':World} {p g tb:Nat} {r:RS} {T:TypeId} {L Z:List Value} (h:dJ w0 w p g tb r T L Z) (hk:U1 [] w w'):dJ w0 w' p g tb r T L Z:=
 h.keep (hk.more (by simp)) (hk.row h.row (by simp))
theorem tH.gives {w w':World} {v:Value} {l:List UInt8} (h:tH w w' v l):∃ A c G,v= .slice A l.length c∧G7 w' G v l∧I9 w w' G:=by
 obtain⟨h1,h2⟩:=h
 obtain⟨A3,c3,e3,h31,h32,h33,h34⟩:=h1.form
 subst e3
 obtain⟨g3,hg3⟩:=EA (.slice A3 l.length c3)
 refine⟨A3,c3,Z6 (.slice A3 l.length c3),rfl,⟨A3,c3,g3,rfl,h31,h32,MB.seenB (h34 g3 hg3),fun hne=> ?_⟩,fun y hy=>⟨h2 y hy,h33 y hy⟩⟩
 obtain⟨o,hA,_⟩:=(h34 g3 hg3).2 (List.length_pos_iff.2 hne)
 rw[hA];simp[V8]
theorem MF (F:List Nat) (b:List UInt8) (v:Value) (w:World) (h:G7 w F v b) (hb:b.length≤1000000):
 Calls prog 93 #[v] w fun e w'=>∃ p g,e= .returned (.pointer (some ⟨p,0,none⟩))∧ME w' p g ⟨b,0⟩∧w.heap.size≤p∧(b≠[]→w.heap.size≤g)∧U1 [] w w':=by
 obtain⟨A,c,g,rfl,h2,h3,h4,h5⟩:=h
 obtain⟨i0,hi0,hz0,hz1,hz2⟩:=info_parts TH
 have H:=U0 (U2 (QA.reads h4) (qA.nil w 5 1))
 clear h4 h5 h3
 go_enter func93,ntmps93
 go_wp2_with (at_builtin;refine NA _ rfl _ _ 24 rfl 5 i0 (.int .u8 0) 1 1 underlying24 hi0 hz0 hz1 hz2 rfl (by decide) (.slice none 0 0) 0 [] rfl H.o.2 A g b.length c _ (by simp[Act.eval]) H.o.1 (by intro u hu;simp at hu;obtain⟨b,_,rfl⟩:=hu;rfl) (by omega) (by unfold maxLen;omega) ?_;intro A2 c2 w2 hown2 hkb2 hloc2)
 go_ret
 simp only[Nat.zero_add,List.nil_append] at hown2 hloc2 ⊢
 obtain⟨A3,c3,e3,h31,h32,h33,h34⟩:=hown2.form
 injection e3 with e3a e3b e3c
 subst e3a e3c
 obtain⟨g3,hg3⟩:=EA (.slice A2 b.length c2)
 have hk3:=(U1.refl [] w2).alloc (.cells #[.slice A2 b.length c2,.int .i64 0] 139)
 have hin:b≠[]→g3∈Z6 (.slice A2 b.length c2):=fun hne=>by
  obtain⟨o,hA,_⟩:=(h34 g3 hg3).2 (List.length_pos_iff.2 hne)
  rw[hA];simp[V8]
 have hks:=hkb2.size
 refine⟨w2.heap.size,g3,rfl,⟨A2,c2,l5.new _ _ _,h31,h32,(MB.seenB (h34 g3 hg3)).keep hk3 (by simp),fun hne=>by have:=h33 g3 (hin hne);show g3≠w2.heap.size;omega⟩,hks,fun hne=> ?_,(hkb2.more (by simp[d9])).then hk3 (by simp)⟩
 rcases hloc2 g3 (hin hne) with h|h
 ·simp[d9] at h
 ·exact h
end Go.Proofs.YthfdkonhjpdflaaGreatDoor
