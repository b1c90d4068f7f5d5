import Derived.Test.YthfdkonhjpdflaaGreatDoorPk25
import Derived.Test.YthfdkonhjpdflaaGreatDoorRWide
namespace Go.Proofs.YthfdkonhjpdflaaGreatDoor
open Go.RowKit Go.Proofs.Tryz
set_option linter.unusedVariables false
set_option maxRecDepth 100000
set_option linter.unusedSimpArgs false
set_option maxHeartbeats 4000000
def bG (l:List UInt8):List UInt8:=l++List.replicate (32-l.length) 0
theorem gz {l:List UInt8} (h:l.length≤32):(bG l).length=32:=by unfold bG;simp;omega
theorem nmOf_all {l:List UInt8} (h:l.length=32):bG l=l:=by unfold bG;rw[h];simp
theorem vZ (l:List UInt8) (h:l.length≤32):splice (aT (List.replicate 32 0)) 0 (l.map bv)=aT (bG l):=by
 unfold splice aT bG
 rw[List.map_replicate,List.map_append,List.map_replicate,List.drop_replicate,List.length_map]
 simp
theorem iR (r:RS):(r.raw 32).1.length≤32:=by
 unfold RS.raw
 rw[if_neg (by omega)]
 unfold RS.take
 split
 ·show (r.l.take 32).length≤32
  rw[List.length_take];omega
 ·simp
theorem jg.gl {w:World} {p g:Nat} {r:RS} (h:jg w p g r) (hne:r.l≠[]):g<w.heap.size:=by
 obtain⟨A,c,_,_,_,h4,_⟩:=h
 obtain⟨o,_,h6,_⟩:=h4 hne
 exact h6
theorem lX {r:RS} {n:Nat} (h:(r.past n).l≠[]):r.l≠[]:=by
 intro e
 unfold RS.past at h
 split at h
 ·split at h
  ·rw[e] at h;simp at h
  ·exact h rfl
 ·exact h e
theorem nT {r:RS} {x:Int} (h:(r.fail x).l≠[]):r.l≠[]:=by
 intro e
 unfold RS.fail at h
 split at h
 ·exact h rfl
 ·exact h e
theorem jK {r:RS} {n:Int} (h:(r.raw n).2.l≠[]):r.l≠[]:=by
 unfold RS.raw at h
 split at h
 ·exact nT h
 ·exact lX h
theorem cO {r:RS} {n:Int} (h:(r.num n).2.l≠[]):r.l≠[]:=by
 unfold RS.num at h
 split at h
 ·split at h
  ·split at h
   ·exact lX (nT h)
   ·exact lX h
  ·exact lX h
 ·exact nT h
theorem bW {r:RS} {n:Int} (h:(r.count n).2.l≠[]):r.l≠[]:=by
 intro e
 unfold RS.count at h
 split at h
 ·rw[e,sZ] at h;exact h rfl
 ·exact h e
theorem dO {r:RS} {n:Int} (h:(r.text n).2.l≠[]):r.l≠[]:=bW (jK h)
theorem BZ:(prog.info? 23).bind (·.zero)=some (.agg (aT (List.replicate 32 0)).toArray):=by kernel_rfl
theorem gJ (n:List UInt8):∀ v∈aT n,v.oneCell'=true:=by intro v hv;unfold aT at hv;simp at hv;obtain⟨b,_,rfl⟩:=hv;rfl
theorem zk:(prog.info? 5).map (·.size)=some 1:=by kernel_rfl
theorem nD (p g:Nat) (r:RS) (w:World) (hr:jg w p g r) (hb:r.l.length≤140737488355328):
 Calls prog 103 #[.pointer (some ⟨p,0,none⟩)] w fun e w'=>e= .returned (.agg (aT (bG (r.raw 32).1)).toArray)∧jg w' p g (r.raw 32).2∧ag [p] w w':=by
 obtain⟨Z,hZ⟩:∃ Z,aT (List.replicate 32 0)=Z:=⟨_,rfl⟩
 have zl:Z.length=32:=by rw[←hZ,bi,List.length_replicate]
 have zv:=BZ
 have hsp:=vZ (r.raw 32).1 (iR r)
 rw[hZ] at zv hsp
 obtain⟨wA,hwA⟩:∃ wA,w.alloc (.cells Z.toArray 23)=wA:=⟨_,rfl⟩
 obtain⟨wB,hwB⟩:∃ wB,wA.alloc (.cells Z.toArray 23)=wB:=⟨_,rfl⟩
 have rA:=aC.new w 23 Z.toArray
 have rB:=aC.new wA 23 Z.toArray
 have kA:=(ag.refl [] w).alloc (.cells Z.toArray 23)
 have kB:=(ag.refl [] wA).alloc (.cells Z.toArray 23)
 rw[hwA] at rA kA
 rw[hwB] at rB kB
 have rA3:=kB.row rA (by simp)
 have kk:=kA.then kB (by simp)
 have hlA:w.heap.size<wA.heap.size:=rA.lt
 have hpl:=hr.lt
 have HW:=aa (ah hwA (ah hwB zv))
 have HR:=aa (ah rA3 (ah rB (ah kk (ah (hr.keep kk (by simp) (by simp)) (ah hlA (ah zl hsp))))))
 have HL:=aa (ah hb (ah (iR r) (fun hne:r.l≠[]=>hr.gl hne)))
 clear hwA hwB zv rA rB kA kB rA3 kk hr hlA zl hsp hb hZ
 have hpA:wA.heap.size≠p:=by have:=HR.o.2.2.2.2.1;omega
 have hpw:w.heap.size≠p:=by omega
 go_enter func103,ntmps103
 go_upto_region 2 with (first
  |(with_reducible refine aD _ _ rfl 23 rfl _ HW.o.2.2 HW.o.1 ?_)
  |(with_reducible refine aD _ _ rfl 23 rfl _ HW.o.2.2 HW.o.2.1 ?_))
 go_region_law (first
  |(go_simp;go_at_call 150;refine (ym p g r 32 _ (HR.o.2.2.2.1.keep ((ag.refl [] wB).drew) (by simp) (by simp)) HL.o.1).mono ?_;intro e w4 hq;obtain⟨v,rfl,⟨ho,hh⟩,hr4,hk4⟩:=hq;obtain⟨A4,c4,rfl,_,_,_,hrd4⟩:=ho.form;have H4:=aa (ah hr4 (ah (((ag.refl [p] wB).drew).then hk4 (by simp)) (ah (dA (.slice A4 (r.raw 32).1.length c4)) (ah hrd4 hh))));clear hr4 hk4 hrd4 ho hh)
  |(obtain⟨g4,hg4⟩:=H4.o.2.2.1;refine zY rfl (.tmp 4) (.tmp 6) 24 24 rfl 5 underlying24 zk wA.heap.size 0 32 32 A4 g4 c4 (r.raw 32).1 rfl rfl _ 23 (H4.o.2.1.row HR.o.2.1 (by simp[hpA])) (eG.seenB (H4.o.2.2.2.1 g4 hg4)) HL.o.2.1 (by simp only[az];have:=HR.o.2.2.2.2.2.1;have:=HL.o.2.1;omega) ?_;intro w5 r5 k5;have H5:=aa (ah r5 k5);clear r5 k5))
 have hs:(splice Z 0 ((r.raw 32).1.map bv))=aT (bG (r.raw 32).1):=HR.o.2.2.2.2.2.2
 have r5:=H5.o.1
 rw[show (Z.toArray).toList=Z from rfl,hs] at r5
 have hnl:(aT (bG (r.raw 32).1)).length=32:=by rw[bi,gz HL.o.2.1]
 have rw5:=H5.o.2.row (H4.o.2.1.row HR.o.1 (by simp[hpw])) (by simp;have:=HR.o.2.2.2.2.1;omega)
 have hgl:(r.raw 32).2.l≠[]→g<w.heap.size:=fun hne=>HL.o.2.2 (jK hne)
 have hr5:=H4.o.1.keep H5.o.2 (by simp;exact fun e=>hpA e.symm) (fun hne=>by have:=hgl hne;have:=HR.o.2.2.2.2.1;simp;omega)
 have k05:ag [p] w w5:=((HR.o.2.2.1.more (by simp)).then H4.o.2.1 (by simp)).then H5.o.2 (fun x hx=> .inr (by simp at hx;have:=HR.o.2.2.2.2.1;omega))
 have rs:=rw5.setL (vs:=aT (bG (r.raw 32).1)) (o:=0)
 rw[aR (by rw[hnl,az];exact HR.o.2.2.2.2.2.1.symm)] at rs
 have ks:=(ag.refl [w.heap.size] w5).setL (vs:=aT (bG (r.raw 32).1)) (g:=w.heap.size) (o:=0) (by simp)
 have kf:=k05.setL (vs:=aT (bG (r.raw 32).1)) (g:=w.heap.size) (o:=0) (.inr (Nat.le_refl _))
 have hr6:=hr5.keep ks (by simp;exact fun e=>hpw e.symm) (fun hne=>by have:=hgl hne;simp;omega)
 have ht:=rw5.there (o:=0) (n:=(aT (bG (r.raw 32).1)).toArray.size) (by simp only[az];have:=HR.o.2.2.2.2.2.1;omega)
 have hI:(prog.info? 23).map (·.size)=some (aT (bG (r.raw 32).1)).length:=by rw[hnl];exact dY
 have hJ:(prog.info? 23).map (·.size)=some (aT (bG (r.raw 32).1)).toArray.size:=by rw[az];exact hI
 have HS:=aa (ah r5.rangeAll (ah rs (ah ht (ah hI (ah hJ (ah hr6 kf))))))
 have HO:=aa (all_oneCell_toArray (gJ (bG (r.raw 32).1)))
 clear r5 rw5 rs ks kf hr6 ht hI hJ hr5 k05 hgl hnl hs hg4
 go_wp2_with (first
  |(refine wpList_load_mid rfl 23 (.tmp 3) rfl wA.heap.size 0 rfl _ _ HS.o.1 underlying23 rfl HS.o.2.2.2.1 ?_)
  |(refine wpList_store_mid rfl 23 (.tmp 2) (.tmp 8) rfl w.heap.size 0 (aT (bG (r.raw 32).1)).toArray rfl rfl HS.o.2.2.1 HS.o.2.2.2.2.1 HO.o ?_))
 refine bodyPost_ret (results_cell_row rfl _ _ w.heap.size 23 _ (0,0) _ rfl HS.o.2.1 underlying23 rfl HS.o.2.2.2.2.1) rfl ?_
 exact⟨rfl,HS.o.2.2.2.2.2.1,HS.o.2.2.2.2.2.2⟩
theorem kR (r:RS) (n:Nat):(r.past n).l.length≤r.l.length:=by
 unfold RS.past
 split
 ·split
  ·simp
  ·simp
 ·exact Nat.le_refl _
theorem mq (r:RS) (x:Int):(r.fail x).l.length≤r.l.length:=by
 unfold RS.fail
 split
 ·simp
 ·exact Nat.le_refl _
theorem bV (r:RS) (n:Int):(r.num n).2.l.length≤r.l.length:=by
 unfold RS.num
 split
 ·split
  ·split
   ·exact Nat.le_trans (mq _ _) (kR r _)
   ·exact kR r _
  ·exact kR r _
 ·exact mq r _
theorem kE (r:RS) (n:Int):(r.raw n).2.l.length≤r.l.length:=by
 unfold RS.raw
 split
 ·exact mq r _
 ·exact kR r _
theorem fG (r:RS) (n:Int):(r.text n).2.l.length≤r.l.length:=Nat.le_trans (kE _ _) (RS.count_short r n)
theorem jd:∀ (a b b' c:List Value),b.length=b'.length→dD (a++(b++c)).toArray a.length b'=(a++(b'++c)).toArray:=fun a b b' c h=>by
 refine Array.ext_getElem? (fun i=> ?_)
 rw[lF _ _ _ _ (by simp;omega)]
 simp only[List.getElem?_toArray]
 by_cases h1:i<a.length
 ·rw[if_neg (by omega),List.getElem?_append_left h1,List.getElem?_append_left h1]
 ·by_cases h2:i-a.length<b'.length
  ·rw[if_pos (by omega),List.getElem?_append_right (by omega),List.getElem?_append_left h2]
  ·rw[if_neg (by omega),List.getElem?_append_right (by omega),List.getElem?_append_right (by omega),List.getElem?_append_right (by omega),List.getElem?_append_right (by omega),h]
structure oN (w0 w:World) (p g tb:Nat) (r:RS) (T:TypeId) (L Z:List Value):Prop where
 rd:jg w p g r
 lo:w0.heap.size<p
 hi:p<tb
 gl:r.l≠[]→w0.heap.size<g∧g<tb
 len:r.l.length≤1000000
 row:aC w tb T L.toArray
 res:aC w w0.heap.size T Z.toArray
 kp:ag [] w0 w
theorem oN.read {w0 w w':World} {p g tb:Nat} {r r':RS} {T:TypeId} {L Z:List Value} (h:oN w0 w p g tb r T L Z) (hr:jg w' p g r') (hk:ag [p] w w') (hl:r'.l≠[]→r.l≠[]) (hs:r'.l.length≤r.l.length):oN w0 w' p g tb r' T L Z:=
 ⟨hr,h.lo,h.hi,fun hne=>h.gl (hl hne),Nat.le_trans hs h.len,hk.row h.row (by have:=h.hi;simp;omega),hk.row h.res (by have:=h.lo;simp;omega),h.kp.then hk (fun x hx=> .inr (by simp at hx;have:=h.lo;omega))⟩
theorem oN.keep {w0 w w':World} {p g tb:Nat} {r:RS} {T:TypeId} {L L' Z:List Value} (h:oN w0 w p g tb r T L Z) (hk:ag [tb] w w') (hrow:aC w' tb T L'.toArray):oN w0 w' p g tb r T L' Z:=
 ⟨h.rd.keep hk (by have:=h.hi;simp;omega) (fun hne=>by have:=h.gl hne;simp;omega),h.lo,h.hi,h.gl,h.len,hrow,hk.row h.res (by have:=h.lo;have:=h.hi;simp;omega),h.kp.then hk (fun x hx=> .inr (by simp at hx;have:=h.lo;have:=h.hi;omega))⟩
theorem oN.set {w0 w:World} {p g tb:Nat} {r:RS} {T:TypeId} {L L' Z:List Value} (h:oN w0 w p g tb r T L Z) (k:Nat) (u:Value) (he:L.toArray.setIfInBounds k u=L'.toArray):oN w0 (w.setCell ⟨tb,k,none⟩ u) p g tb r T L' Z:=
 h.keep ((ag.refl [tb] w).setCell ⟨tb,k,none⟩ u (.inl (by simp))) (by rw[←he];exact h.row.set k u)
theorem oN.setL {w0 w:World} {p g tb:Nat} {r:RS} {T:TypeId} {L L' Z:List Value} (h:oN w0 w p g tb r T L Z) (k:Nat) (us:List Value) (he:dD L.toArray k us=L'.toArray):oN w0 (w.setCells tb k us) p g tb r T L' Z:=
 h.keep ((ag.refl [tb] w).setL (.inl (by simp))) (by rw[←he];exact h.row.setL)
theorem oN.over {w0 w w':World} {p g tb:Nat} {r:RS} {T:TypeId} {L Z:List Value} (h:oN w0 w p g tb r T L Z) (hk:ag [] w w'):oN w0 w' p g tb r T L Z:=
 h.keep (hk.more (by simp)) (hk.row h.row (by simp))
theorem mE.gives {w w':World} {v:Value} {l:List UInt8} (h:mE w w' v l):∃ A c G,v= .slice A l.length c∧aS w' G v l∧bP w w' G:=by
 obtain⟨h1,h2⟩:=h
 obtain⟨A3,c3,e3,h31,h32,h33,h34⟩:=h1.form
 subst e3
 obtain⟨g3,hg3⟩:=dA (.slice A3 l.length c3)
 refine⟨A3,c3,aP (.slice A3 l.length c3),rfl,⟨A3,c3,g3,rfl,h31,h32,eG.seenB (h34 g3 hg3),fun hne=> ?_⟩,fun y hy=>⟨h2 y hy,h33 y hy⟩⟩
 obtain⟨o,hA,_⟩:=(h34 g3 hg3).2 (List.length_pos_iff.2 hne)
 rw[hA];simp[bF]
theorem jX (F:List Nat) (b:List UInt8) (v:Value) (w:World) (h:aS w F v b) (hb:b.length≤1000000):
 Calls prog 93 #[v] w fun e w'=>∃ p g,e= .returned (.pointer (some ⟨p,0,none⟩))∧jg w' p g ⟨b,0⟩∧w.heap.size≤p∧(b≠[]→w.heap.size≤g)∧ag [] w w':=by
 obtain⟨A,c,g,rfl,h2,h3,h4,h5⟩:=h
 obtain⟨i0,hi0,hz0,hz1,hz2⟩:=info_parts nu
 have H:=aa (ah (dI.reads h4) (cZ.nil w 5 1))
 clear h4 h5 h3
 go_enter func93,ntmps93
 go_wp2_with (at_builtin;refine dH _ rfl _ _ 24 rfl 5 i0 (.int .u8 0) 1 1 underlying24 hi0 hz0 hz1 hz2 rfl (by decide) (.slice none 0 0) 0 [] rfl H.o.2 A g b.length c _ (by simp[Act.eval]) H.o.1 (by intro u hu;simp at hu;obtain⟨b,_,rfl⟩:=hu;rfl) (by omega) (by unfold maxLen;omega) ?_;intro A2 c2 w2 hown2 hkb2 hloc2)
 go_ret
 simp only[Nat.zero_add,List.nil_append] at hown2 hloc2 ⊢
 obtain⟨A3,c3,e3,h31,h32,h33,h34⟩:=hown2.form
 injection e3 with e3a e3b e3c
 subst e3a e3c
 obtain⟨g3,hg3⟩:=dA (.slice A2 b.length c2)
 have hk3:=(ag.refl [] w2).alloc (.cells #[.slice A2 b.length c2,.int .i64 0] 139)
 have hin:b≠[]→g3∈aP (.slice A2 b.length c2):=fun hne=>by
  obtain⟨o,hA,_⟩:=(h34 g3 hg3).2 (List.length_pos_iff.2 hne)
  rw[hA];simp[bF]
 have hks:=hkb2.size
 refine⟨w2.heap.size,g3,rfl,⟨A2,c2,aC.new _ _ _,h31,h32,(eG.seenB (h34 g3 hg3)).keep hk3 (by simp),fun hne=>by have:=h33 g3 (hin hne);show g3≠w2.heap.size;omega⟩,hks,fun hne=> ?_,(hkb2.more (by simp[bI])).then hk3 (by simp)⟩
 rcases hloc2 g3 (hin hne) with h|h
 ·simp[bI] at h
 ·exact h
end Go.Proofs.YthfdkonhjpdflaaGreatDoor
