import Derived.Test.YthfdkonhjpdflaaGreatDoorPk33
namespace Go.Proofs.YthfdkonhjpdflaaGreatDoor
open Go.RowKit Go.Proofs.Tryz
set_option linter.unusedVariables false
set_option maxRecDepth 100000
set_option linter.unusedSimpArgs false
set_option maxHeartbeats 8000000
def kP:List Int:=[0,1,2,10,11,12,13,20,21,22]
theorem kL (w:World):
 Calls prog 114 #[] w fun e w'=>∃ g,e= .returned (.slice (some ⟨g,0,none⟩) 10 10)∧l5 w' g 3 (kP.map (Value.int .i64)).toArray∧U1 [] w w'∧w.heap.size≤g:=by
 go_enter func114,ntmps114
 go_wp2
 go_ret
 exact⟨w.heap.size,rfl,l5.new _ _ _,(U1.refl [] _).alloc _,Nat.le_refl _⟩
theorem rR {b:List UInt8} {i:Nat} {x:UInt8} (h:b[i]? =some x) (hi:i<32):(U7 (X8 (b.take i))).set i (bv x)=U7 (X8 (b.take (i+1))):=by
 obtain⟨hlt,hx⟩:=List.getElem?_eq_some_iff.1 h
 unfold U7 X8
 rw[List.take_add_one,h]
 have e:List.replicate (32-(b.take i).length) (0:UInt8)=0::List.replicate (32-(i+1)) 0:=by
  rw[List.length_take,show 32-min i b.length=(32-(i+1))+1 by omega];rfl
 rw[e]
 simp only[Option.toList_some,List.length_append,List.length_take,List.length_cons,List.length_nil]
 rw[show 32-(min i b.length+(0+1))=32-(i+1) by omega,List.map_append,List.map_append,List.map_append]
 rw[List.set_append_right _ _ (by simp;omega)]
 simp[show i-min i b.length=0 by omega]
theorem gL {b:List UInt8} {i:Nat} (h:b.length≤i∨32≤i) (hi:i≤32):X8 (b.take i)=X8 (b.take 32):=by
 rcases h with h|h
 ·rw[List.take_of_length_le h,List.take_of_length_le (show b.length≤32 by omega)]
 ·rw[show i=32 by omega]
theorem GN (F:List Nat) (b:List UInt8) (v:Value) (w:World) (h:G7 w F v b):
 Calls prog 117 #[v] w fun e w'=>e= .returned (.agg (U7 (X8 (b.take 32))).toArray)∧U1 [] w w':=by
 obtain⟨A,c,g,rfl,hc,hm,hs,_⟩:=h
 have hmx:b.length≤9223372036854775807:=by unfold maxLen at hm;omega
 obtain⟨Z,hZ⟩:∃ Z,U7 (List.replicate 32 0)=Z:=⟨_,rfl⟩
 have zl:Z.length=32:=by rw[←hZ,A8,List.length_replicate]
 have zv:=TU
 have z0:U7 (X8 (b.take 0))=Z:=by rw[←hZ];rfl
 rw[hZ] at zv
 obtain⟨wA,hwA⟩:∃ wA,w.alloc (.cells Z.toArray 23)=wA:=⟨_,rfl⟩
 obtain⟨wB,hwB⟩:∃ wB,wA.alloc (.cells Z.toArray 23)=wB:=⟨_,rfl⟩
 have rA:=l5.new w 23 Z.toArray
 have rB:=l5.new wA 23 Z.toArray
 have kA:=(U1.refl [] w).alloc (.cells Z.toArray 23)
 have kB:=(U1.refl [] wA).alloc (.cells Z.toArray 23)
 rw[hwA] at rA kA
 rw[hwB] at rB kB
 have rA3:=kB.row rA (by simp)
 have kk:=kA.then kB (by simp)
 have hlA:w.heap.size<wA.heap.size:=rA.lt
 have HW:=U0 (U2 hwA (U2 hwB zv))
 have HR:=U0 (U2 rA3 (U2 rB (U2 kk (U2 hlA (U2 zl z0)))))
 have HS:=U0 hs
 clear hwA hwB zv rA rB kA kB rA3 kk hlA zl z0 hZ hs hc hm
 go_enter func117,ntmps117
 go_upto_region 3 with (first
  |(with_reducible refine F5 _ _ rfl 23 rfl _ HW.o.2.2 HW.o.1 ?_)
  |(with_reducible refine F5 _ _ rfl 23 rfl _ HW.o.2.2 HW.o.2.1 ?_))
 go_loopw [4] (fun v4 wx=>∃ i:Nat,i≤b.length∧i≤32∧v4= .int .i64 (i:Int)∧l5 wx w.heap.size 23 Z.toArray∧l5 wx wA.heap.size 23 (U7 (X8 (b.take i))).toArray∧U1 [] w wx) (fun v4 _=>32-(intOf v4).toNat)
 case atStart=>exact⟨0,by omega,by omega,rfl,HR.o.1,by rw[HR.o.2.2.2.2.2];exact HR.o.2.1,HR.o.2.2.1⟩
 case round=>
  obtain⟨i,hi,hi2,rfl,r1,r2,hk⟩:=hrel
  have hw1:IntKind.i64.wrap ((i:Int)+1)=(i:Int)+1:=Z8 _ (by omega) (by omega)
  by_cases hlt:i<b.length
  ·have hlt':(i:Int)<(b.length:Int):=by omega
   by_cases h32:i<32
   ·have h32':(i:Int)<32:=by omega
    obtain⟨x,hx⟩:∃ x,b[i]? =some x:=⟨_,List.getElem?_eq_getElem hlt⟩
    obtain⟨o,rfl,hgl,hcA⟩:=HS.o (by intro e;subst e;simp at hlt)
    have y0:wr.cell? ⟨g,o+i,none⟩=some (.int .u8 (x.toNat:Int)):=(hk.cell (p:=⟨g,o+i,none⟩) hgl (by simp)).trans (hcA i x hx)
    have y1:wr.cell? ⟨wA.heap.size,i,none⟩=some (.int .u8 (((X8 (b.take i))[i]?.getD 0).toNat:Int)):=by
     have hl:i<(X8 (b.take i)).length:=by rw[aD (by rw[List.length_take];omega)];exact h32
     rw[r2.cell i]
     unfold U7
     simp[hl,bv]
    have y2:=r2.free i
    have HK:=U0 (U2 r1 (U2 r2 (U2 hk (rR hx h32))))
    clear r1 r2 hk hcA hx
    go_wp2_with fail
    have R2:=HK.o.2.1.set i (.int .u8 (x.toNat:Int))
    have R1:=(xC wr wA.heap.size i (.int .u8 (x.toNat:Int))).row HK.o.1 (by simp;have:=HR.o.2.2.2.1;omega)
    have K1:=HK.o.2.2.1.setCell ⟨wA.heap.size,i,none⟩ (.int .u8 (x.toNat:Int)) (.inr (by have:=HR.o.2.2.2.1;simp;omega))
    have HJ:=U0 (U2 R1 (U2 R2 K1))
    clear R1 R2 K1
    go_roundw
    case rel=>
     refine⟨i+1,by omega,by omega,by go_num,HJ.o.1,?_,HJ.o.2.2⟩
     rw[←HK.o.2.2.2]
     simpa[bv] using HJ.o.2.1
    case measure=>simp[intOf];omega
   ·have h32': ¬(i:Int)<32:=by omega
    have r1':=U0 (U2 r1 (U2 r2 hk))
    have hN:X8 (b.take i)=X8 (b.take 32):=gL (by omega) hi2
    have hnl:(U7 (X8 (b.take 32))).length=32:=by rw[A8,aD (by rw[List.length_take];omega)]
    rw[hN] at r2
    have rs:=r1.setL (vs:=U7 (X8 (b.take 32))) (o:=0)
    rw[F7 (by rw[hnl,U4];exact HR.o.2.2.2.2.1.symm)] at rs
    have kf:=hk.setL (vs:=U7 (X8 (b.take 32))) (g:=w.heap.size) (o:=0) (.inr (Nat.le_refl _))
    have ht:=r1.there (o:=0) (n:=(U7 (X8 (b.take 32))).toArray.size) (by simp only[U4];have:=HR.o.2.2.2.2.1;omega)
    have hI:(prog.info? 23).map (·.size)=some (U7 (X8 (b.take 32))).length:=by rw[hnl];exact xB
    have hJ:(prog.info? 23).map (·.size)=some (U7 (X8 (b.take 32))).toArray.size:=by rw[U4];exact hI
    have HT:=U0 (U2 r2.rangeAll (U2 rs (U2 ht (U2 hI (U2 hJ kf)))))
    have HO:=U0 (all_oneCell_toArray (jD (X8 (b.take 32))))
    clear r1 r2 hk rs kf ht hI hJ hnl hN
    go_wp2_with (first
     |(refine wpList_load_mid rfl 23 (.tmp 3) rfl wA.heap.size 0 rfl _ _ HT.o.1 underlying23 rfl HT.o.2.2.2.1 ?_)
     |(refine wpList_store_mid rfl 23 (.tmp 2) (.tmp 21) rfl w.heap.size 0 (U7 (X8 (b.take 32))).toArray rfl rfl HT.o.2.2.1 HT.o.2.2.2.2.1 HO.o ?_))
    refine bodyPost_ret (results_cell_row rfl _ _ w.heap.size 23 _ (0,0) _ rfl HT.o.2.1 underlying23 rfl HT.o.2.2.2.2.1) rfl ?_
    exact⟨rfl,HT.o.2.2.2.2.2⟩
  ·have hlt': ¬(i:Int)<(b.length:Int):=by omega
   have r1':=U0 (U2 r1 (U2 r2 hk))
   have hN:X8 (b.take i)=X8 (b.take 32):=gL (by omega) hi2
   have hnl:(U7 (X8 (b.take 32))).length=32:=by rw[A8,aD (by rw[List.length_take];omega)]
   rw[hN] at r2
   have rs:=r1.setL (vs:=U7 (X8 (b.take 32))) (o:=0)
   rw[F7 (by rw[hnl,U4];exact HR.o.2.2.2.2.1.symm)] at rs
   have kf:=hk.setL (vs:=U7 (X8 (b.take 32))) (g:=w.heap.size) (o:=0) (.inr (Nat.le_refl _))
   have ht:=r1.there (o:=0) (n:=(U7 (X8 (b.take 32))).toArray.size) (by simp only[U4];have:=HR.o.2.2.2.2.1;omega)
   have hI:(prog.info? 23).map (·.size)=some (U7 (X8 (b.take 32))).length:=by rw[hnl];exact xB
   have hJ:(prog.info? 23).map (·.size)=some (U7 (X8 (b.take 32))).toArray.size:=by rw[U4];exact hI
   have HT:=U0 (U2 r2.rangeAll (U2 rs (U2 ht (U2 hI (U2 hJ kf)))))
   have HO:=U0 (all_oneCell_toArray (jD (X8 (b.take 32))))
   clear r1 r2 hk rs kf ht hI hJ hnl hN
   go_wp2_with (first
    |(refine wpList_load_mid rfl 23 (.tmp 3) rfl wA.heap.size 0 rfl _ _ HT.o.1 underlying23 rfl HT.o.2.2.2.1 ?_)
    |(refine wpList_store_mid rfl 23 (.tmp 2) (.tmp 21) rfl w.heap.size 0 (U7 (X8 (b.take 32))).toArray rfl rfl HT.o.2.2.1 HT.o.2.2.2.2.1 HO.o ?_))
   refine bodyPost_ret (results_cell_row rfl _ _ w.heap.size 23 _ (0,0) _ rfl HT.o.2.1 underlying23 rfl HT.o.2.2.2.2.1) rfl ?_
   exact⟨rfl,HT.o.2.2.2.2.2⟩
def vO (m k:Nat):List Int:=(List.range k).map fun i=>((10+(m/4+i) % 4:Nat):Int)
def UU (a:Int) (m:Nat):CF:=⟨a,((1+m/16 % (1+m % 4):Nat):Int),vO m (1+m % 4)⟩
theorem pV (m k:Nat):(vO m k).length=k:=by simp[vO]
theorem KT (m k:Nat):vO m (k+1)=vO m k++[((10+(m/4+k) % 4:Nat):Int)]:=by simp[vO,List.range_succ]
def QT (w0 wx:World) (tb:Nat) (a:Int) (m:Nat) (Z:List Value) (i:Nat):Prop:=
 ∃ A c,l5 wx tb 31 (bA ⟨a,0,[]⟩ (.slice A i c)).toArray∧l5 wx w0.heap.size 31 Z.toArray∧qA wx 3 1 (.slice A i c) i ((vO m i).map (Value.int .i64))∧(∀ y∈Z6 (.slice A i c),tb<y)∧U1 [] w0 wx
theorem KH (x y:Int) (hx:OA x) (hy:OA y) (m:Nat) (hm:y % 1048576=(m:Int)) (w:World):
 Calls prog 118 #[.int .i64 x,.int .i64 y] w fun e w'=>∃ ev G,e= .returned (.agg (bA (UU (x % 1125899906842624) m) ev).toArray)∧F8 w' G ev (UU (x % 1125899906842624) m).chain∧I9 w w' G∧U1 [] w w':=by
 have hmlt:m<1048576:=by omega
 obtain⟨a,ha⟩:∃ a,x % 1125899906842624=a:=⟨_,rfl⟩
 rw[ha]
 obtain⟨Z,hZ⟩:∃ Z,bA V7 I4=Z:=⟨_,rfl⟩
 have zv:=kJ
 have zl:Z.length=3:=by rw[←hZ];rfl
 rw[hZ] at zv
 have hL1:bA ⟨a,0,[]⟩ I4=[Value.int .i64 a,.int .i64 0,.slice none 0 0]:=rfl
 obtain⟨L1,hLe⟩:∃ L:List Value,[Value.int .i64 a,.int .i64 0,.slice none 0 0]=L:=⟨_,rfl⟩
 rw[hLe] at hL1
 have ll:L1.length=3:=by rw[←hL1];rfl
 have lo:∀ u∈L1,u.oneCell'=true:=by rw[←hL1];exact MC _ rfl
 obtain⟨wA,hwA⟩:∃ wA,w.alloc (.cells Z.toArray 31)=wA:=⟨_,rfl⟩
 obtain⟨wB,hwB⟩:∃ wB,wA.alloc (.cells Z.toArray 31)=wB:=⟨_,rfl⟩
 have rA:=l5.new w 31 Z.toArray
 have rB:=l5.new wA 31 Z.toArray
 have kA:=(U1.refl [] w).alloc (.cells Z.toArray 31)
 have kB:=(U1.refl [] wA).alloc (.cells Z.toArray 31)
 rw[hwA] at rA kA
 rw[hwB] at rB kB
 have rA3:=kB.row rA (by simp)
 have kk:=kA.then kB (by simp)
 have hlA:w.heap.size<wA.heap.size:=rA.lt
 have rs:=rB.setL (vs:=L1) (o:=0)
 rw[F7 (by rw[ll,U4];exact zl.symm)] at rs
 have ks:=(U1.refl [wA.heap.size] wB).setL (vs:=L1) (g:=wA.heap.size) (o:=0) (by simp)
 have kf:=kk.setL (vs:=L1) (g:=wA.heap.size) (o:=0) (.inr (by omega))
 have r0:=ks.row rA3 (by simp;omega)
 have ht:=rB.there (o:=0) (n:=L1.toArray.size) (by simp only[U4];omega)
 have hI:(prog.info? 31).map (·.size)=some L1.toArray.size:=by rw[U4,ll];exact S9
 obtain⟨wC,hwC⟩:∃ wC,wB.setCells wA.heap.size 0 L1=wC:=⟨_,rfl⟩
 rw[hwC] at rs ks kf r0
 have HW:=U0 (U2 hwA (U2 hwB zv))
 have ho:=all_oneCell_toArray lo
 subst hLe
 have HT:=U0 (U2 ht (U2 hI ho))
 have HC:=U0 hwC
 have HR:=U0 (U2 rs (U2 r0 (U2 kf (U2 hlA (U2 zl hL1)))))
 have HA:=U0 ha
 have HM:=U0 hm
 clear hwA hwB zv rA rB kA kB rA3 kk hlA zl hZ ll lo ho hL1 rs ks kf r0 ht hI hwC ha hm
 obtain⟨i0,hi0,hz0,hz1,hz2⟩:=info_parts OJ
 have HI:=U0 (U2 hi0 (U2 hz0 (U2 hz1 hz2)))
 clear hi0 hz0 hz1 hz2
 go_enter func118,ntmps118
 go_upto_region 2 with (first
  |(with_reducible refine F5 _ _ rfl 31 rfl _ HW.o.2.2 HW.o.1 ?_)
  |(with_reducible refine F5 _ _ rfl 31 rfl _ HW.o.2.2 HW.o.2.1 ?_)
  |(go_at_call 115;refine (l9 x 1125899906842624 hx.1 hx.2 (by omega) (by omega) _).mono ?_;rintro e w1 ⟨rfl,rfl⟩;rw[HA.o])
  |(refine wpList_store_mid rfl 31 (.tmp 5) (.tmp 9) rfl wA.heap.size 0 [Value.int .i64 a,.int .i64 0,.slice none 0 0].toArray rfl rfl HT.o.1 HT.o.2.1 HT.o.2.2 ?_))
 rw[show wB.setCells wA.heap.size 0 ([Value.int .i64 a,.int .i64 0,.slice none 0 0].toArray).toList=wC from HC.o]
 obtain⟨tb,htb⟩:∃ tb,wA.heap.size=tb:=⟨_,rfl⟩
 have HR2:=U0 (show l5 wC tb 31 (bA ⟨a,0,[]⟩ I4).toArray∧l5 wC w.heap.size 31 Z.toArray∧U1 [] w wC∧w.heap.size<tb∧Z.length=3 by rw[←htb];have h:=HR.o;exact⟨h.2.2.2.2.2.symm▸h.1,h.2.1,h.2.2.1,h.2.2.2.1,h.2.2.2.2.1⟩)
 rw[htb]
 clear HW HT HC HR htb
 go_upto_region 3 with (go_at_call 115;refine (l9 y 1048576 hy.1 hy.2 (by omega) (by omega) _).mono ?_;rintro e w1 ⟨rfl,rfl⟩;rw[HM.o])
 obtain⟨K,hK⟩:∃ K,1+m % 4=K:=⟨_,rfl⟩
 have hK4:K≤4:=by omega
 have ht4:(m:Int).tmod 4=((m % 4:Nat):Int):=by rw[Int.tmod_eq_emod_of_nonneg (by omega)];omega
 have hq4:(m:Int).tdiv 4=((m/4:Nat):Int):=by rw[Int.tdiv_eq_ediv_of_nonneg (by omega)];omega
 have hwK:IntKind.i64.wrap (1+((m % 4:Nat):Int))=(K:Int):=by rw[Z8 _ (by omega) (by omega)];omega
 go_wp2_with fail
 go_loopw [6] (fun v6 wx=>∃ i:Nat,i≤K∧v6= .int .i64 (i:Int)∧QT w wx tb a m Z i) (fun v6 _=>K-(intOf v6).toNat)
 case atStart=>exact⟨0,by omega,rfl,none,0,HR2.o.1,HR2.o.2.1,qA.nil _ _ _,by simp[d9],HR2.o.2.2.1⟩
 case round=>
  obtain⟨i,hi,rfl,A,c,hP,hP0,hO,hH,hk⟩:=hrel
  by_cases hlt:i<K
  ·have hlt':(i:Int)<1+(m:Int) % 4:=by omega
   have hw1:IntKind.i64.wrap ((i:Int)+1)=(i:Int)+1:=Z8 _ (by omega) (by omega)
   have hn0:(0:Int)≤(i:Int):=by omega
   have ht5:((m:Int)/4+(i:Int)).tmod 4=((m:Int)/4+(i:Int)) % 4:=Int.tmod_eq_emod_of_nonneg (by omega)
   have c2:wr.cell? ⟨tb,2,none⟩=some (.slice A i c):=(hP.cell 2).trans rfl
   have hbnd:(0:Int)≤((m:Int)/4+(i:Int)) % 4∧((m:Int)/4+(i:Int)) % 4≤3:=by omega
   have HP:=U0 (U2 hP (U2 hP0 (U2 hO (U2 hH hk))))
   clear hP hP0 hO hH hk
   go_wp2_with (at_builtin;refine NA _ rfl (.tmp 20) (.tmp 27) 29 rfl 3 i0 (.int .i64 0) 1 8 underlying29 HI.o.1 HI.o.2.1 HI.o.2.2.1 HI.o.2.2.2 rfl (by decide) (.slice A i c) i ((vO m i).map (Value.int .i64)) rfl (HP.o.2.2.1.keep ((U1.refl [] wr).alloc _) (by simp)) (some ⟨wr.heap.size,0,none⟩) wr.heap.size 1 1 [.int .i64 (10+((m:Int)/4+(i:Int)) % 4)] rfl (qE wr 3 _) (by intro u hu;simp at hu;subst hu;rfl) (by omega) (by unfold maxLen;omega) ?_;intro A6 c6 w6 hown6 hkb6 hloc6;have k6:=U0 ((((U1.refl [] wr).alloc (.cells #[.int .i64 (10+((m:Int)/4+(i:Int)) % 4)] 3)).more (by simp)).then hkb6 (fun x hx=> .inl hx));have r6:=U0 (k6.o.row HP.o.1 (fun hm=>Nat.lt_irrefl _ (HP.o.2.2.2.1 _ hm)));have c4:w6.cell? ⟨tb,2,none⟩=some (.slice A i c):=(r6.o.cell 2).trans rfl;have f4:=r6.o.free 2;have O6:=U0 (U2 hown6 hloc6);clear hown6 hkb6 hloc6 c2)
   have HT:=U0 (show QT w (w6.setCell ⟨tb,2,none⟩ (.slice A6 (i+1) c6)) tb a m Z (i+1) by
    have hgt:∀ x∈Z6 (.slice A6 (i+1) c6),tb<x:=fun x hx=>by
     rcases O6.o.2 x hx with h|h
     ·exact HP.o.2.2.2.1 x h
     ·have h1:=HP.o.1.lt;have h2:=((U1.refl [] wr).alloc (.cells #[.int .i64 (10+((m:Int)/4+(i:Int)) % 4)] 3)).size;omega
    refine⟨A6,c6,r6.o.set 2 _,(xC w6 tb 2 _).row (k6.o.row HP.o.2.1 (fun hm=>by have h1:=HP.o.2.2.2.1 _ hm;have h2:=HR2.o.2.2.2.1;omega)) (by simp;have:=HR2.o.2.2.2.1;omega),?_,hgt,(HP.o.2.2.2.2.then k6.o (fun x hx=> .inr (by have h1:=HP.o.2.2.2.1 _ hx;have h2:=HR2.o.2.2.2.1;omega))).setCell ⟨tb,2,none⟩ _ (.inr (by have h2:=HR2.o.2.2.2.1;simp;omega))⟩
    have e:(vO m (i+1)).map (Value.int .i64)=(vO m i).map (Value.int .i64)++[.int .i64 (10+((m:Int)/4+(i:Int)) % 4)]:=by rw[KT,List.map_append];congr 1
    rw[e]
    exact O6.o.1.keep (xC w6 tb 2 _) (fun x hx=>by have:=hgt x hx;simp;omega))
   clear c4 f4
   go_roundw
   case rel=>exact⟨i+1,by omega,by go_num,HT.o⟩
   case measure=>simp[intOf];omega
  ·have hlt': ¬(i:Int)<1+(m:Int) % 4:=by omega
   obtain rfl:i=K:=by omega
   have hi0:(i:Int)≠0:=by omega
   obtain⟨f,hf⟩:∃ f:Nat,m/16 % i=f:=⟨_,rfl⟩
   have hfl:f<i:=by rw[←hf];exact Nat.mod_lt _ (by omega)
   have hq16:(m:Int).tdiv 16=(m:Int)/16:=Int.tdiv_eq_ediv_of_nonneg (by omega)
   have ht16:((m:Int)/16).tmod (i:Int)=(f:Int):=by
    rw[Int.tmod_eq_emod_of_nonneg (by omega),←hf]
    push_cast
    rfl
   have hwf:IntKind.i64.wrap (1+(f:Int))=1+(f:Int):=Z8 _ (by omega) (by omega)
   have c2:wr.cell? ⟨tb,2,none⟩=some (.slice A i c):=(hP.cell 2).trans rfl
   have c1:wr.cell? ⟨tb,1,none⟩=some (.int .i64 0):=(hP.cell 1).trans rfl
   have f1:=hP.free 1
   have hcf:UU a m=⟨a,1+(f:Int),vO m i⟩:=by unfold UU;rw[hK,hf];push_cast;rfl
   have rs:=(hP.set 1 (.int .i64 (1+(f:Int))))
   have e1:(bA ⟨a,0,[]⟩ (.slice A i c)).toArray.setIfInBounds 1 (.int .i64 (1+(f:Int)))=(bA ⟨a,1+(f:Int),vO m i⟩ (.slice A i c)).toArray:=by simp[bA]
   rw[e1] at rs
   have k1:=xC wr tb 1 (.int .i64 (1+(f:Int)))
   have r0:=k1.row hP0 (by simp;have:=HR2.o.2.2.2.1;omega)
   have kw:=hk.setCell ⟨tb,1,none⟩ (.int .i64 (1+(f:Int))) (.inr (by have h2:=HR2.o.2.2.2.1;simp;omega))
   have hiv:F8 wr (Z6 (.slice A i c)) (.slice A i c) (vO m i):=by
    obtain⟨A3,c3,e3,h31,h32,h33,h34⟩:=hO.form
    injection e3 with e3a e3b e3c
    subst e3a e3c
    obtain⟨g3,hg3⟩:=EA (.slice A i c)
    have hl:=pV m i
    refine⟨A,c,g3,by rw[hl],by rw[hl];exact h31,h32,by rw[hl];exact h34 g3 hg3,fun hne=> ?_⟩
    obtain⟨o,hA,_⟩:=(h34 g3 hg3).2 (by omega)
    rw[hA];simp[V8]
   have hiv2:=hiv.keep k1 (fun y hy=>by have:=hH y hy;simp;omega)
   have hlt2:∀ y∈Z6 (.slice A i c),tb<y∧y<wr.heap.size:=fun y hy=>⟨hH y hy,hO.lt y hy⟩
   have HV:=U0 (U2 hiv2 (U2 hlt2 hcf))
   obtain⟨wS,hwS⟩:∃ wS,wr.setCell ⟨tb,1,none⟩ (.int .i64 (1+(f:Int)))=wS:=⟨_,rfl⟩
   rw[hwS] at rs k1 r0 kw
   have HV:V5 (F8 wS (Z6 (.slice A i c)) (.slice A i c) (vO m i)∧(∀ y∈Z6 (.slice A i c),tb<y∧y<wr.heap.size)∧UU a m=⟨a,1+(f:Int),vO m i⟩):=U0 (by rw[←hwS];exact HV.o)
   obtain⟨XL,hXL⟩:∃ XL,bA ⟨a,1+(f:Int),vO m i⟩ (.slice A i c)=XL:=⟨_,rfl⟩
   have xl:XL.length=3:=by rw[←hXL];rfl
   have xo:∀ u∈XL,u.oneCell'=true:=by rw[←hXL];exact MC _ rfl
   rw[hXL] at rs
   have rr:=r0.setL (vs:=XL) (o:=0)
   rw[F7 (by rw[xl,U4];exact HR2.o.2.2.2.2.symm)] at rr
   have ht:=r0.there (o:=0) (n:=XL.toArray.size) (by simp only[U4];have:=HR2.o.2.2.2.2;omega)
   have hJ:(prog.info? 31).map (·.size)=some XL.toArray.size:=by rw[U4,xl];exact S9
   have hJl:(prog.info? 31).map (·.size)=some XL.length:=by rw[xl];exact S9
   have HS:=U0 (U2 rs.rangeAll (U2 rr (U2 ht (U2 hJl (U2 hJ (U2 (all_oneCell_toArray xo) kw))))))
   have hsz:=k1.size
   have HX:=U0 (U2 hXL hsz)
   have HWS:=U0 hwS
   clear hP hP0 hO hH hk hiv hiv2 hlt2 hcf rs r0 kw rr ht hJ hJl hXL xl xo hf e1 k1 hsz hwS
   go_upto_region 8 with fail
   rw[show wr.setCell ⟨tb,1,none⟩ (.int .i64 (1+(f:Int)))=wS from HWS.o]
   clear c1 c2 f1
   go_wp2_with (first
    |(refine wpList_load_mid rfl 31 (.tmp 5) rfl tb 0 rfl _ _ HS.o.1 underlying31 rfl HS.o.2.2.2.1 ?_)
    |(refine wpList_store_mid rfl 31 (.tmp 4) (.tmp 38) rfl w.heap.size 0 XL.toArray rfl rfl HS.o.2.2.1 HS.o.2.2.2.2.1 HS.o.2.2.2.2.2.1 ?_))
   refine bodyPost_ret (results_cell_row rfl _ _ w.heap.size 31 _ (0,0) _ rfl HS.o.2.1 underlying31 rfl HS.o.2.2.2.2.1) rfl ?_
   have ks:=(U1.refl [w.heap.size] wS).setL (vs:=XL) (g:=w.heap.size) (o:=0) (by simp)
   refine⟨.slice A i c,by rw[HV.o.2.2,HX.o.1],Z6 (.slice A i c),by rw[HV.o.2.2];exact HV.o.1.keep ks (fun y hy=>by have h1:=(HV.o.2.1 y hy).1;have h2:=HR2.o.2.2.2.1;simp;omega),fun y hy=>⟨by have h1:=(HV.o.2.1 y hy).1;have h2:=HR2.o.2.2.2.1;omega,by have h1:=(HV.o.2.1 y hy).2;have h2:=HX.o.2;have h3:=ks.size;omega⟩,HS.o.2.2.2.2.2.2.setL (.inr (Nat.le_refl _))⟩
structure SD where
 kind:Int
 frm:Int
 dst:Int
 n0:Int
 n1:Int
 n2:Int
 n3:Int
 n4:Int
 b:List UInt8
def sdL (s:SD) (v:Value):List Value:=[.int .i64 s.kind,.int .i64 s.frm,.int .i64 s.dst,.int .i64 s.n0,.int .i64 s.n1,.int .i64 s.n2,.int .i64 s.n3,.int .i64 s.n4,v]
def bigI:Int:=1125899906842624
def TF (s:SD):RQ:=⟨s.n0 % 3,1+s.n1 % 1125899906842624,1+s.n2 % 4,if s.n2 % 4=1 then 1+s.n3 % 1125899906842624 else if s.n2 % 4=3 then 1+s.n3 % 255 else 0,if s.n2 % 4=3 then List.replicate 32 0 else X8 (s.b.take 32),if s.n2 % 4=1 then 7::s.b.take 1000 else[]⟩
def vI (s:SD):AN:=⟨s.n0 % 3,1+s.n1 % 1125899906842624,s.n2 % 4,s.n4 % 1125899906842624,s.n3 % 256,X8 (s.b.take 32),s.b.take 1024⟩
def vG (x y:Int):CF:=UU (x % 1125899906842624) (y % 1048576).toNat
def zS (s:SD) (i:Nat):VT:=⟨1+((s.n4 % 1125899906842624).toNat/(i+1):Nat),vG (IntKind.i64.wrap (s.n0+i)) (IntKind.i64.wrap (s.n3+IntKind.i64.wrap (7*i)))⟩
def uG (s:SD) (k:Nat):List VT:=(List.range k).map (zS s)
def X9 (x:Int):Int:=kP.getD (x % 10).toNat 0
def UB (s:SD):PK:=⟨1+s.kind % 14,X9 s.frm,X9 s.dst,0,0,0,false,I7,l8,V7,[],[]⟩
def GA (s:SD):PK:=
 let p:=UB s
 let num:=s.n0 % 1125899906842624
 let seq:=s.n1 % 1125899906842624
 let bal:=s.n4 % 1125899906842624
 match (s.kind % 14).toNat with
 |0=>{p with req:=TF s}
 |1=>{p with ans:=vI s}
 |2=>{p with num:=num,seq:=seq,req:=TF s}
 |3=>{p with num:=num,seq:=seq}
 |4=>{p with num:=num,seq:=seq-1}
 |5=>{p with num:=num,seq:=seq,bytes:=s.b.take 3000}
 |6=>{p with conf:=vG s.n0 s.n1}
 |7=>{p with num:=num,ready:=decide (seq % 2=0)}
 |9=>{p with ballot:=bal,seq:=seq}
 |10=>{p with ballot:=bal,seq:=seq,votes:=uG s (s.n2 % 9).toNat}
 |11=>{p with ballot:=bal,seq:=seq,conf:=vG s.n0 s.n1}
 |12=>{p with ballot:=bal,seq:=seq}
 |13=>{p with ballot:=bal}
 |_=>p
theorem iL (b:List UInt8):(X8 (b.take 32)).length=32:=aD (by rw[List.length_take];omega)
theorem lQ (x:Int):WB (X9 x)=true∧0≤X9 x∧X9 x≤22:=by
 unfold X9
 have h:(x % 10).toNat<10:=by omega
 generalize (x % 10).toNat=k at h
 have hs:k=0∨k=1∨k=2∨k=3∨k=4∨k=5∨k=6∨k=7∨k=8∨k=9:=by omega
 rcases hs with rfl|rfl|rfl|rfl|rfl|rfl|rfl|rfl|rfl|rfl<;>decide
theorem iP (s:SD):OA (GA s).frm∧OA (GA s).dst:=by
 have h1:=(lQ s.frm).2
 have h2:=(lQ s.dst).2
 have e:(GA s).frm=X9 s.frm∧(GA s).dst=X9 s.dst:=by
  unfold GA
  dsimp only
  split<;>exact⟨rfl,rfl⟩
 rw[e.1,e.2]
 unfold OA
 omega
end Go.Proofs.YthfdkonhjpdflaaGreatDoor
