import Derived.Test.YthfdkonhjpdflaaGreatDoorPkD
namespace Go.Proofs.YthfdkonhjpdflaaGreatDoor
open Go.RowKit Go.Proofs.Tryz
set_option linter.unusedVariables false
set_option maxRecDepth 100000
set_option linter.unusedSimpArgs false
set_option maxHeartbeats 8000000
theorem l5.cell' {w:World} {g h:Nat} {t:TypeId} {cs:Array Value} (r:l5 w g t cs) (e:g=h) (i:Nat):w.cell? ⟨h,i,none⟩=cs[i]? :=by subst e;exact r.cell i
theorem JM (F:List Nat) (r:RQ) (ev:Value) (w:World) (h:dH w F r ev) (hok:r.ok=false):
 Calls prog 14 #[.agg (U8 r ev).toArray] w fun e w'=>e= .returned (.tuple #[.slice none 0 0,.int .i64 2])∧U1 [] w w':=by
 have hsz:(U8 r ev).length=37:=O8 h.1
 have k1:=(U1.refl [] w).alloc (.cells (U8 r ev).toArray 26)
 have r1:=l5.new w 26 (U8 r ev).toArray
 obtain⟨w1,hw1⟩:∃ w1,w.alloc (.cells (U8 r ev).toArray 26)=w1:=⟨_,rfl⟩
 rw[hw1] at k1 r1
 have h1:dH w1 F r ev:=⟨h.1,h.2.keep k1 (by simp)⟩
 have hI:(prog.info? 26).map (·.size)=some (U8 r ev).length:=by rw[hsz];exact D9
 have HS:=U0 (U2 r1.rangeAll (U2 hI (U2 k1 h1)))
 have HW:=U0 hw1
 clear hsz k1 r1 hw1 h1 hI h
 go_enter func14,ntmps14
 go_upto_region 1 with (with_reducible refine Z5 _ rfl 26 (.tmp 0) rfl _ rfl ?_)
 rw[HW.o]
 go_upto_region 2 with (first
  |(refine wpList_load_mid rfl 26 (.tmp 1) rfl w.heap.size 0 rfl (U8 r ev) _ HS.o.1 underlying26 rfl HS.o.2.1 ?_)
  |(go_at_call 20;refine (fD F r ev _ HS.o.2.2.2).mono ?_;rintro e w2 ⟨rfl,kk⟩;rw[hok];have K2:=U0 (HS.o.2.2.1.then kk (by simp));clear kk))
 go_wp2_with fail
 go_ret2
 exact⟨rfl,K2.o⟩
theorem FH (F:List Nat) (r:RQ) (ev:Value) (w:World) (h:dH w F r ev) (hok:r.ok=true):
 Calls prog 14 #[.agg (U8 r ev).toArray] w (QD w (dE r)):=by
 have hsz:(U8 r ev).length=37:=O8 h.1
 have hf:=r.ok_facts hok
 have hnl:=h.1
 have k1:=(U1.refl [] w).alloc (.cells (U8 r ev).toArray 26)
 have r1:=l5.new w 26 (U8 r ev).toArray
 obtain⟨w1,hw1⟩:∃ w1,w.alloc (.cells (U8 r ev).toArray 26)=w1:=⟨_,rfl⟩
 rw[hw1] at k1 r1
 have h1:dH w1 F r ev:=⟨h.1,h.2.keep k1 (by simp)⟩
 have hI:(prog.info? 26).map (·.size)=some (U8 r ev).length:=by rw[hsz];exact D9
 have HS:=U0 (U2 r1.rangeAll (U2 hI (U2 k1 h1)))
 have HW:=U0 hw1
 have HR1:=U0 r1
 clear hsz k1 r1 hw1 h1 hI
 obtain⟨_,A,c,g,rfl,_,_,hsn,_⟩:=h
 have HF:=U0 hf
 have HN:=U0 hnl
 have HSN:=U0 hsn
 clear hf hnl hsn
 go_enter func14,ntmps14
 go_upto_region 1 with (with_reducible refine Z5 _ rfl 26 (.tmp 0) rfl _ rfl ?_)
 rw[HW.o]
 go_upto_region 2 with (first
  |(refine wpList_load_mid rfl 26 (.tmp 1) rfl w.heap.size 0 rfl (U8 r _) _ HS.o.1 underlying26 rfl HS.o.2.1 ?_)
  |(go_at_call 20;refine (fD F r _ _ HS.o.2.2.2).mono ?_;rintro e w2 ⟨rfl,kk⟩;rw[hok];have r2:=kk.row HR1.o (by simp);have K2:=U0 (HS.o.2.2.1.then kk (by simp));clear kk))
 obtain⟨tb,htb⟩:∃ tb,w.heap.size=tb:=⟨_,rfl⟩
 have hsn2:QA w2 A g r.env:=HSN.o.keep K2.o (by simp)
 have hsnn:QA w2.drew (some ⟨tb,4,none⟩) tb r.name:=fun hne=>⟨4,rfl,by rw[←htb];exact r2.lt,fun j b hb=>by
  refine (r2.cell' htb (4+j)).trans ?_
  exact IE r _ j (bv b) (by unfold U7;rw[List.getElem?_map,hb];rfl)⟩
 rw[htb] at r2 ⊢
 have z0:w2.drew.cell? ⟨tb,0,none⟩=some (.int .i64 r.client):=r2.cell 0
 have z1:w2.drew.cell? ⟨tb,1,none⟩=some (.int .i64 r.num):=r2.cell 1
 have z2:w2.drew.cell? ⟨tb,2,none⟩=some (.int .i64 r.kind):=r2.cell 2
 have z3:w2.drew.cell? ⟨tb,3,none⟩=some (.int .i64 r.version):=r2.cell 3
 have ze:w2.drew.cell? ⟨tb,36,none⟩=some (.slice A r.env.length c):=(r2.cell 36).trans (WC HN.o)
 have Z:V5 (∀ w',U1 [] w2.drew w'→(w'.cell? ⟨tb,0,none⟩=some (.int .i64 r.client)∧w'.cell? ⟨tb,1,none⟩=some (.int .i64 r.num)∧w'.cell? ⟨tb,2,none⟩=some (.int .i64 r.kind)∧w'.cell? ⟨tb,3,none⟩=some (.int .i64 r.version)∧w'.cell? ⟨tb,36,none⟩=some (.slice A r.env.length c))):=U0 (fun w' k=>⟨(k.cell (p:=⟨tb,0,none⟩) r2.lt (by simp)).trans z0,(k.cell (p:=⟨tb,1,none⟩) r2.lt (by simp)).trans z1,(k.cell (p:=⟨tb,2,none⟩) r2.lt (by simp)).trans z2,(k.cell (p:=⟨tb,3,none⟩) r2.lt (by simp)).trans z3,(k.cell (p:=⟨tb,36,none⟩) r2.lt (by simp)).trans ze⟩)
 have Z0:=Z.o _ (U1.refl [] w2.drew)
 have HSE:=U0 (U2 (show QA w2.drew A g r.env from hsn2) hsnn)
 have KD:=U0 (K2.o.then ((U1.refl [] w2).drew) (by simp))
 clear hsn2 hsnn r2 z0 z1 z2 z3 ze
 have HC:=U0 (U2 (GH (n:=r.num) (by have:=HF.o;omega)) (U2 (GH (n:=r.version) (by have:=HF.o;omega)) (GH (n:=(r.env.length:Int)) (by have:=HF.o;omega))))
 have HL1:V5 (([]:List UInt8).length≤1000000000):=U0 (by have h1:=HC.o;have h2:=HF.o;have h3:=HN.o;simp only[List.length_append,UE,List.length_nil,Int.toNat_natCast] at h1 ⊢;omega)
 have HL2:V5 ((([]:List UInt8)++l7 1 r.client.toNat).length≤1000000000):=U0 (by have h1:=HC.o;have h2:=HF.o;have h3:=HN.o;simp only[List.length_append,UE,List.length_nil,Int.toNat_natCast] at h1 ⊢;omega)
 have HL3:V5 (((([]:List UInt8)++l7 1 r.client.toNat)++cb r.num.toNat).length≤1000000000):=U0 (by have h1:=HC.o;have h2:=HF.o;have h3:=HN.o;simp only[List.length_append,UE,List.length_nil,Int.toNat_natCast] at h1 ⊢;omega)
 have HL4:V5 ((((([]:List UInt8)++l7 1 r.client.toNat)++cb r.num.toNat)++l7 1 r.kind.toNat).length≤1000000000):=U0 (by have h1:=HC.o;have h2:=HF.o;have h3:=HN.o;simp only[List.length_append,UE,List.length_nil,Int.toNat_natCast] at h1 ⊢;omega)
 have HL5:V5 (((((([]:List UInt8)++l7 1 r.client.toNat)++cb r.num.toNat)++l7 1 r.kind.toNat)++cb r.version.toNat).length≤1000000000):=U0 (by have h1:=HC.o;have h2:=HF.o;have h3:=HN.o;simp only[List.length_append,UE,List.length_nil,Int.toNat_natCast] at h1 ⊢;omega)
 have HL6:V5 ((((((([]:List UInt8)++l7 1 r.client.toNat)++cb r.num.toNat)++l7 1 r.kind.toNat)++cb r.version.toNat)++r.name).length≤1000000000):=U0 (by have h1:=HC.o;have h2:=HF.o;have h3:=HN.o;simp only[List.length_append,UE,List.length_nil,Int.toNat_natCast] at h1 ⊢;omega)
 have HL7:V5 ((((((((([]:List UInt8)++l7 1 r.client.toNat)++cb r.num.toNat)++l7 1 r.kind.toNat)++cb r.version.toNat)++r.name)++cb r.env.length)++r.env).length≤1000000000):=U0 (by have h1:=HC.o;have h2:=HF.o;have h3:=HN.o;simp only[List.length_append,UE,List.length_nil,Int.toNat_natCast] at h1 ⊢;omega)
 go_upto_region 4 with fail
 go_region_held3 (fun w'=>w'.cell? ⟨tb,0,none⟩=some (.int .i64 r.client)∧w'.cell? ⟨tb,1,none⟩=some (.int .i64 r.num)∧w'.cell? ⟨tb,2,none⟩=some (.int .i64 r.kind)∧w'.cell? ⟨tb,3,none⟩=some (.int .i64 r.version)∧w'.cell? ⟨tb,36,none⟩=some (.slice A r.env.length c)) (first|exact Z0|exact Y0|exact Y1|exact Y2|exact Y3|exact Y4|exact Y5|exact Y6|exact YZ)
  (first
    |(go_at_call 41;refine xE.start.mono ?_;rintro e v0 ⟨p,rfl,o0⟩;have O0:=U0 o0;have Y0:=Z.o _ o0.kept;clear o0)
    |(go_at_call 42;(with_reducible refine (O0.o.num r.client (by have:=HF.o;omega) (by have:=HF.o;omega) HL1.o).mono ?_);rintro e v1 ⟨rfl,o1⟩;have O1:=U0 o1;have Y1:=Z.o _ o1.kept;clear o1)
    |(go_at_call 43;(with_reducible refine (O1.o.count r.num (by have:=HF.o;omega) (by have:=HF.o;omega) HL2.o).mono ?_);rintro e v2 ⟨rfl,o2⟩;have O2:=U0 o2;have Y2:=Z.o _ o2.kept;clear o2)
    |(go_at_call 42;(with_reducible refine (O2.o.num r.kind (by have:=HF.o;omega) (by have:=HF.o;omega) HL3.o).mono ?_);rintro e v3 ⟨rfl,o3⟩;have O3:=U0 o3;have Y3:=Z.o _ o3.kept;clear o3)
    |(go_at_call 43;(with_reducible refine (O3.o.count r.version (by have:=HF.o;omega) (by have:=HF.o;omega) HL4.o).mono ?_);rintro e v4 ⟨rfl,o4⟩;have O4:=U0 o4;have Y4:=Z.o _ o4.kept;clear o4)
    |(go_at_call 79;(with_reducible refine (O4.o.raw _ tb 32 32 r.name HN.o (HSE.o.2.keep O4.o.kept (by simp)) HL5.o (by rw[HN.o];omega)).mono ?_);rintro e v5 ⟨rfl,o5⟩;have O5:=U0 o5;have Y5:=Z.o _ o5.kept;clear o5)
    |(go_at_call 49;(with_reducible refine (O5.o.text A g r.env.length c r.env rfl HSE.o.1 HL6.o (by have:=HF.o;omega)).mono ?_);rintro e v6 ⟨rfl,o6⟩;have O6:=U0 o6;have Y6:=Z.o _ o6.kept;clear o6)
    |(go_at_call 50;(with_reducible refine (O6.o.bytes HL7.o).mono ?_);rintro e vz ⟨u,G,rfl,ub,un,uk⟩;have OZ:=U0 (U2 ub (U2 un uk));have YZ:=Z.o _ uk;clear ub un uk))
 go_wp2_with fail
 go_ret2
 exact⟨_,G,rfl,OZ.o.1,fun y hy=>⟨by have h1:=(OZ.o.2.1 y hy).1;have h2:=KD.o.size;omega,(OZ.o.2.1 y hy).2⟩,KD.o.then OZ.o.2.2 (by simp)⟩
theorem GM (F:List Nat) (r:AN) (ev:Value) (w:World) (h:BH w F r ev) (hok:r.ok=false):
 Calls prog 16 #[.agg (x9 r ev).toArray] w fun e w'=>e= .returned (.tuple #[.slice none 0 0,.int .i64 2])∧U1 [] w w':=by
 have hsz:(x9 r ev).length=38:=y9 h.1
 have k1:=(U1.refl [] w).alloc (.cells (x9 r ev).toArray 28)
 have r1:=l5.new w 28 (x9 r ev).toArray
 obtain⟨w1,hw1⟩:∃ w1,w.alloc (.cells (x9 r ev).toArray 28)=w1:=⟨_,rfl⟩
 rw[hw1] at k1 r1
 have h1:BH w1 F r ev:=⟨h.1,h.2.keep k1 (by simp)⟩
 have hI:(prog.info? 28).map (·.size)=some (x9 r ev).length:=by rw[hsz];exact Q9
 have HS:=U0 (U2 r1.rangeAll (U2 hI (U2 k1 h1)))
 have HW:=U0 hw1
 clear hsz k1 r1 hw1 h1 hI h
 go_enter func16,ntmps16
 go_upto_region 1 with (with_reducible refine Z5 _ rfl 28 (.tmp 0) rfl _ rfl ?_)
 rw[HW.o]
 go_upto_region 2 with (first
  |(refine wpList_load_mid rfl 28 (.tmp 1) rfl w.heap.size 0 rfl (x9 r ev) _ HS.o.1 underlying28 rfl HS.o.2.1 ?_)
  |(go_at_call 21;refine (LD F r ev _ HS.o.2.2.2).mono ?_;rintro e w2 ⟨rfl,kk⟩;rw[hok];have K2:=U0 (HS.o.2.2.1.then kk (by simp));clear kk))
 go_wp2_with fail
 go_ret2
 exact⟨rfl,K2.o⟩
theorem EH (F:List Nat) (r:AN) (ev:Value) (w:World) (h:BH w F r ev) (hok:r.ok=true):
 Calls prog 16 #[.agg (x9 r ev).toArray] w (QD w (UD r)):=by
 have hsz:(x9 r ev).length=38:=y9 h.1
 have hf:=r.ok_facts hok
 have hnl:=h.1
 have k1:=(U1.refl [] w).alloc (.cells (x9 r ev).toArray 28)
 have r1:=l5.new w 28 (x9 r ev).toArray
 obtain⟨w1,hw1⟩:∃ w1,w.alloc (.cells (x9 r ev).toArray 28)=w1:=⟨_,rfl⟩
 rw[hw1] at k1 r1
 have h1:BH w1 F r ev:=⟨h.1,h.2.keep k1 (by simp)⟩
 have hI:(prog.info? 28).map (·.size)=some (x9 r ev).length:=by rw[hsz];exact Q9
 have HS:=U0 (U2 r1.rangeAll (U2 hI (U2 k1 h1)))
 have HW:=U0 hw1
 have HR1:=U0 r1
 clear hsz k1 r1 hw1 h1 hI
 obtain⟨_,A,c,g,rfl,_,_,hsn,_⟩:=h
 have HF:=U0 hf
 have HN:=U0 hnl
 have HSN:=U0 hsn
 clear hf hnl hsn
 go_enter func16,ntmps16
 go_upto_region 1 with (with_reducible refine Z5 _ rfl 28 (.tmp 0) rfl _ rfl ?_)
 rw[HW.o]
 go_upto_region 2 with (first
  |(refine wpList_load_mid rfl 28 (.tmp 1) rfl w.heap.size 0 rfl (x9 r _) _ HS.o.1 underlying28 rfl HS.o.2.1 ?_)
  |(go_at_call 21;refine (LD F r _ _ HS.o.2.2.2).mono ?_;rintro e w2 ⟨rfl,kk⟩;rw[hok];have r2:=kk.row HR1.o (by simp);have K2:=U0 (HS.o.2.2.1.then kk (by simp));clear kk))
 obtain⟨tb,htb⟩:∃ tb,w.heap.size=tb:=⟨_,rfl⟩
 have hsn2:QA w2 A g r.env:=HSN.o.keep K2.o (by simp)
 have hsnn:QA w2.drew (some ⟨tb,5,none⟩) tb r.name:=fun hne=>⟨5,rfl,by rw[←htb];exact r2.lt,fun j b hb=>by
  refine (r2.cell' htb (5+j)).trans ?_
  exact UF r _ j (bv b) (by unfold U7;rw[List.getElem?_map,hb];rfl)⟩
 rw[htb] at r2 ⊢
 have z0:w2.drew.cell? ⟨tb,0,none⟩=some (.int .i64 r.client):=r2.cell 0
 have z1:w2.drew.cell? ⟨tb,1,none⟩=some (.int .i64 r.num):=r2.cell 1
 have z2:w2.drew.cell? ⟨tb,2,none⟩=some (.int .i64 r.code):=r2.cell 2
 have z3:w2.drew.cell? ⟨tb,3,none⟩=some (.int .i64 r.version):=r2.cell 3
 have z4:w2.drew.cell? ⟨tb,4,none⟩=some (.int .i64 r.epoch):=r2.cell 4
 have ze:w2.drew.cell? ⟨tb,37,none⟩=some (.slice A r.env.length c):=(r2.cell 37).trans (VC HN.o)
 have Z:V5 (∀ w',U1 [] w2.drew w'→(w'.cell? ⟨tb,0,none⟩=some (.int .i64 r.client)∧w'.cell? ⟨tb,1,none⟩=some (.int .i64 r.num)∧w'.cell? ⟨tb,2,none⟩=some (.int .i64 r.code)∧w'.cell? ⟨tb,3,none⟩=some (.int .i64 r.version)∧w'.cell? ⟨tb,4,none⟩=some (.int .i64 r.epoch)∧w'.cell? ⟨tb,37,none⟩=some (.slice A r.env.length c))):=U0 (fun w' k=>⟨(k.cell (p:=⟨tb,0,none⟩) r2.lt (by simp)).trans z0,(k.cell (p:=⟨tb,1,none⟩) r2.lt (by simp)).trans z1,(k.cell (p:=⟨tb,2,none⟩) r2.lt (by simp)).trans z2,(k.cell (p:=⟨tb,3,none⟩) r2.lt (by simp)).trans z3,(k.cell (p:=⟨tb,4,none⟩) r2.lt (by simp)).trans z4,(k.cell (p:=⟨tb,37,none⟩) r2.lt (by simp)).trans ze⟩)
 have Z0:=Z.o _ (U1.refl [] w2.drew)
 have HSE:=U0 (U2 (show QA w2.drew A g r.env from hsn2) hsnn)
 have KD:=U0 (K2.o.then ((U1.refl [] w2).drew) (by simp))
 clear hsn2 hsnn r2 z0 z1 z2 z3 z4 ze
 have HC:=U0 (U2 (GH (n:=r.num) (by have:=HF.o;omega)) (U2 (GH (n:=r.version) (by have:=HF.o;omega)) (GH (n:=(r.env.length:Int)) (by have:=HF.o;omega))))
 have HL1:V5 (([]:List UInt8).length≤1000000000):=U0 (by have h1:=HC.o;have h2:=HF.o;have h3:=HN.o;simp only[List.length_append,UE,List.length_nil,Int.toNat_natCast] at h1 ⊢;omega)
 have HL2:V5 ((([]:List UInt8)++l7 1 r.client.toNat).length≤1000000000):=U0 (by have h1:=HC.o;have h2:=HF.o;have h3:=HN.o;simp only[List.length_append,UE,List.length_nil,Int.toNat_natCast] at h1 ⊢;omega)
 have HL3:V5 (((([]:List UInt8)++l7 1 r.client.toNat)++cb r.num.toNat).length≤1000000000):=U0 (by have h1:=HC.o;have h2:=HF.o;have h3:=HN.o;simp only[List.length_append,UE,List.length_nil,Int.toNat_natCast] at h1 ⊢;omega)
 have HL4:V5 ((((([]:List UInt8)++l7 1 r.client.toNat)++cb r.num.toNat)++l7 1 r.code.toNat).length≤1000000000):=U0 (by have h1:=HC.o;have h2:=HF.o;have h3:=HN.o;simp only[List.length_append,UE,List.length_nil,Int.toNat_natCast] at h1 ⊢;omega)
 have HL5:V5 (((((([]:List UInt8)++l7 1 r.client.toNat)++cb r.num.toNat)++l7 1 r.code.toNat)++cb r.version.toNat).length≤1000000000):=U0 (by have h1:=HC.o;have h2:=HF.o;have h3:=HN.o;simp only[List.length_append,UE,List.length_nil,Int.toNat_natCast] at h1 ⊢;omega)
 have HL6:V5 ((((((([]:List UInt8)++l7 1 r.client.toNat)++cb r.num.toNat)++l7 1 r.code.toNat)++cb r.version.toNat)++l7 1 r.epoch.toNat).length≤1000000000):=U0 (by have h1:=HC.o;have h2:=HF.o;have h3:=HN.o;simp only[List.length_append,UE,List.length_nil,Int.toNat_natCast] at h1 ⊢;omega)
 have HL7:V5 (((((((([]:List UInt8)++l7 1 r.client.toNat)++cb r.num.toNat)++l7 1 r.code.toNat)++cb r.version.toNat)++l7 1 r.epoch.toNat)++r.name).length≤1000000000):=U0 (by have h1:=HC.o;have h2:=HF.o;have h3:=HN.o;simp only[List.length_append,UE,List.length_nil,Int.toNat_natCast] at h1 ⊢;omega)
 have HL8:V5 (((((((((([]:List UInt8)++l7 1 r.client.toNat)++cb r.num.toNat)++l7 1 r.code.toNat)++cb r.version.toNat)++l7 1 r.epoch.toNat)++r.name)++cb r.env.length)++r.env).length≤1000000000):=U0 (by have h1:=HC.o;have h2:=HF.o;have h3:=HN.o;simp only[List.length_append,UE,List.length_nil,Int.toNat_natCast] at h1 ⊢;omega)
 go_upto_region 4 with fail
 go_region_held3 (fun w'=>w'.cell? ⟨tb,0,none⟩=some (.int .i64 r.client)∧w'.cell? ⟨tb,1,none⟩=some (.int .i64 r.num)∧w'.cell? ⟨tb,2,none⟩=some (.int .i64 r.code)∧w'.cell? ⟨tb,3,none⟩=some (.int .i64 r.version)∧w'.cell? ⟨tb,4,none⟩=some (.int .i64 r.epoch)∧w'.cell? ⟨tb,37,none⟩=some (.slice A r.env.length c)) (first|exact Z0|exact Y0|exact Y1|exact Y2|exact Y3|exact Y4|exact Y5|exact Y6|exact Y7|exact YZ)
  (first
    |(go_at_call 41;refine xE.start.mono ?_;rintro e v0 ⟨p,rfl,o0⟩;have O0:=U0 o0;have Y0:=Z.o _ o0.kept;clear o0)
    |(go_at_call 42;(with_reducible refine (O0.o.num r.client (by have:=HF.o;omega) (by have:=HF.o;omega) HL1.o).mono ?_);rintro e v1 ⟨rfl,o1⟩;have O1:=U0 o1;have Y1:=Z.o _ o1.kept;clear o1)
    |(go_at_call 43;(with_reducible refine (O1.o.count r.num (by have:=HF.o;omega) (by have:=HF.o;omega) HL2.o).mono ?_);rintro e v2 ⟨rfl,o2⟩;have O2:=U0 o2;have Y2:=Z.o _ o2.kept;clear o2)
    |(go_at_call 42;(with_reducible refine (O2.o.num r.code (by have:=HF.o;omega) (by have:=HF.o;omega) HL3.o).mono ?_);rintro e v3 ⟨rfl,o3⟩;have O3:=U0 o3;have Y3:=Z.o _ o3.kept;clear o3)
    |(go_at_call 43;(with_reducible refine (O3.o.count r.version (by have:=HF.o;omega) (by have:=HF.o;omega) HL4.o).mono ?_);rintro e v4 ⟨rfl,o4⟩;have O4:=U0 o4;have Y4:=Z.o _ o4.kept;clear o4)
    |(go_at_call 42;(with_reducible refine (O4.o.num r.epoch (by have:=HF.o;omega) (by have:=HF.o;omega) HL5.o).mono ?_);rintro e v5 ⟨rfl,o5⟩;have O5:=U0 o5;have Y5:=Z.o _ o5.kept;clear o5)
    |(go_at_call 79;(with_reducible refine (O5.o.raw _ tb 32 32 r.name HN.o (HSE.o.2.keep O5.o.kept (by simp)) HL6.o (by rw[HN.o];omega)).mono ?_);rintro e v6 ⟨rfl,o6⟩;have O6:=U0 o6;have Y6:=Z.o _ o6.kept;clear o6)
    |(go_at_call 49;(with_reducible refine (O6.o.text A g r.env.length c r.env rfl HSE.o.1 HL7.o (by have:=HF.o;omega)).mono ?_);rintro e v7 ⟨rfl,o7⟩;have O7:=U0 o7;have Y7:=Z.o _ o7.kept;clear o7)
    |(go_at_call 50;(with_reducible refine (O7.o.bytes HL8.o).mono ?_);rintro e vz ⟨u,G,rfl,ub,un,uk⟩;have OZ:=U0 (U2 ub (U2 un uk));have YZ:=Z.o _ uk;clear ub un uk))
 go_wp2_with fail
 go_ret2
 exact⟨_,G,rfl,OZ.o.1,fun y hy=>⟨by have h1:=(OZ.o.2.1 y hy).1;have h2:=KD.o.size;omega,(OZ.o.2.1 y hy).2⟩,KD.o.then OZ.o.2.2 (by simp)⟩
end Go.Proofs.YthfdkonhjpdflaaGreatDoor
