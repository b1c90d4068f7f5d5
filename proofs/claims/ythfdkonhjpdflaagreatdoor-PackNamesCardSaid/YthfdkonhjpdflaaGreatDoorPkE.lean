import Derived.Test.YthfdkonhjpdflaaGreatDoorPk21
import Derived.Test.YthfdkonhjpdflaaGreatDoorPk16
namespace Go.Proofs.YthfdkonhjpdflaaGreatDoor
open Go.RowKit Go.Proofs.Tryz
set_option linter.unusedVariables false
set_option maxRecDepth 100000
set_option linter.unusedSimpArgs false
set_option maxHeartbeats 16000000
theorem CJ:∀ (l pre:List Int),NC pre l=true→∀ n∈l,10≤n∧n≤13
 |[],_,_,n,hn=>by simp at hn
 |a::r,pre,h,n,hn=>by
  unfold NC at h
  rw[Bool.and_eq_true,Bool.and_eq_true,EC] at h
  rcases List.mem_cons.1 hn with rfl|hn
  ·exact h.1
  ·exact CJ r _ h.2.2 n hn
theorem CF.ok_facts {c:CF} (h:c.ok=true):(0≤c.num∧c.num≤9007199254740991)∧(1≤c.chain.length∧c.chain.length≤4)∧(1≤c.full∧c.full≤c.chain.length)∧∀ n∈c.chain,10≤n∧n≤13:=by
 unfold CF.ok at h
 simp only[Bool.and_eq_true,EC,decide_eq_true_eq] at h
 exact⟨h.1,⟨h.2.1,h.2.2.1⟩,h.2.2.2.1,CJ _ _ h.2.2.2.2⟩
theorem BJ:∀ (l m:List Int),wK (l++m)=wK l++wK m
 |[],m=>rfl
 |a::r,m=>by rw[List.cons_append,wK,wK,BJ r m,List.append_assoc]
theorem NM {l:List Int} {i:Nat} {a:Int} (h:l[i]? =some a):wK (l.take (i+1))=wK (l.take i)++l7 1 a.toNat:=by
 rw[List.take_add_one,h,BJ]
 simp[wK]
theorem VG:∀ l:List Int,(wK l).length=l.length
 |[]=>rfl
 |a::r=>by simp only[wK,List.length_append,UE,VG r,List.length_cons];omega
theorem PL (F:List Nat) (r:CF) (cv:Value) (w:World) (h:F8 w F cv r.chain) (hok:r.ok=false):
 Calls prog 18 #[.agg (bA r cv).toArray] w fun e w'=>e= .returned (.tuple #[.slice none 0 0,.int .i64 2])∧U1 [] w w':=by
 have k1:=(U1.refl [] w).alloc (.cells (bA r cv).toArray 31)
 have r1:=l5.new w 31 (bA r cv).toArray
 obtain⟨w1,hw1⟩:∃ w1,w.alloc (.cells (bA r cv).toArray 31)=w1:=⟨_,rfl⟩
 rw[hw1] at k1 r1
 have HS:=U0 (U2 r1.rangeAll (U2 k1 (h.keep k1 (by simp))))
 have HW:=U0 hw1
 clear k1 r1 hw1 h
 go_enter func18,ntmps18
 go_upto_region 1 with (with_reducible refine Z5 _ rfl 31 (.tmp 0) rfl _ rfl ?_)
 rw[HW.o]
 go_upto_region 2 with (first
  |(refine wpList_load_mid rfl 31 (.tmp 1) rfl w.heap.size 0 rfl (bA r cv) _ HS.o.1 underlying31 rfl S9 ?_)
  |(go_at_call 22;refine (tC F r cv _ HS.o.2.2).mono ?_;rintro e w2 ⟨rfl,kk⟩;rw[hok];have K2:=U0 (HS.o.2.1.then kk (by simp));clear kk))
 go_wp2_with fail
 go_ret2
 exact⟨rfl,K2.o⟩
theorem RF (F:List Nat) (r:CF) (cv:Value) (w:World) (h:F8 w F cv r.chain) (hok:r.ok=true):
 Calls prog 18 #[.agg (bA r cv).toArray] w (QD w (WE r)):=by
 have hf:=r.ok_facts hok
 have k1:=(U1.refl [] w).alloc (.cells (bA r cv).toArray 31)
 have r1:=l5.new w 31 (bA r cv).toArray
 obtain⟨w1,hw1⟩:∃ w1,w.alloc (.cells (bA r cv).toArray 31)=w1:=⟨_,rfl⟩
 rw[hw1] at k1 r1
 have HS:=U0 (U2 r1.rangeAll (U2 k1 (h.keep k1 (by simp))))
 have HW:=U0 hw1
 have HR1:=U0 r1
 obtain⟨A,c,g,rfl,_,hcm,hA,_⟩:=h
 have HF:=U0 hf
 have HA:=U0 hA
 clear k1 r1 hw1 hf hA
 go_enter func18,ntmps18
 go_upto_region 1 with (with_reducible refine Z5 _ rfl 31 (.tmp 0) rfl _ rfl ?_)
 rw[HW.o]
 go_upto_region 2 with (first
  |(refine wpList_load_mid rfl 31 (.tmp 1) rfl w.heap.size 0 rfl (bA r (.slice A r.chain.length c)) _ HS.o.1 underlying31 rfl S9 ?_)
  |(go_at_call 22;refine (tC F r _ _ HS.o.2.2).mono ?_;rintro e w2 ⟨rfl,kk⟩;rw[hok];have r2:=kk.row HR1.o (by simp);have K2:=U0 (HS.o.2.1.then kk (by simp));clear kk))
 obtain⟨L,hL⟩:∃ L,r.chain.length=L:=⟨_,rfl⟩
 obtain⟨tb,htb⟩:∃ tb,w.heap.size=tb:=⟨_,rfl⟩
 rw[htb] at r2 ⊢
 rw[hL] at r2 ⊢
 have hf4:L≤4:=by have:=HF.o.2.1;omega
 have hf1:1≤L:=by have:=HF.o.2.1;omega
 have z0:w2.drew.cell? ⟨tb,0,none⟩=some (.int .i64 r.num):=r2.cell 0
 have z1:w2.drew.cell? ⟨tb,1,none⟩=some (.int .i64 r.full):=r2.cell 1
 have z2:w2.drew.cell? ⟨tb,2,none⟩=some (.slice A L c):=(r2.cell 2).trans (by rw[←hL];rfl)
 have Z:V5 (∀ w',U1 [] w2.drew w'→(w'.cell? ⟨tb,0,none⟩=some (.int .i64 r.num)∧w'.cell? ⟨tb,1,none⟩=some (.int .i64 r.full)∧w'.cell? ⟨tb,2,none⟩=some (.slice A L c))):=U0 (fun w' k=>⟨(k.cell (p:=⟨tb,0,none⟩) r2.lt (by simp)).trans z0,(k.cell (p:=⟨tb,1,none⟩) r2.lt (by simp)).trans z1,(k.cell (p:=⟨tb,2,none⟩) r2.lt (by simp)).trans z2⟩)
 have Z0:=Z.o _ (U1.refl [] w2.drew)
 have KD:=U0 (K2.o.then ((U1.refl [] w2).drew) (by simp))
 have HL:=U0 hL
 clear r2 z0 z1 z2 hL
 have HC:=U0 (GH (n:=r.num) (by have:=HF.o.1;omega))
 have HL1:V5 (([]:List UInt8).length≤1000000000):=U0 (by simp)
 have HL2:V5 ((([]:List UInt8)++cb r.num.toNat).length≤1000000000):=U0 (by have:=HC.o;simp only[List.length_append,List.length_nil];omega)
 have HL3:V5 (((([]:List UInt8)++cb r.num.toNat)++l7 1 r.full.toNat).length≤1000000000):=U0 (by have:=HC.o;simp only[List.length_append,List.length_nil,UE];omega)
 go_upto_region 4 with fail
 go_region_held3 (fun w'=>w'.cell? ⟨tb,0,none⟩=some (.int .i64 r.num)∧w'.cell? ⟨tb,1,none⟩=some (.int .i64 r.full)∧w'.cell? ⟨tb,2,none⟩=some (.slice A L c)) (first|exact Z0|exact Y0|exact Y1|exact Y2|exact Y3)
  (first
    |(go_at_call 41;refine xE.start.mono ?_;rintro e v0 ⟨p,rfl,o0⟩;have O0:=U0 o0;have Y0:=Z.o _ o0.kept;clear o0)
    |(go_at_call 43;(with_reducible refine (O0.o.count r.num (by have:=HF.o.1;omega) (by have:=HF.o.1;omega) HL1.o).mono ?_);rintro e v1 ⟨rfl,o1⟩;have O1:=U0 o1;have Y1:=Z.o _ o1.kept;clear o1)
    |(go_at_call 42;(with_reducible refine (O1.o.num r.full (by have:=HF.o.2.2.1;omega) (by have:=HF.o.2.1;have:=HF.o.2.2.1;omega) HL2.o).mono ?_);rintro e v2 ⟨rfl,o2⟩;have O2:=U0 o2;have Y2:=Z.o _ o2.kept;clear o2)
    |(go_at_call 42;(with_reducible refine (O2.o.num (L:Int) (by omega) (by omega) HL3.o).mono ?_);rintro e v3 ⟨rfl,o3⟩;have O3:=U0 o3;have Y3:=Z.o _ o3.kept;clear o3))
 obtain⟨B,hB⟩:∃ B,((([]:List UInt8)++cb r.num.toNat)++l7 1 r.full.toNat)++l7 1 (L:Int).toNat=B:=⟨_,rfl⟩
 have hBl:B.length≤10:=by have:=HC.o;rw[←hB];simp only[List.length_append,List.length_nil,UE];omega
 have HB:=U0 (show WE r=B++wK r.chain by rw[←hB];unfold WE;rw[HL.o,Int.toNat_natCast])
 have O4:V5 (xE w2.drew v3 p B):=by rw[←hB];exact O3
 clear hB O3 Y0 Y1 Y2 Z0
 obtain⟨x0,x1,x2⟩:=Y3
 go_upto_region 6 with fail
 go_loopw [7,27] (fun _ v27 wx=>∃ i:Nat,i≤L∧v27= .int .i64 (i:Int)∧xE w2.drew wx p (B++wK (r.chain.take i))) (fun _ v27 _=>L-(intOf v27).toNat)
 case atStart=>exact⟨0,by omega,rfl,by simpa[wK] using O4.o⟩
 case round=>
  obtain⟨i,hi,rfl,ho⟩:=hrel
  have HO:=U0 ho
  clear ho
  by_cases hlt:i<L
  ·have hlt':(i:Int)<(L:Int):=by omega
   have hn0:(0:Int)≤(i:Int):=by omega
   have hw1:IntKind.i64.wrap ((i:Int)+1)=(i:Int)+1:=Z8 _ (by omega) (by omega)
   obtain⟨a,ha⟩:∃ a,r.chain[i]? =some a:=⟨_,List.getElem?_eq_getElem (by have:=HL.o;omega)⟩
   obtain⟨o,rfl,hgl,hcA⟩:=HA.o.2 (by have:=HL.o;omega)
   have hkk:=KD.o.then HO.o.kept (by simp)
   have y0:wr.cell? ⟨g,o+i,none⟩=some (.int .i64 a):=(hkk.cell (p:=⟨g,o+i,none⟩) hgl (by simp)).trans (hcA i (.int .i64 a) (by rw[List.getElem?_map,ha];rfl))
   have ham:=HF.o.2.2.2 a (List.mem_of_getElem? ha)
   have HT:=U0 (NM ha)
   have hll:(B++wK (r.chain.take i)).length≤1000000000:=by rw[List.length_append,VG,List.length_take];omega
   have HLL:=U0 hll
   clear ha hcA hkk hll
   go_wp2_with (first
    |(go_at_call 42;(with_reducible refine (HO.o.num a (by omega) (by omega) HLL.o).mono ?_);rintro e v4 ⟨rfl,o4⟩;have HO4:=U0 o4;clear o4))
   go_roundw
   case rel=>exact⟨i+1,by omega,by go_num,by rw[HT.o,←List.append_assoc];exact HO4.o⟩
   case measure=>simp[intOf];omega
  ·obtain rfl:i=L:=by omega
   have HE:=U0 (show B++wK (r.chain.take i)=WE r by rw[HB.o,←HL.o,List.take_length])
   rw[HE.o] at HO
   have hll:(WE r).length≤1000000000:=by rw[HB.o,List.length_append,VG,HL.o];omega
   have HLL:=U0 hll
   clear hll
   go_wp2_with (first
    |(go_at_call 50;(with_reducible refine (HO.o.bytes HLL.o).mono ?_);rintro e vz ⟨u,G,rfl,ub,un,uk⟩;have OZ:=U0 (U2 ub (U2 un uk));clear ub un uk))
   go_ret2
   exact⟨_,G,rfl,OZ.o.1,fun y hy=>⟨by have h1:=(OZ.o.2.1 y hy).1;have h2:=KD.o.size;omega,(OZ.o.2.1 y hy).2⟩,KD.o.then OZ.o.2.2 (by simp)⟩
def zG (w0:World) (p:Nat) (l:List UInt8) (e:Ending) (w':World):Prop:=e= .returned (.tuple #[])∧xE w0 w' p l
theorem TI (F:List Nat) (r:RQ) (ev:Value) (w0 w:World) (p:Nat) (l:List UInt8) (h:dH w F r ev) (hok:r.ok=true) (ho:xE w0 w p l) (hb:l.length≤100000) (hb2:(dE r).length≤100000):
 Calls prog 45 #[.pointer (some ⟨p,0,none⟩),.agg (U8 r ev).toArray,.func (.func 14) #[] #[]] w (zG w0 p ((l++cb (dE r).length)++dE r)):=by
 have k1:=(U1.refl [] w).alloc (.cells (U8 r ev).toArray 26)
 have r1:=l5.new w 26 (U8 r ev).toArray
 obtain⟨w1,hw1⟩:∃ w1,w.alloc (.cells (U8 r ev).toArray 26)=w1:=⟨_,rfl⟩
 rw[hw1] at k1 r1
 have hI:(prog.info? 26).map (·.size)=some (U8 r ev).length:=by rw[O8 h.1];exact D9
 have HS:=U0 (U2 r1.rangeAll (U2 hI (U2 (ho.over k1) (show dH w1 F r ev from⟨h.1,h.2.keep k1 (by simp)⟩))))
 have HW:=U0 hw1
 clear k1 r1 hw1 h hI ho
 go_enter func45,ntmps45
 go_upto_region 1 with (with_reducible refine Z5 _ rfl 26 (.tmp 1) rfl _ rfl ?_)
 rw[HW.o]
 go_wp2_with (first
  |(refine wpList_load_mid rfl 26 (.tmp 4) rfl w.heap.size 0 rfl (U8 r ev) _ HS.o.1 underlying26 rfl HS.o.2.1 ?_)
  |(go_at_call 14;refine (FH F r ev _ HS.o.2.2.2 hok).mono ?_;rintro e w2 ⟨u,G,rfl,⟨A2,c2,g2,rfl,_,_,sn2,hg2⟩,nw2,kk2⟩;have H2:=U0 (U2 sn2 (U2 (fun hne:dE r≠[]=>(nw2 g2 (hg2 hne)).1) kk2));clear sn2 hg2 nw2 kk2)
  |(go_at_call 49;refine (HS.o.2.2.1.textNew H2.o.2.2 A2 g2 _ c2 (dE r) rfl H2.o.1 H2.o.2.1 (by omega) (by omega)).mono ?_;rintro e w3 ⟨rfl,o3⟩;have O3:=U0 o3;clear o3))
 go_end0
 exact⟨rfl,O3.o⟩
theorem SI (F:List Nat) (r:AN) (ev:Value) (w0 w:World) (p:Nat) (l:List UInt8) (h:BH w F r ev) (hok:r.ok=true) (ho:xE w0 w p l) (hb:l.length≤100000) (hb2:(UD r).length≤100000):
 Calls prog 46 #[.pointer (some ⟨p,0,none⟩),.agg (x9 r ev).toArray,.func (.func 16) #[] #[]] w (zG w0 p ((l++cb (UD r).length)++UD r)):=by
 have k1:=(U1.refl [] w).alloc (.cells (x9 r ev).toArray 28)
 have r1:=l5.new w 28 (x9 r ev).toArray
 obtain⟨w1,hw1⟩:∃ w1,w.alloc (.cells (x9 r ev).toArray 28)=w1:=⟨_,rfl⟩
 rw[hw1] at k1 r1
 have hI:(prog.info? 28).map (·.size)=some (x9 r ev).length:=by rw[y9 h.1];exact Q9
 have HS:=U0 (U2 r1.rangeAll (U2 hI (U2 (ho.over k1) (show BH w1 F r ev from⟨h.1,h.2.keep k1 (by simp)⟩))))
 have HW:=U0 hw1
 clear k1 r1 hw1 h hI ho
 go_enter func46,ntmps46
 go_upto_region 1 with (with_reducible refine Z5 _ rfl 28 (.tmp 1) rfl _ rfl ?_)
 rw[HW.o]
 go_wp2_with (first
  |(refine wpList_load_mid rfl 28 (.tmp 4) rfl w.heap.size 0 rfl (x9 r ev) _ HS.o.1 underlying28 rfl HS.o.2.1 ?_)
  |(go_at_call 16;refine (EH F r ev _ HS.o.2.2.2 hok).mono ?_;rintro e w2 ⟨u,G,rfl,⟨A2,c2,g2,rfl,_,_,sn2,hg2⟩,nw2,kk2⟩;have H2:=U0 (U2 sn2 (U2 (fun hne:UD r≠[]=>(nw2 g2 (hg2 hne)).1) kk2));clear sn2 hg2 nw2 kk2)
  |(go_at_call 49;refine (HS.o.2.2.1.textNew H2.o.2.2 A2 g2 _ c2 (UD r) rfl H2.o.1 H2.o.2.1 (by omega) (by omega)).mono ?_;rintro e w3 ⟨rfl,o3⟩;have O3:=U0 o3;clear o3))
 go_end0
 exact⟨rfl,O3.o⟩
theorem NF (F:List Nat) (r:CF) (ev:Value) (w0 w:World) (p:Nat) (l:List UInt8) (h:F8 w F ev r.chain) (hok:r.ok=true) (ho:xE w0 w p l) (hb:l.length≤100000) (hb2:(WE r).length≤100000):
 Calls prog 47 #[.pointer (some ⟨p,0,none⟩),.agg (bA r ev).toArray,.func (.func 18) #[] #[]] w (zG w0 p ((l++cb (WE r).length)++WE r)):=by
 have k1:=(U1.refl [] w).alloc (.cells (bA r ev).toArray 31)
 have r1:=l5.new w 31 (bA r ev).toArray
 obtain⟨w1,hw1⟩:∃ w1,w.alloc (.cells (bA r ev).toArray 31)=w1:=⟨_,rfl⟩
 rw[hw1] at k1 r1
 have hI:(prog.info? 31).map (·.size)=some (bA r ev).length:=by exact S9
 have HS:=U0 (U2 r1.rangeAll (U2 hI (U2 (ho.over k1) (h.keep k1 (by simp)))))
 have HW:=U0 hw1
 clear k1 r1 hw1 h hI ho
 go_enter func47,ntmps47
 go_upto_region 1 with (with_reducible refine Z5 _ rfl 31 (.tmp 1) rfl _ rfl ?_)
 rw[HW.o]
 go_wp2_with (first
  |(refine wpList_load_mid rfl 31 (.tmp 4) rfl w.heap.size 0 rfl (bA r ev) _ HS.o.1 underlying31 rfl HS.o.2.1 ?_)
  |(go_at_call 18;refine (RF F r ev _ HS.o.2.2.2 hok).mono ?_;rintro e w2 ⟨u,G,rfl,⟨A2,c2,g2,rfl,_,_,sn2,hg2⟩,nw2,kk2⟩;have H2:=U0 (U2 sn2 (U2 (fun hne:WE r≠[]=>(nw2 g2 (hg2 hne)).1) kk2));clear sn2 hg2 nw2 kk2)
  |(go_at_call 49;refine (HS.o.2.2.1.textNew H2.o.2.2 A2 g2 _ c2 (WE r) rfl H2.o.1 H2.o.2.1 (by omega) (by omega)).mono ?_;rintro e w3 ⟨rfl,o3⟩;have O3:=U0 o3;clear o3))
 go_end0
 exact⟨rfl,O3.o⟩
theorem sK (b:Bool) (w0 w:World) (p:Nat) (l:List UInt8) (ho:xE w0 w p l) (hb:l.length≤100000):
 Calls prog 44 #[.pointer (some ⟨p,0,none⟩),.bool b] w (zG w0 p (l++l7 1 (if b then 1 else 0))):=by
 have HO:=U0 ho
 clear ho
 cases b
 all_goals
  go_enter func44,ntmps44
  go_wp2_with (first
   |(go_at_call 42;(with_reducible refine (HO.o.num 1 (by omega) (by omega) (by omega)).mono ?_);rintro e w3 ⟨rfl,o3⟩;have O3:=U0 o3;clear o3)
   |(go_at_call 42;(with_reducible refine (HO.o.num 0 (by omega) (by omega) (by omega)).mono ?_);rintro e w3 ⟨rfl,o3⟩;have O3:=U0 o3;clear o3))
  go_end0
  exact⟨rfl,O3.o⟩
def vtB (v:VT):List UInt8:=(cb v.ballot.toNat++cb (WE v.conf).length)++WE v.conf
def xD:List VT→List UInt8
 |[]=>[]
 |v::r=>vtB v++xD r
theorem jJ:∀ l m:List VT,xD (l++m)=xD l++xD m
 |[],m=>rfl
 |a::r,m=>by rw[List.cons_append,xD,xD,jJ r m,List.append_assoc]
theorem EL {l:List VT} {i:Nat} {a:VT} (h:l[i]? =some a):xD (l.take (i+1))=xD (l.take i)++vtB a:=by
 rw[List.take_add_one,h,jJ]
 simp[xD]
theorem UG {c:CF} (h:c.ok=true):(WE c).length≤14:=by
 have hf:=c.ok_facts h
 have h1:=GH (n:=c.num) hf.1.2
 unfold WE
 simp only[List.length_append,UE,VG,List.length_nil]
 omega
theorem PW {v:VT} (h:v.ok=true):(vtB v).length≤30:=by
 unfold VT.ok at h
 rw[Bool.and_eq_true,EC] at h
 have h1:=GH (n:=v.ballot) h.1.2
 have h2:=UG h.2
 have h3:=GH (n:=((WE v.conf).length:Int)) (by omega)
 rw[Int.toNat_natCast] at h3
 unfold vtB
 simp only[List.length_append]
 omega
theorem uM:∀{l:List VT} {i:Nat} {v:VT},fE l=true→l[i]? =some v→v.ok=true
 |[],i,v,_,h=>by simp at h
 |a::r,0,v,hb,h=>by
  simp at h;subst h
  unfold fE at hb
  exact (Bool.and_eq_true _ _▸hb).1
 |a::r,i+1,v,hb,h=>by
  unfold fE at hb
  rw[Bool.and_eq_true] at hb
  exact uM (l:=r) hb.2 (by simpa using h)
theorem jI:∀ (l:List VT),fE l=true→(xD l).length≤30*l.length
 |[],_=>by simp[xD]
 |a::r,h=>by
  unfold fE at h
  rw[Bool.and_eq_true] at h
  have h1:=PW h.1
  have h2:=jI r h.2
  simp only[xD,List.length_append,List.length_cons]
  omega
theorem CL {l:List VT} (h:fE l=true) (i:Nat):fE (l.take i)=true:=by
 induction l generalizing i with
 |nil=>simpa using h
 |cons a r ih=>
  unfold fE at h
  rw[Bool.and_eq_true] at h
  cases i with
  |zero=>rfl
  |succ i=>
   rw[List.take_succ_cons]
   unfold fE
   rw[Bool.and_eq_true]
   exact⟨h.1,ih h.2 i⟩
theorem tK (F:List Nat) (l:List VT) (v:Value) (w0 w:World) (p:Nat) (b0:List UInt8) (h:xA w0 F v l) (hok:JB l=true) (ho:xE w0 w p b0) (hb:b0.length≤10000):
 Calls prog 48 #[.pointer (some ⟨p,0,none⟩),v] w (zG w0 p ((b0++l7 1 l.length)++xD l)):=by
 unfold JB at hok
 rw[Bool.and_eq_true,decide_eq_true_eq] at hok
 obtain⟨A,c,gA,TA,rfl,_,hc,_⟩:=id h
 have HO:=U0 ho
 have HV:=U0 (U2 h hok)
 clear h ho hok
 have h8:=HV.o.2.1
 obtain⟨L,hL⟩:∃ L,l.length=L:=⟨_,rfl⟩
 have HL:=U0 hL
 rw[hL] at h8 HV ⊢
 clear hL
 go_enter func48,ntmps48
 go_upto_region 1 with (first
  |(go_at_call 42;(with_reducible refine (HO.o.num (L:Int) (by omega) (by omega) (by omega)).mono ?_);rintro e w1 ⟨rfl,o1⟩;have O1:=U0 o1;clear o1))
 obtain⟨B,hB⟩:∃ B,b0++l7 1 L=B:=⟨_,rfl⟩
 have hBl:B.length≤10001:=by rw[←hB,List.length_append,UE];omega
 have HBB:=U0 hB
 have O2:V5 (xE w0 w1 p B):=U0 (by have:=O1.o;rw[Int.toNat_natCast,hB] at this;exact this)
 clear O1 hB
 go_upto_region 2 with fail
 go_loopw [5,12] (fun _ v12 wx=>∃ i:Nat,i≤L∧v12= .int .i64 (i:Int)∧xE w0 wx p (B++xD (l.take i))) (fun _ v12 _=>L-(intOf v12).toNat)
 case atStart=>exact⟨0,by omega,rfl,by simpa[xD] using O2.o⟩
 case round=>
  obtain⟨i,hi,rfl,ho⟩:=hrel
  have HO3:=U0 ho
  clear ho
  by_cases hlt:i<L
  ·have hlt':(i:Int)<(L:Int):=by omega
   have hn0:(0:Int)≤(i:Int):=by omega
   have hw1:IntKind.i64.wrap ((i:Int)+1)=(i:Int)+1:=Z8 _ (by omega) (by omega)
   obtain⟨a,ha⟩:∃ a,l[i]? =some a:=⟨_,List.getElem?_eq_getElem (by have:=HL.o;omega)⟩
   obtain⟨g,o,cv,rfl,hgl,_,hcv,x0,x1,x2,x3⟩:=HV.o.1.at ha
   have e:=fun q=>HO3.o.kept.cell (p:=⟨g,q,none⟩) hgl (by simp)
   rw[←e] at x0 x1 x2 x3
   clear e
   have hok:=uM HV.o.2.2 ha
   have HT:=U0 (EL ha)
   have hll:(B++xD (l.take i)).length≤20000:=by
    have h1:=jI _ (CL HV.o.2.2 i)
    have h2:(l.take i).length≤8:=by rw[List.length_take];omega
    rw[List.length_append];omega
   obtain⟨Bi,hBi⟩:∃ Bi,B++xD (l.take i)=Bi:=⟨_,rfl⟩
   rw[hBi] at hll HO3
   have HBi:=U0 hBi
   obtain⟨ab,an,af,al⟩:=a
   have hfb:1≤ab∧ab≤9007199254740991:=by
    unfold VT.ok at hok
    rw[Bool.and_eq_true,EC] at hok
    exact hok.1
   have hcl:(WE ⟨an,af,al⟩).length≤14:=UG (by unfold VT.ok at hok;rw[Bool.and_eq_true] at hok;exact hok.2)
   have hc8:=GH (n:=ab) hfb.2
   have HK:=U0 (U2 hok (U2 hcl hc8))
   dsimp only at x0 x1 x2 x3 hcv
   obtain⟨CA,cc,cg,rfl,_⟩:=id hcv
   have HCV:=U0 hcv
   clear hcv ha hok hcl hc8 hBi
   go_upto_region 4 with fail
   have k7:=(U1.refl [] wr).alloc (.cells #[.int .i64 ab,.int .i64 an,.int .i64 af,.slice CA al.length cc] 69)
   have r7:=l5.new wr 69 #[.int .i64 ab,.int .i64 an,.int .i64 af,.slice CA al.length cc]
   obtain⟨wv,hwv⟩:∃ wv,wr.alloc (.cells #[.int .i64 ab,.int .i64 an,.int .i64 af,.slice CA al.length cc] 69)=wv:=⟨_,rfl⟩
   rw[hwv] at k7 r7 ⊢
   obtain⟨tv,htv⟩:∃ tv,wr.heap.size=tv:=⟨_,rfl⟩
   rw[htv] at r7 ⊢
   have htl:w0.heap.size≤tv:=by have:=HO3.o.kept.size;omega
   have HO4:=U0 (HO3.o.over k7)
   have y0:wv.cell? ⟨tv,0,none⟩=some (.int .i64 ab):=r7.cell 0
   have htp:tv≠p:=fun e=>by have:=HO3.o.lt;omega
   have HV4:V5 (∃ v',QE wv p v' ⟨Bi,0⟩∧tv∉Z6 v'∧(w0.heap.size≤p∧(∀ x∈Z6 v',w0.heap.size≤x)∧U1 [] w0 wv)):=U0 (by
    obtain⟨v',q1,q2,q3,q4⟩:=HO3.o
    exact⟨v',q1.keep k7 (by simp) (by simp),fun hm=>by have:=q1.2.lt tv hm;omega,q2,q3,q4.then k7 (by simp)⟩)
   obtain⟨v',q1,q2,q3,q4,q5⟩:=HV4.o
   have HQ:=U0 (U2 q2 (U2 q3 (U2 q4 (U2 q5 r7))))
   clear k7 r7 hwv x0 x1 x2 x3 htv q2 q3 q4 q5
   have hq1:=U0 q1
   clear q1
   go_upto_region 5 with (first
    |(go_at_call 43;refine (yH p v' _ ab _ hq1.o (show Bi.length≤_ by omega)).mono ?_;intro e w5 hp;rw[SG Bi (by omega) (by omega)] at hp;obtain⟨_,v6,h6,k6,hh6⟩:=id hp;obtain⟨rfl,o5⟩:=xE.step hq1.o HQ.o.2.1 HQ.o.2.2.1 HQ.o.2.2.2.1 hp;have r8:=k6.row HQ.o.2.2.2.2 (by simp only[List.mem_cons];exact fun hm=>hm.elim htp HQ.o.1);have O5:=U0 o5;clear hp h6 hh6 k6 o5))
   have y1:w5.cell? ⟨tv,1,none⟩=some (.int .i64 an):=r8.cell 1
   have y2:w5.cell? ⟨tv,2,none⟩=some (.int .i64 af):=r8.cell 2
   have y3:w5.cell? ⟨tv,3,none⟩=some (.slice CA al.length cc):=r8.cell 3
   have HR8:=U0 r8
   clear r8 y0
   go_wp2_with (first
    |(go_at_call 47;refine (NF F ⟨an,af,al⟩ _ w0 _ p _ (HCV.o.keep O5.o.kept (by simp)) (by have:=HK.o.1;unfold VT.ok at this;rw[Bool.and_eq_true] at this;exact this.2) O5.o (by rw[List.length_append];have:=HK.o.2.2;omega) (by have:=HK.o.2.1;omega)).mono ?_;rintro e w6 ⟨rfl,o6⟩;have O6:=U0 o6;clear o6))
   go_roundw
   case rel=>exact⟨i+1,by omega,by go_num,by rw[HT.o,←List.append_assoc,HBi.o];have:=O6.o;unfold vtB;rw[←List.append_assoc,←List.append_assoc];exact this⟩
   case measure=>simp[intOf];omega
  ·obtain rfl:i=L:=by omega
   have HE:=U0 (show B++xD (l.take i)=B++xD l by rw[←HL.o,List.take_length])
   rw[HE.o] at HO3
   go_wp2_with fail
   go_end0
   exact⟨rfl,by rw[HBB.o];exact HO3.o⟩
def aI (b:Int) (l m:List UInt8):List UInt8:=if b=0 then l else l++m
def xR (p:PK):List UInt8:=(([]++l7 1 p.kind.toNat)++l7 1 p.frm.toNat)++l7 1 p.dst.toNat
def rP (p:PK) (h:Int):List UInt8:=aI (U6 h 1) (xR p) (cb p.num.toNat)
def vP (p:PK) (h:Int):List UInt8:=aI (U6 h 2) (rP p h) (cb (p.seq+1).toNat)
def xP (p:PK) (h:Int):List UInt8:=aI (U6 h 4) (vP p h) (cb p.ballot.toNat)
def yP (p:PK) (h:Int):List UInt8:=aI (U6 h 8) (xP p h) (l7 1 (if p.ready then 1 else 0))
def BP (p:PK) (h:Int):List UInt8:=aI (U6 h 16) (yP p h) (cb (dE p.req).length++dE p.req)
def CP (p:PK) (h:Int):List UInt8:=aI (U6 h 32) (BP p h) (cb (UD p.ans).length++UD p.ans)
def EK (p:PK) (h:Int):List UInt8:=aI (U6 h 64) (CP p h) (cb (WE p.conf).length++WE p.conf)
def wO (p:PK) (h:Int):List UInt8:=aI (U6 h 128) (EK p h) (l7 1 p.votes.length++xD p.votes)
def xO (p:PK) (h:Int):List UInt8:=aI (U6 h 256) (wO p h) (cb p.bytes.length++p.bytes)
def wH (p:PK):List UInt8:=xO p (l6 p.kind)
theorem PK.ok_facts {p:PK} (h:p.ok=true):l6 p.kind≠0∧WB p.frm=true∧WB p.dst=true∧p.same (p.cut (l6 p.kind))=true∧(0≤p.num∧p.num≤9007199254740991)∧(0≤p.ballot∧p.ballot≤9007199254740991)∧JI p.kind p.seq=true∧p.bytes.length≤32768∧(U6 (l6 p.kind) 16=0∨p.req.ok=true)∧(U6 (l6 p.kind) 32=0∨p.ans.ok=true)∧(U6 (l6 p.kind) 64=0∨p.conf.ok=true)∧JB p.votes=true:=by
 unfold PK.ok PK.parts at h
 simpa only[Bool.and_eq_true,Bool.or_eq_true,EC,decide_eq_true_eq,beq_iff_eq,Bool.not_eq_true',beq_eq_false_iff_ne,ne_eq] using h
theorem QH {k:Int} (h:l6 k≠0):1≤k∧k≤14:=by
 unfold l6 at h
 split at h
 ·rename_i hk
  by_cases e:k=0
  ·subst e;exact absurd rfl h
  ·omega
 ·exact absurd rfl h
theorem LF {n:Int} (h:WB n=true):0≤n∧n≤22:=by
 unfold WB at h
 simp only[Bool.or_eq_true,EC] at h
 omega
theorem QC {k n:Int} (h:JI k n=true): -1≤n∧n≤9007199254740990:=by
 unfold JI at h
 rw[EC] at h
 split at h<;>omega
theorem bK {r:RQ} (h:r.ok=true) (hn:r.name.length=32):(dE r).length≤1082:=by
 have hf:=r.ok_facts h
 have h1:=GH (n:=r.num) hf.2.1.2
 have h2:=GH (n:=r.version) hf.2.2.2.1.2
 have h3:=GH (n:=(r.env.length:Int)) (by omega)
 rw[Int.toNat_natCast] at h3
 unfold dE
 simp only[List.length_append,UE,List.length_nil,hn]
 omega
theorem xJ {r:AN} (h:r.ok=true) (hn:r.name.length=32):(UD r).length≤1083:=by
 have hf:=r.ok_facts h
 have h1:=GH (n:=r.num) hf.2.1.2
 have h2:=GH (n:=r.version) hf.2.2.2.1.2
 have h3:=GH (n:=(r.env.length:Int)) (by omega)
 rw[Int.toNat_natCast] at h3
 unfold UD
 simp only[List.length_append,UE,List.length_nil,hn]
 omega
theorem fG {b:Int} {l m:List UInt8} {n k:Nat} (h1:l.length≤n) (h2:b=0∨m.length≤k):(aI b l m).length≤n+k:=by
 unfold aI
 split
 ·omega
 ·rename_i hb
  rw[List.length_append]
  have:=h2.resolve_left hb
  omega
theorem JC {b:Int} (l m:List UInt8) (h:b=0):aI b l m=l:=by unfold aI;rw[if_pos h]
theorem yD {b:Int} (l m:List UInt8) (h:b≠0):aI b l m=l++m:=by unfold aI;rw[if_neg h]
theorem nM {p:PK} (h:p.ok=true) (hn:p.req.name.length=32) (ha:p.ans.name.length=32):
 (xR p).length≤3∧(rP p (l6 p.kind)).length≤11∧(vP p (l6 p.kind)).length≤19∧(xP p (l6 p.kind)).length≤27∧(yP p (l6 p.kind)).length≤28∧(BP p (l6 p.kind)).length≤1118∧(CP p (l6 p.kind)).length≤2209∧(EK p (l6 p.kind)).length≤2231∧(wO p (l6 p.kind)).length≤2472∧(xO p (l6 p.kind)).length≤35248:=by
 obtain⟨h1,h2,h3,h4,h5,h6,h7,h8,h9,h10,h11,h12⟩:=p.ok_facts h
 have hs:=QC h7
 generalize l6 p.kind=f at*
 have e0:(xR p).length≤3:=by unfold xR;simp only[List.length_append,UE,List.length_nil];omega
 have e1:(rP p f).length≤11:=fG e0 (.inr (GH h5.2))
 have e2:(vP p f).length≤19:=fG e1 (.inr (GH (by omega)))
 have e3:(xP p f).length≤27:=fG e2 (.inr (GH h6.2))
 have e4:(yP p f).length≤28:=fG (k:=1) e3 (.inr (by rw[UE];omega))
 have hc:∀ n:Nat,n≤100000→(cb n).length≤8:=fun n hn=>by have:=GH (n:=(n:Int)) (by omega);rwa [Int.toNat_natCast] at this
 have e5:(BP p f).length≤1118:=fG (k:=1090) e4 (h9.imp id (fun h=>by have:=bK h hn;have:=hc (dE p.req).length (by omega);rw[List.length_append];omega))
 have e6:(CP p f).length≤2209:=fG (k:=1091) e5 (h10.imp id (fun h=>by have:=xJ h ha;have:=hc (UD p.ans).length (by omega);rw[List.length_append];omega))
 have e7:(EK p f).length≤2231:=fG (k:=22) e6 (h11.imp id (fun h=>by have:=UG h;have:=hc (WE p.conf).length (by omega);rw[List.length_append];omega))
 have e8:(wO p f).length≤2472:=fG (k:=241) e7 (.inr (by
  unfold JB at h12
  rw[Bool.and_eq_true,decide_eq_true_eq] at h12
  have:=jI _ h12.2
  rw[List.length_append,UE];omega))
 have e9:(xO p f).length≤35248:=fG (k:=32776) e8 (.inr (by have:=hc p.bytes.length (by omega);rw[List.length_append];omega))
 exact⟨e0,e1,e2,e3,e4,e5,e6,e7,e8,e9⟩
theorem DT (F:List Nat) (p:PK) (ev av cv vv bw:Value) (w:World) (h:wD w F p ev av cv vv bw) (hfl:zB w) (hb1:OA p.frm) (hb2:OA p.dst) (hok:p.ok=false):
 Calls prog 7 #[.agg (q8 p ev av cv vv bw).toArray] w fun e w'=>e= .returned (.tuple #[.slice none 0 0,.int .i64 2])∧U1 [] w w':=by
 have k1:=(U1.refl [] w).alloc (.cells (q8 p ev av cv vv bw).toArray 34)
 have r1:=l5.new w 34 (q8 p ev av cv vv bw).toArray
 obtain⟨w1,hw1⟩:∃ w1,w.alloc (.cells (q8 p ev av cv vv bw).toArray 34)=w1:=⟨_,rfl⟩
 rw[hw1] at k1 r1
 have hI:(prog.info? 34).map (·.size)=some (q8 p ev av cv vv bw).length:=by rw[G8 h.rn h.an];exact I5
 have HS:=U0 (U2 r1.rangeAll (U2 hI (U2 k1 (U2 (h.keep k1 (by simp)) (hfl.keep k1 (by simp))))))
 have HW:=U0 hw1
 clear k1 r1 hw1 h hI hfl
 go_enter func7,ntmps7
 go_upto_region 1 with (with_reducible refine Z5 _ rfl 34 (.tmp 0) rfl _ rfl ?_)
 rw[HW.o]
 go_upto_region 2 with (first
  |(refine wpList_load_mid rfl 34 (.tmp 1) rfl w.heap.size 0 rfl (q8 p ev av cv vv bw) _ HS.o.1 underlying34 rfl HS.o.2.1 ?_)
  |(go_at_call 9;refine (gD F p ev av cv vv bw _ HS.o.2.2.2.1 HS.o.2.2.2.2 hb1 hb2).mono ?_;rintro e w2 ⟨rfl,kk⟩;rw[hok];have K2:=U0 (HS.o.2.2.1.then kk (by simp));clear kk))
 go_wp2_with fail
 go_ret2
 exact⟨rfl,K2.o⟩
theorem wI (F:List Nat) (p:PK) (ev av cv vv bw:Value) (w:World) (h:wD w F p ev av cv vv bw) (hfl:zB w) (hb1:OA p.frm) (hb2:OA p.dst) (hok:p.ok=true):
 Calls prog 7 #[.agg (q8 p ev av cv vv bw).toArray] w (QD w (wH p)):=by
 have hf:=p.ok_facts hok
 have k1:=(U1.refl [] w).alloc (.cells (q8 p ev av cv vv bw).toArray 34)
 have r1:=l5.new w 34 (q8 p ev av cv vv bw).toArray
 obtain⟨w1,hw1⟩:∃ w1,w.alloc (.cells (q8 p ev av cv vv bw).toArray 34)=w1:=⟨_,rfl⟩
 rw[hw1] at k1 r1
 have hI:(prog.info? 34).map (·.size)=some (q8 p ev av cv vv bw).length:=by rw[G8 h.rn h.an];exact I5
 have HS:=U0 (U2 r1.rangeAll (U2 hI (U2 k1 (U2 (h.keep k1 (by simp)) (hfl.keep k1 (by simp))))))
 have HW:=U0 hw1
 have HR1:=U0 r1
 have HF:=U0 hf
 have HP:=U0 h
 have hrn:=h.rn
 have han:=h.an
 clear k1 r1 hw1 h hI hfl hf
 obtain⟨A0,c0,g0,rfl,_⟩:=id HP.o.re
 obtain⟨A1,c1,g1,rfl,_⟩:=id HP.o.ae
 obtain⟨A2,c2,g2,rfl,_⟩:=id HP.o.cc
 obtain⟨A3,c3,g3,T3,rfl,_⟩:=id HP.o.vs
 obtain⟨A4,c4,g4,rfl,_,_,hs4,_⟩:=id HP.o.bs
 have HS4:=U0 hs4
 clear hs4
 go_enter func7,ntmps7
 go_upto_region 1 with (with_reducible refine Z5 _ rfl 34 (.tmp 0) rfl _ rfl ?_)
 rw[HW.o]
 go_upto_region 2 with (first
  |(refine wpList_load_mid rfl 34 (.tmp 1) rfl w.heap.size 0 rfl (q8 p _ _ _ _ _) _ HS.o.1 underlying34 rfl HS.o.2.1 ?_)
  |(go_at_call 9;refine (gD F p _ _ _ _ _ _ HS.o.2.2.2.1 HS.o.2.2.2.2 hb1 hb2).mono ?_;rintro e w2 ⟨rfl,kk⟩;rw[hok];have r2:=kk.row HR1.o (by simp);have K2:=U0 (HS.o.2.2.1.then kk (by simp));have F2:=U0 (HS.o.2.2.2.2.keep kk (by simp));clear kk))
 obtain⟨tb,htb⟩:∃ tb,w.heap.size=tb:=⟨_,rfl⟩
 have HP2:=U0 (HP.o.keep K2.o (by simp))
 rw[htb] at r2 ⊢
 have HTB:=U0 htb
 have x0:w2.cell? ⟨tb,0,none⟩=some (.int .i64 p.kind):=(r2.cell 0).trans rfl
 clear htb
 go_upto_region 5 with (first
  |(go_at_call 40;refine (jG p.kind _ F2.o).mono ?_;rintro e w' ⟨rfl,rfl⟩))
 have z0:w2.drew.cell? ⟨tb,0,none⟩=some (.int .i64 p.kind):=x0
 have z1:w2.drew.cell? ⟨tb,1,none⟩=some (.int .i64 p.frm):=(r2.cell 1).trans rfl
 have z2:w2.drew.cell? ⟨tb,2,none⟩=some (.int .i64 p.dst):=(r2.cell 2).trans rfl
 have r2d:l5 w2.drew tb 34 _:=r2
 have PA:V5 (∀ wx,U1 [] w2.drew wx→RN wx tb p (.slice A0 p.req.env.length c0) (.slice A1 p.ans.env.length c1) (.slice A2 p.conf.chain.length c2) (.slice A3 p.votes.length c3) (.slice A4 p.bytes.length c4)):=U0 (fun wx k=>(k.row r2d (by simp)).pk hrn han)
 have Z0:w2.drew.cell? ⟨tb,0,none⟩=some (.int .i64 p.kind)∧w2.drew.cell? ⟨tb,1,none⟩=some (.int .i64 p.frm)∧w2.drew.cell? ⟨tb,2,none⟩=some (.int .i64 p.dst):=⟨z0,z1,z2⟩
 have KD:=U0 (K2.o.then ((U1.refl [] w2).drew) (by simp))
 have HPD:=U0 (HP2.o.keep ((U1.refl [] w2).drew) (by simp))
 have HLS:=U0 (nM hok hrn han)
 have HKD:=U0 (U2 (QH HF.o.1) (U2 (LF HF.o.2.1) (LF HF.o.2.2.1)))
 clear r2 r2d x0 z0 z1 z2
 go_region_held3 (fun w'=>w'.cell? ⟨tb,0,none⟩=some (.int .i64 p.kind)∧w'.cell? ⟨tb,1,none⟩=some (.int .i64 p.frm)∧w'.cell? ⟨tb,2,none⟩=some (.int .i64 p.dst)) (first|exact Z0|exact Y0|exact Y1|exact Y2|exact Y3)
  (first
    |(go_at_call 41;refine xE.start.mono ?_;rintro e v0 ⟨q,rfl,o0⟩;have O0:=U0 o0;have Y0:=U2 (PA.o _ o0.kept).c0 (U2 (PA.o _ o0.kept).c1 (PA.o _ o0.kept).c2);clear o0)
    |(go_at_call 42;(with_reducible refine (O0.o.num p.kind (by have:=HKD.o;omega) (by have:=HKD.o;omega) (by simp)).mono ?_);rintro e v1 ⟨rfl,o1⟩;have O1:=U0 o1;have Y1:=U2 (PA.o _ o1.kept).c0 (U2 (PA.o _ o1.kept).c1 (PA.o _ o1.kept).c2);clear o1)
    |(go_at_call 42;(with_reducible refine (O1.o.num p.frm (by have:=HKD.o;omega) (by have:=HKD.o;omega) (by simp only[List.length_append,UE,List.length_nil];omega)).mono ?_);rintro e v2 ⟨rfl,o2⟩;have O2:=U0 o2;have Y2:=U2 (PA.o _ o2.kept).c0 (U2 (PA.o _ o2.kept).c1 (PA.o _ o2.kept).c2);clear o2)
    |(go_at_call 42;(with_reducible refine (O2.o.num p.dst (by have:=HKD.o;omega) (by have:=HKD.o;omega) (by simp only[List.length_append,UE,List.length_nil];omega)).mono ?_);rintro e v3 ⟨rfl,o3⟩;have O3:=U0 o3;have Y3:=U2 (PA.o _ o3.kept).c0 (U2 (PA.o _ o3.kept).c1 (PA.o _ o3.kept).c2);clear o3))
 clear O0 O1 O2 Y0 Y1 Y2 Y3 Z0
 have O:V5 (xE w2.drew v3 q (xR p)):=O3
 clear O3
 obtain⟨f,hf⟩:∃ f,l6 p.kind=f:=⟨_,rfl⟩
 rw[hf] at HF HLS ⊢
 have HFF:=U0 hf
 clear hf
 go_upto_if 27 with fail
 go_cut [] (fun wx=>xE w2.drew wx q (rP p f))
 case first=>
  by_cases hb:U6 f 1=0
  ·have hbb:(bits .and .i64 f 1 !=0)=false:=by have:=hb;unfold U6 at this;simp[this]
   have E:=U0 (JC (xR p) (cb p.num.toNat) hb)
   clear hb
   go_wp2_with fail
   go_meet
   exact (by rw[show rP p f=_ from E.o];exact O.o)
  ·have hbb:(bits .and .i64 f 1 !=0)=true:=by have:=hb;unfold U6 at this;simp[this]
   have E:=U0 (yD (xR p) (cb p.num.toNat) hb)
   have y:=(PA.o _ O.o.kept).c3
   go_wp2_with (first
    |(go_at_call 43;refine (O.o.count p.num HF.o.2.2.2.2.1.1 HF.o.2.2.2.2.1.2 (by have:=HLS.o;omega)).mono ?_;rintro e wx ⟨rfl,ox⟩))
   go_meet
   exact (by rw[show rP p f=_ from E.o];exact ox)
 have O:=U0 hcut
 clear hcut
 go_upto_if 34 with fail
 go_cut [] (fun wx=>xE w2.drew wx q (vP p f))
 case first=>
  by_cases hb:U6 f 2=0
  ·have hbb:(bits .and .i64 f 2 !=0)=false:=by have:=hb;unfold U6 at this;simp[this]
   have E:=U0 (JC (rP p f) (cb (p.seq+1).toNat) hb)
   clear hb
   go_wp2_with fail
   go_meet
   exact (by rw[show vP p f=_ from E.o];exact O.o)
  ·have hbb:(bits .and .i64 f 2 !=0)=true:=by have:=hb;unfold U6 at this;simp[this]
   have E:=U0 (yD (rP p f) (cb (p.seq+1).toNat) hb)
   have y:=(PA.o _ O.o.kept).c4
   have hws:IntKind.i64.wrap (p.seq+1)=p.seq+1:=Z8 _ (by have:=QC HF.o.2.2.2.2.2.2.1;omega) (by have:=QC HF.o.2.2.2.2.2.2.1;omega)
   go_wp2_with (first
    |(go_at_call 43;refine (O.o.count (p.seq+1) (by have:=QC HF.o.2.2.2.2.2.2.1;omega) (by have:=QC HF.o.2.2.2.2.2.2.1;omega) (by have:=HLS.o;omega)).mono ?_;rintro e wx ⟨rfl,ox⟩))
   go_meet
   exact (by rw[show vP p f=_ from E.o];exact ox)
 have O:=U0 hcut
 clear hcut
 go_upto_if 42 with fail
 go_cut [] (fun wx=>xE w2.drew wx q (xP p f))
 case first=>
  by_cases hb:U6 f 4=0
  ·have hbb:(bits .and .i64 f 4 !=0)=false:=by have:=hb;unfold U6 at this;simp[this]
   have E:=U0 (JC (vP p f) (cb p.ballot.toNat) hb)
   clear hb
   go_wp2_with fail
   go_meet
   exact (by rw[show xP p f=_ from E.o];exact O.o)
  ·have hbb:(bits .and .i64 f 4 !=0)=true:=by have:=hb;unfold U6 at this;simp[this]
   have E:=U0 (yD (vP p f) (cb p.ballot.toNat) hb)
   have y:=(PA.o _ O.o.kept).c5
   go_wp2_with (first
    |(go_at_call 43;refine (O.o.count p.ballot HF.o.2.2.2.2.2.1.1 HF.o.2.2.2.2.2.1.2 (by have:=HLS.o;omega)).mono ?_;rintro e wx ⟨rfl,ox⟩))
   go_meet
   exact (by rw[show xP p f=_ from E.o];exact ox)
 have O:=U0 hcut
 clear hcut
 go_upto_if 49 with fail
 go_cut [] (fun wx=>xE w2.drew wx q (yP p f))
 case first=>
  by_cases hb:U6 f 8=0
  ·have hbb:(bits .and .i64 f 8 !=0)=false:=by have:=hb;unfold U6 at this;simp[this]
   have E:=U0 (JC (xP p f) (l7 1 (if p.ready then 1 else 0)) hb)
   clear hb
   go_wp2_with fail
   go_meet
   exact (by rw[show yP p f=_ from E.o];exact O.o)
  ·have hbb:(bits .and .i64 f 8 !=0)=true:=by have:=hb;unfold U6 at this;simp[this]
   have E:=U0 (yD (xP p f) (l7 1 (if p.ready then 1 else 0)) hb)
   have y:=(PA.o _ O.o.kept).c6
   go_wp2_with (first
    |(go_at_call 44;refine (sK p.ready _ _ q _ O.o (by have:=HLS.o;omega)).mono ?_;rintro e wx ⟨rfl,ox⟩))
   go_meet
   exact (by rw[show yP p f=_ from E.o];exact ox)
 have O:=U0 hcut
 clear hcut
 go_upto_if 56 with fail
 go_cut [] (fun wx=>xE w2.drew wx q (BP p f))
 case first=>
  by_cases hb:U6 f 16=0
  ·have hbb:(bits .and .i64 f 16 !=0)=false:=by have:=hb;unfold U6 at this;simp[this]
   have E:=U0 (JC (yP p f) (cb (dE p.req).length++dE p.req) hb)
   clear hb
   go_wp2_with fail
   go_meet
   exact (by rw[show BP p f=_ from E.o];exact O.o)
  ·have hbb:(bits .and .i64 f 16 !=0)=true:=by have:=hb;unfold U6 at this;simp[this]
   have E:=U0 (yD (yP p f) (cb (dE p.req).length++dE p.req) hb)
   have y:=U0 (PA.o _ O.o.kept).rq
   have hI:V5 ((prog.info? 26).map (·.size)=some (U8 p.req (.slice A0 p.req.env.length c0)).length):=U0 (by rw[O8 hrn];exact D9)
   go_wp2_with (first
    |(refine wpList_load_mid rfl 26 (.tmp 58) rfl tb 7 rfl (U8 p.req (.slice A0 p.req.env.length c0)) _ y.o underlying26 rfl hI.o ?_)
    |(go_at_call 45;refine (TI F p.req _ _ _ q _ ⟨hrn,HPD.o.re.keep O.o.kept (by simp)⟩ (HF.o.2.2.2.2.2.2.2.2.1.resolve_left hb) O.o (by have:=HLS.o;omega) (by have:=bK (HF.o.2.2.2.2.2.2.2.2.1.resolve_left hb) hrn;omega)).mono ?_;rintro e wx ⟨rfl,ox⟩))
   go_meet
   exact (by rw[show BP p f=_ from E.o];rw[←List.append_assoc];exact ox)
 have O:=U0 hcut
 clear hcut
 go_upto_if 63 with fail
 go_cut [] (fun wx=>xE w2.drew wx q (CP p f))
 case first=>
  by_cases hb:U6 f 32=0
  ·have hbb:(bits .and .i64 f 32 !=0)=false:=by have:=hb;unfold U6 at this;simp[this]
   have E:=U0 (JC (BP p f) (cb (UD p.ans).length++UD p.ans) hb)
   clear hb
   go_wp2_with fail
   go_meet
   exact (by rw[show CP p f=_ from E.o];exact O.o)
  ·have hbb:(bits .and .i64 f 32 !=0)=true:=by have:=hb;unfold U6 at this;simp[this]
   have E:=U0 (yD (BP p f) (cb (UD p.ans).length++UD p.ans) hb)
   have y:=U0 (PA.o _ O.o.kept).an
   have hI:V5 ((prog.info? 28).map (·.size)=some (x9 p.ans (.slice A1 p.ans.env.length c1)).length):=U0 (by rw[y9 han];exact Q9)
   go_wp2_with (first
    |(refine wpList_load_mid rfl 28 (.tmp 65) rfl tb 44 rfl (x9 p.ans (.slice A1 p.ans.env.length c1)) _ y.o underlying28 rfl hI.o ?_)
    |(go_at_call 46;refine (SI F p.ans _ _ _ q _ ⟨han,HPD.o.ae.keep O.o.kept (by simp)⟩ (HF.o.2.2.2.2.2.2.2.2.2.1.resolve_left hb) O.o (by have:=HLS.o;omega) (by have:=xJ (HF.o.2.2.2.2.2.2.2.2.2.1.resolve_left hb) han;omega)).mono ?_;rintro e wx ⟨rfl,ox⟩))
   go_meet
   exact (by rw[show CP p f=_ from E.o];rw[←List.append_assoc];exact ox)
 have O:=U0 hcut
 clear hcut
 go_upto_if 70 with fail
 go_cut [] (fun wx=>xE w2.drew wx q (EK p f))
 case first=>
  by_cases hb:U6 f 64=0
  ·have hbb:(bits .and .i64 f 64 !=0)=false:=by have:=hb;unfold U6 at this;simp[this]
   have E:=U0 (JC (CP p f) (cb (WE p.conf).length++WE p.conf) hb)
   clear hb
   go_wp2_with fail
   go_meet
   exact (by rw[show EK p f=_ from E.o];exact O.o)
  ·have hbb:(bits .and .i64 f 64 !=0)=true:=by have:=hb;unfold U6 at this;simp[this]
   have E:=U0 (yD (CP p f) (cb (WE p.conf).length++WE p.conf) hb)
   have y0:=(PA.o _ O.o.kept).d0
   have y1:=(PA.o _ O.o.kept).d1
   have y2:=(PA.o _ O.o.kept).d2
   go_wp2_with (first
    |(go_at_call 47;refine (NF F p.conf _ _ _ q _ (HPD.o.cc.keep O.o.kept (by simp)) (HF.o.2.2.2.2.2.2.2.2.2.2.1.resolve_left hb) O.o (by have:=HLS.o;omega) (by have:=UG (HF.o.2.2.2.2.2.2.2.2.2.2.1.resolve_left hb);omega)).mono ?_;rintro e wx ⟨rfl,ox⟩))
   go_meet
   exact (by rw[show EK p f=_ from E.o];rw[←List.append_assoc];exact ox)
 have O:=U0 hcut
 clear hcut
 go_upto_if 77 with fail
 go_cut [] (fun wx=>xE w2.drew wx q (wO p f))
 case first=>
  by_cases hb:U6 f 128=0
  ·have hbb:(bits .and .i64 f 128 !=0)=false:=by have:=hb;unfold U6 at this;simp[this]
   have E:=U0 (JC (EK p f) (l7 1 p.votes.length++xD p.votes) hb)
   clear hb
   go_wp2_with fail
   go_meet
   exact (by rw[show wO p f=_ from E.o];exact O.o)
  ·have hbb:(bits .and .i64 f 128 !=0)=true:=by have:=hb;unfold U6 at this;simp[this]
   have E:=U0 (yD (EK p f) (l7 1 p.votes.length++xD p.votes) hb)
   have y:=(PA.o _ O.o.kept).d3
   go_wp2_with (first
    |(go_at_call 48;refine (tK F p.votes _ _ _ q _ HPD.o.vs HF.o.2.2.2.2.2.2.2.2.2.2.2 O.o (by have:=HLS.o;omega)).mono ?_;rintro e wx ⟨rfl,ox⟩))
   go_meet
   exact (by rw[show wO p f=_ from E.o];rw[←List.append_assoc];exact ox)
 have O:=U0 hcut
 clear hcut
 go_upto_if 84 with fail
 go_cut [] (fun wx=>xE w2.drew wx q (xO p f))
 case first=>
  by_cases hb:U6 f 256=0
  ·have hbb:(bits .and .i64 f 256 !=0)=false:=by have:=hb;unfold U6 at this;simp[this]
   have E:=U0 (JC (wO p f) (cb p.bytes.length++p.bytes) hb)
   clear hb
   go_wp2_with fail
   go_meet
   exact (by rw[show xO p f=_ from E.o];exact O.o)
  ·have hbb:(bits .and .i64 f 256 !=0)=true:=by have:=hb;unfold U6 at this;simp[this]
   have E:=U0 (yD (wO p f) (cb p.bytes.length++p.bytes) hb)
   have y:=(PA.o _ O.o.kept).d4
   have HB4:V5 (QA w2.drew A4 g4 p.bytes):=U0 (HS4.o.keep KD.o (by simp))
   go_wp2_with (first
    |(go_at_call 49;refine (O.o.text A4 g4 _ c4 p.bytes rfl HB4.o (by have:=HLS.o;omega) (by have:=HF.o.2.2.2.2.2.2.2.1;omega)).mono ?_;rintro e wx ⟨rfl,ox⟩))
   go_meet
   exact (by rw[show xO p f=_ from E.o];rw[←List.append_assoc];exact ox)
 have O:=U0 hcut
 clear hcut
 have HE:=U0 (show wH p=xO p f by unfold wH;rw[HFF.o])
 have hll:(xO p f).length≤1000000000:=by have:=HLS.o;omega
 have HLL:=U0 hll
 clear hll
 go_wp2_with (first
  |(go_at_call 50;refine (O.o.bytes HLL.o).mono ?_;rintro e vz ⟨u,G,rfl,ub,un,uk⟩;have OZ:=U0 (U2 ub (U2 un uk));clear ub un uk))
 go_ret2
 exact⟨_,G,rfl,by rw[HE.o];exact OZ.o.1,fun y hy=>⟨by have h1:=(OZ.o.2.1 y hy).1;have h2:=KD.o.size;omega,(OZ.o.2.1 y hy).2⟩,KD.o.then OZ.o.2.2 (by simp)⟩
end Go.Proofs.YthfdkonhjpdflaaGreatDoor
