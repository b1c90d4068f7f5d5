import Derived.Test.YthfdkonhjpdflaaGreatDoorPk21
import Derived.Test.YthfdkonhjpdflaaGreatDoorPk16
namespace Go.Proofs.YthfdkonhjpdflaaGreatDoor
open Go.RowKit Go.Proofs.Tryz
set_option linter.unusedVariables false
set_option maxRecDepth 100000
set_option linter.unusedSimpArgs false
set_option maxHeartbeats 16000000
theorem pW:∀ (l pre:List Int),fO pre l=true→∀ n∈l,10≤n∧n≤13
 |[],_,_,n,hn=>by simp at hn
 |a::r,pre,h,n,hn=>by
  unfold fO at h
  rw[Bool.and_eq_true,Bool.and_eq_true,fI] at h
  rcases List.mem_cons.1 hn with rfl|hn
  ·exact h.1
  ·exact pW r _ h.2.2 n hn
theorem CF.ok_facts {c:CF} (h:c.ok=true):(0≤c.num∧c.num≤9007199254740991)∧(1≤c.chain.length∧c.chain.length≤4)∧(1≤c.full∧c.full≤c.chain.length)∧∀ n∈c.chain,10≤n∧n≤13:=by
 unfold CF.ok at h
 simp only[Bool.and_eq_true,fI,decide_eq_true_eq] at h
 exact⟨h.1,⟨h.2.1,h.2.2.1⟩,h.2.2.2.1,pW _ _ h.2.2.2.2⟩
theorem pV:∀ (l m:List Int),qU (l++m)=qU l++qU m
 |[],m=>rfl
 |a::r,m=>by rw[List.cons_append,qU,qU,pV r m,List.append_assoc]
theorem uD {l:List Int} {i:Nat} {a:Int} (h:l[i]? =some a):qU (l.take (i+1))=qU (l.take i)++aQ 1 a.toNat:=by
 rw[List.take_add_one,h,pV]
 simp[qU]
theorem lT:∀ l:List Int,(qU l).length=l.length
 |[]=>rfl
 |a::r=>by simp only[qU,List.length_append,jq,lT r,List.length_cons];omega
theorem sV (F:List Nat) (r:CF) (cv:Value) (w:World) (h:bq w F cv r.chain) (hok:r.ok=false):
 Calls prog 18 #[.agg (bZ r cv).toArray] w fun e w'=>e= .returned (.tuple #[.slice none 0 0,.int .i64 2])∧ag [] w w':=by
 have k1:=(ag.refl [] w).alloc (.cells (bZ r cv).toArray 31)
 have r1:=aC.new w 31 (bZ r cv).toArray
 obtain⟨w1,hw1⟩:∃ w1,w.alloc (.cells (bZ r cv).toArray 31)=w1:=⟨_,rfl⟩
 rw[hw1] at k1 r1
 have HS:=aa (ah r1.rangeAll (ah k1 (h.keep k1 (by simp))))
 have HW:=aa hw1
 clear k1 r1 hw1 h
 go_enter func18,ntmps18
 go_upto_region 1 with (with_reducible refine aJ _ rfl 31 (.tmp 0) rfl _ rfl ?_)
 rw[HW.o]
 go_upto_region 2 with (first
  |(refine wpList_load_mid rfl 31 (.tmp 1) rfl w.heap.size 0 rfl (bZ r cv) _ HS.o.1 underlying31 rfl bS ?_)
  |(go_at_call 22;refine (fC F r cv _ HS.o.2.2).mono ?_;rintro e w2 ⟨rfl,kk⟩;rw[hok];have K2:=aa (HS.o.2.1.then kk (by simp));clear kk))
 go_wp2_with fail
 go_ret2
 exact⟨rfl,K2.o⟩
theorem j5 (F:List Nat) (r:CF) (cv:Value) (w:World) (h:bq w F cv r.chain) (hok:r.ok=true):
 Calls prog 18 #[.agg (bZ r cv).toArray] w (iE w (jv r)):=by
 have hf:=r.ok_facts hok
 have k1:=(ag.refl [] w).alloc (.cells (bZ r cv).toArray 31)
 have r1:=aC.new w 31 (bZ r cv).toArray
 obtain⟨w1,hw1⟩:∃ w1,w.alloc (.cells (bZ r cv).toArray 31)=w1:=⟨_,rfl⟩
 rw[hw1] at k1 r1
 have HS:=aa (ah r1.rangeAll (ah k1 (h.keep k1 (by simp))))
 have HW:=aa hw1
 have HR1:=aa r1
 obtain⟨A,c,g,rfl,_,hcm,hA,_⟩:=h
 have HF:=aa hf
 have HA:=aa hA
 clear k1 r1 hw1 hf hA
 go_enter func18,ntmps18
 go_upto_region 1 with (with_reducible refine aJ _ rfl 31 (.tmp 0) rfl _ rfl ?_)
 rw[HW.o]
 go_upto_region 2 with (first
  |(refine wpList_load_mid rfl 31 (.tmp 1) rfl w.heap.size 0 rfl (bZ r (.slice A r.chain.length c)) _ HS.o.1 underlying31 rfl bS ?_)
  |(go_at_call 22;refine (fC F r _ _ HS.o.2.2).mono ?_;rintro e w2 ⟨rfl,kk⟩;rw[hok];have r2:=kk.row HR1.o (by simp);have K2:=aa (HS.o.2.1.then kk (by simp));clear kk))
 obtain⟨L,hL⟩:∃ L,r.chain.length=L:=⟨_,rfl⟩
 obtain⟨tb,htb⟩:∃ tb,w.heap.size=tb:=⟨_,rfl⟩
 rw[htb] at r2 ⊢
 rw[hL] at r2 ⊢
 have hf4:L≤4:=by have:=HF.o.2.1;omega
 have hf1:1≤L:=by have:=HF.o.2.1;omega
 have z0:w2.drew.cell? ⟨tb,0,none⟩=some (.int .i64 r.num):=r2.cell 0
 have z1:w2.drew.cell? ⟨tb,1,none⟩=some (.int .i64 r.full):=r2.cell 1
 have z2:w2.drew.cell? ⟨tb,2,none⟩=some (.slice A L c):=(r2.cell 2).trans (by rw[←hL];rfl)
 have Z:aH (∀ w',ag [] w2.drew w'→(w'.cell? ⟨tb,0,none⟩=some (.int .i64 r.num)∧w'.cell? ⟨tb,1,none⟩=some (.int .i64 r.full)∧w'.cell? ⟨tb,2,none⟩=some (.slice A L c))):=aa (fun w' k=>⟨(k.cell (p:=⟨tb,0,none⟩) r2.lt (by simp)).trans z0,(k.cell (p:=⟨tb,1,none⟩) r2.lt (by simp)).trans z1,(k.cell (p:=⟨tb,2,none⟩) r2.lt (by simp)).trans z2⟩)
 have Z0:=Z.o _ (ag.refl [] w2.drew)
 have KD:=aa (K2.o.then ((ag.refl [] w2).drew) (by simp))
 have HL:=aa hL
 clear r2 z0 z1 z2 hL
 have HC:=aa (mQ (n:=r.num) (by have:=HF.o.1;omega))
 have HL1:aH (([]:List UInt8).length≤1000000000):=aa (by simp)
 have HL2:aH ((([]:List UInt8)++cb r.num.toNat).length≤1000000000):=aa (by have:=HC.o;simp only[List.length_append,List.length_nil];omega)
 have HL3:aH (((([]:List UInt8)++cb r.num.toNat)++aQ 1 r.full.toNat).length≤1000000000):=aa (by have:=HC.o;simp only[List.length_append,List.length_nil,jq];omega)
 go_upto_region 4 with fail
 go_region_held3 (fun w'=>w'.cell? ⟨tb,0,none⟩=some (.int .i64 r.num)∧w'.cell? ⟨tb,1,none⟩=some (.int .i64 r.full)∧w'.cell? ⟨tb,2,none⟩=some (.slice A L c)) (first|exact Z0|exact Y0|exact Y1|exact Y2|exact Y3)
  (first
    |(go_at_call 41;refine iZ.start.mono ?_;rintro e v0 ⟨p,rfl,o0⟩;have O0:=aa o0;have Y0:=Z.o _ o0.kept;clear o0)
    |(go_at_call 43;(with_reducible refine (O0.o.count r.num (by have:=HF.o.1;omega) (by have:=HF.o.1;omega) HL1.o).mono ?_);rintro e v1 ⟨rfl,o1⟩;have O1:=aa o1;have Y1:=Z.o _ o1.kept;clear o1)
    |(go_at_call 42;(with_reducible refine (O1.o.num r.full (by have:=HF.o.2.2.1;omega) (by have:=HF.o.2.1;have:=HF.o.2.2.1;omega) HL2.o).mono ?_);rintro e v2 ⟨rfl,o2⟩;have O2:=aa o2;have Y2:=Z.o _ o2.kept;clear o2)
    |(go_at_call 42;(with_reducible refine (O2.o.num (L:Int) (by omega) (by omega) HL3.o).mono ?_);rintro e v3 ⟨rfl,o3⟩;have O3:=aa o3;have Y3:=Z.o _ o3.kept;clear o3))
 obtain⟨B,hB⟩:∃ B,((([]:List UInt8)++cb r.num.toNat)++aQ 1 r.full.toNat)++aQ 1 (L:Int).toNat=B:=⟨_,rfl⟩
 have hBl:B.length≤10:=by have:=HC.o;rw[←hB];simp only[List.length_append,List.length_nil,jq];omega
 have HB:=aa (show jv r=B++qU r.chain by rw[←hB];unfold jv;rw[HL.o,Int.toNat_natCast])
 have O4:aH (iZ w2.drew v3 p B):=by rw[←hB];exact O3
 clear hB O3 Y0 Y1 Y2 Z0
 obtain⟨x0,x1,x2⟩:=Y3
 go_upto_region 6 with fail
 go_loopw [7,27] (fun _ v27 wx=>∃ i:Nat,i≤L∧v27= .int .i64 (i:Int)∧iZ w2.drew wx p (B++qU (r.chain.take i))) (fun _ v27 _=>L-(intOf v27).toNat)
 case atStart=>exact⟨0,by omega,rfl,by simpa[qU] using O4.o⟩
 case round=>
  obtain⟨i,hi,rfl,ho⟩:=hrel
  have HO:=aa ho
  clear ho
  by_cases hlt:i<L
  ·have hlt':(i:Int)<(L:Int):=by omega
   have hn0:(0:Int)≤(i:Int):=by omega
   have hw1:IntKind.i64.wrap ((i:Int)+1)=(i:Int)+1:=bH _ (by omega) (by omega)
   obtain⟨a,ha⟩:∃ a,r.chain[i]? =some a:=⟨_,List.getElem?_eq_getElem (by have:=HL.o;omega)⟩
   obtain⟨o,rfl,hgl,hcA⟩:=HA.o.2 (by have:=HL.o;omega)
   have hkk:=KD.o.then HO.o.kept (by simp)
   have y0:wr.cell? ⟨g,o+i,none⟩=some (.int .i64 a):=(hkk.cell (p:=⟨g,o+i,none⟩) hgl (by simp)).trans (hcA i (.int .i64 a) (by rw[List.getElem?_map,ha];rfl))
   have ham:=HF.o.2.2.2 a (List.mem_of_getElem? ha)
   have HT:=aa (uD ha)
   have hll:(B++qU (r.chain.take i)).length≤1000000000:=by rw[List.length_append,lT,List.length_take];omega
   have HLL:=aa hll
   clear ha hcA hkk hll
   go_wp2_with (first
    |(go_at_call 42;(with_reducible refine (HO.o.num a (by omega) (by omega) HLL.o).mono ?_);rintro e v4 ⟨rfl,o4⟩;have HO4:=aa o4;clear o4))
   go_roundw
   case rel=>exact⟨i+1,by omega,by go_num,by rw[HT.o,←List.append_assoc];exact HO4.o⟩
   case measure=>simp[intOf];omega
  ·obtain rfl:i=L:=by omega
   have HE:=aa (show B++qU (r.chain.take i)=jv r by rw[HB.o,←HL.o,List.take_length])
   rw[HE.o] at HO
   have hll:(jv r).length≤1000000000:=by rw[HB.o,List.length_append,lT,HL.o];omega
   have HLL:=aa hll
   clear hll
   go_wp2_with (first
    |(go_at_call 50;(with_reducible refine (HO.o.bytes HLL.o).mono ?_);rintro e vz ⟨u,G,rfl,ub,un,uk⟩;have OZ:=aa (ah ub (ah un uk));clear ub un uk))
   go_ret2
   exact⟨_,G,rfl,OZ.o.1,fun y hy=>⟨by have h1:=(OZ.o.2.1 y hy).1;have h2:=KD.o.size;omega,(OZ.o.2.1 y hy).2⟩,KD.o.then OZ.o.2.2 (by simp)⟩
def lm (w0:World) (p:Nat) (l:List UInt8) (e:Ending) (w':World):Prop:=e= .returned (.tuple #[])∧iZ w0 w' p l
theorem oz (F:List Nat) (r:RQ) (ev:Value) (w0 w:World) (p:Nat) (l:List UInt8) (h:l5 w F r ev) (hok:r.ok=true) (ho:iZ w0 w p l) (hb:l.length≤100000) (hb2:(iL r).length≤100000):
 Calls prog 45 #[.pointer (some ⟨p,0,none⟩),.agg (bE r ev).toArray,.func (.func 14) #[] #[]] w (lm w0 p ((l++cb (iL r).length)++iL r)):=by
 have k1:=(ag.refl [] w).alloc (.cells (bE r ev).toArray 26)
 have r1:=aC.new w 26 (bE r ev).toArray
 obtain⟨w1,hw1⟩:∃ w1,w.alloc (.cells (bE r ev).toArray 26)=w1:=⟨_,rfl⟩
 rw[hw1] at k1 r1
 have hI:(prog.info? 26).map (·.size)=some (bE r ev).length:=by rw[bB h.1];exact bN
 have HS:=aa (ah r1.rangeAll (ah hI (ah (ho.over k1) (show l5 w1 F r ev from⟨h.1,h.2.keep k1 (by simp)⟩))))
 have HW:=aa hw1
 clear k1 r1 hw1 h hI ho
 go_enter func45,ntmps45
 go_upto_region 1 with (with_reducible refine aJ _ rfl 26 (.tmp 1) rfl _ rfl ?_)
 rw[HW.o]
 go_wp2_with (first
  |(refine wpList_load_mid rfl 26 (.tmp 4) rfl w.heap.size 0 rfl (bE r ev) _ HS.o.1 underlying26 rfl HS.o.2.1 ?_)
  |(go_at_call 14;refine (mP F r ev _ HS.o.2.2.2 hok).mono ?_;rintro e w2 ⟨u,G,rfl,⟨A2,c2,g2,rfl,_,_,sn2,hg2⟩,nw2,kk2⟩;have H2:=aa (ah sn2 (ah (fun hne:iL r≠[]=>(nw2 g2 (hg2 hne)).1) kk2));clear sn2 hg2 nw2 kk2)
  |(go_at_call 49;refine (HS.o.2.2.1.textNew H2.o.2.2 A2 g2 _ c2 (iL r) rfl H2.o.1 H2.o.2.1 (by omega) (by omega)).mono ?_;rintro e w3 ⟨rfl,o3⟩;have O3:=aa o3;clear o3))
 go_end0
 exact⟨rfl,O3.o⟩
theorem ow (F:List Nat) (r:AN) (ev:Value) (w0 w:World) (p:Nat) (l:List UInt8) (h:mM w F r ev) (hok:r.ok=true) (ho:iZ w0 w p l) (hb:l.length≤100000) (hb2:(iH r).length≤100000):
 Calls prog 46 #[.pointer (some ⟨p,0,none⟩),.agg (bK r ev).toArray,.func (.func 16) #[] #[]] w (lm w0 p ((l++cb (iH r).length)++iH r)):=by
 have k1:=(ag.refl [] w).alloc (.cells (bK r ev).toArray 28)
 have r1:=aC.new w 28 (bK r ev).toArray
 obtain⟨w1,hw1⟩:∃ w1,w.alloc (.cells (bK r ev).toArray 28)=w1:=⟨_,rfl⟩
 rw[hw1] at k1 r1
 have hI:(prog.info? 28).map (·.size)=some (bK r ev).length:=by rw[bL h.1];exact bR
 have HS:=aa (ah r1.rangeAll (ah hI (ah (ho.over k1) (show mM w1 F r ev from⟨h.1,h.2.keep k1 (by simp)⟩))))
 have HW:=aa hw1
 clear k1 r1 hw1 h hI ho
 go_enter func46,ntmps46
 go_upto_region 1 with (with_reducible refine aJ _ rfl 28 (.tmp 1) rfl _ rfl ?_)
 rw[HW.o]
 go_wp2_with (first
  |(refine wpList_load_mid rfl 28 (.tmp 4) rfl w.heap.size 0 rfl (bK r ev) _ HS.o.1 underlying28 rfl HS.o.2.1 ?_)
  |(go_at_call 16;refine (mO F r ev _ HS.o.2.2.2 hok).mono ?_;rintro e w2 ⟨u,G,rfl,⟨A2,c2,g2,rfl,_,_,sn2,hg2⟩,nw2,kk2⟩;have H2:=aa (ah sn2 (ah (fun hne:iH r≠[]=>(nw2 g2 (hg2 hne)).1) kk2));clear sn2 hg2 nw2 kk2)
  |(go_at_call 49;refine (HS.o.2.2.1.textNew H2.o.2.2 A2 g2 _ c2 (iH r) rfl H2.o.1 H2.o.2.1 (by omega) (by omega)).mono ?_;rintro e w3 ⟨rfl,o3⟩;have O3:=aa o3;clear o3))
 go_end0
 exact⟨rfl,O3.o⟩
theorem jY (F:List Nat) (r:CF) (ev:Value) (w0 w:World) (p:Nat) (l:List UInt8) (h:bq w F ev r.chain) (hok:r.ok=true) (ho:iZ w0 w p l) (hb:l.length≤100000) (hb2:(jv r).length≤100000):
 Calls prog 47 #[.pointer (some ⟨p,0,none⟩),.agg (bZ r ev).toArray,.func (.func 18) #[] #[]] w (lm w0 p ((l++cb (jv r).length)++jv r)):=by
 have k1:=(ag.refl [] w).alloc (.cells (bZ r ev).toArray 31)
 have r1:=aC.new w 31 (bZ r ev).toArray
 obtain⟨w1,hw1⟩:∃ w1,w.alloc (.cells (bZ r ev).toArray 31)=w1:=⟨_,rfl⟩
 rw[hw1] at k1 r1
 have hI:(prog.info? 31).map (·.size)=some (bZ r ev).length:=by exact bS
 have HS:=aa (ah r1.rangeAll (ah hI (ah (ho.over k1) (h.keep k1 (by simp)))))
 have HW:=aa hw1
 clear k1 r1 hw1 h hI ho
 go_enter func47,ntmps47
 go_upto_region 1 with (with_reducible refine aJ _ rfl 31 (.tmp 1) rfl _ rfl ?_)
 rw[HW.o]
 go_wp2_with (first
  |(refine wpList_load_mid rfl 31 (.tmp 4) rfl w.heap.size 0 rfl (bZ r ev) _ HS.o.1 underlying31 rfl HS.o.2.1 ?_)
  |(go_at_call 18;refine (j5 F r ev _ HS.o.2.2.2 hok).mono ?_;rintro e w2 ⟨u,G,rfl,⟨A2,c2,g2,rfl,_,_,sn2,hg2⟩,nw2,kk2⟩;have H2:=aa (ah sn2 (ah (fun hne:jv r≠[]=>(nw2 g2 (hg2 hne)).1) kk2));clear sn2 hg2 nw2 kk2)
  |(go_at_call 49;refine (HS.o.2.2.1.textNew H2.o.2.2 A2 g2 _ c2 (jv r) rfl H2.o.1 H2.o.2.1 (by omega) (by omega)).mono ?_;rintro e w3 ⟨rfl,o3⟩;have O3:=aa o3;clear o3))
 go_end0
 exact⟨rfl,O3.o⟩
theorem qO (b:Bool) (w0 w:World) (p:Nat) (l:List UInt8) (ho:iZ w0 w p l) (hb:l.length≤100000):
 Calls prog 44 #[.pointer (some ⟨p,0,none⟩),.bool b] w (lm w0 p (l++aQ 1 (if b then 1 else 0))):=by
 have HO:=aa ho
 clear ho
 cases b
 all_goals
  go_enter func44,ntmps44
  go_wp2_with (first
   |(go_at_call 42;(with_reducible refine (HO.o.num 1 (by omega) (by omega) (by omega)).mono ?_);rintro e w3 ⟨rfl,o3⟩;have O3:=aa o3;clear o3)
   |(go_at_call 42;(with_reducible refine (HO.o.num 0 (by omega) (by omega) (by omega)).mono ?_);rintro e w3 ⟨rfl,o3⟩;have O3:=aa o3;clear o3))
  go_end0
  exact⟨rfl,O3.o⟩
def vtB (v:VT):List UInt8:=(cb v.ballot.toNat++cb (jv v.conf).length)++jv v.conf
def gY:List VT→List UInt8
 |[]=>[]
 |v::r=>vtB v++gY r
theorem oU:∀ l m:List VT,gY (l++m)=gY l++gY m
 |[],m=>rfl
 |a::r,m=>by rw[List.cons_append,gY,gY,oU r m,List.append_assoc]
theorem sK {l:List VT} {i:Nat} {a:VT} (h:l[i]? =some a):gY (l.take (i+1))=gY (l.take i)++vtB a:=by
 rw[List.take_add_one,h,oU]
 simp[gY]
theorem lS {c:CF} (h:c.ok=true):(jv c).length≤14:=by
 have hf:=c.ok_facts h
 have h1:=mQ (n:=c.num) hf.1.2
 unfold jv
 simp only[List.length_append,jq,lT,List.length_nil]
 omega
theorem DL {v:VT} (h:v.ok=true):(vtB v).length≤30:=by
 unfold VT.ok at h
 rw[Bool.and_eq_true,fI] at h
 have h1:=mQ (n:=v.ballot) h.1.2
 have h2:=lS h.2
 have h3:=mQ (n:=((jv v.conf).length:Int)) (by omega)
 rw[Int.toNat_natCast] at h3
 unfold vtB
 simp only[List.length_append]
 omega
theorem ui:∀{l:List VT} {i:Nat} {v:VT},iM l=true→l[i]? =some v→v.ok=true
 |[],i,v,_,h=>by simp at h
 |a::r,0,v,hb,h=>by
  simp at h;subst h
  unfold iM at hb
  exact (Bool.and_eq_true _ _▸hb).1
 |a::r,i+1,v,hb,h=>by
  unfold iM at hb
  rw[Bool.and_eq_true] at hb
  exact ui (l:=r) hb.2 (by simpa using h)
theorem nJ:∀ (l:List VT),iM l=true→(gY l).length≤30*l.length
 |[],_=>by simp[gY]
 |a::r,h=>by
  unfold iM at h
  rw[Bool.and_eq_true] at h
  have h1:=DL h.1
  have h2:=nJ r h.2
  simp only[gY,List.length_append,List.length_cons]
  omega
theorem sJ {l:List VT} (h:iM l=true) (i:Nat):iM (l.take i)=true:=by
 induction l generalizing i with
 |nil=>simpa using h
 |cons a r ih=>
  unfold iM at h
  rw[Bool.and_eq_true] at h
  cases i with
  |zero=>rfl
  |succ i=>
   rw[List.take_succ_cons]
   unfold iM
   rw[Bool.and_eq_true]
   exact⟨h.1,ih h.2 i⟩
theorem qP (F:List Nat) (l:List VT) (v:Value) (w0 w:World) (p:Nat) (b0:List UInt8) (h:di w0 F v l) (hok:eD l=true) (ho:iZ w0 w p b0) (hb:b0.length≤10000):
 Calls prog 48 #[.pointer (some ⟨p,0,none⟩),v] w (lm w0 p ((b0++aQ 1 l.length)++gY l)):=by
 unfold eD at hok
 rw[Bool.and_eq_true,decide_eq_true_eq] at hok
 obtain⟨A,c,gA,TA,rfl,_,hc,_⟩:=id h
 have HO:=aa ho
 have HV:=aa (ah h hok)
 clear h ho hok
 have h8:=HV.o.2.1
 obtain⟨L,hL⟩:∃ L,l.length=L:=⟨_,rfl⟩
 have HL:=aa hL
 rw[hL] at h8 HV ⊢
 clear hL
 go_enter func48,ntmps48
 go_upto_region 1 with (first
  |(go_at_call 42;(with_reducible refine (HO.o.num (L:Int) (by omega) (by omega) (by omega)).mono ?_);rintro e w1 ⟨rfl,o1⟩;have O1:=aa o1;clear o1))
 obtain⟨B,hB⟩:∃ B,b0++aQ 1 L=B:=⟨_,rfl⟩
 have hBl:B.length≤10001:=by rw[←hB,List.length_append,jq];omega
 have HBB:=aa hB
 have O2:aH (iZ w0 w1 p B):=aa (by have:=O1.o;rw[Int.toNat_natCast,hB] at this;exact this)
 clear O1 hB
 go_upto_region 2 with fail
 go_loopw [5,12] (fun _ v12 wx=>∃ i:Nat,i≤L∧v12= .int .i64 (i:Int)∧iZ w0 wx p (B++gY (l.take i))) (fun _ v12 _=>L-(intOf v12).toNat)
 case atStart=>exact⟨0,by omega,rfl,by simpa[gY] using O2.o⟩
 case round=>
  obtain⟨i,hi,rfl,ho⟩:=hrel
  have HO3:=aa ho
  clear ho
  by_cases hlt:i<L
  ·have hlt':(i:Int)<(L:Int):=by omega
   have hn0:(0:Int)≤(i:Int):=by omega
   have hw1:IntKind.i64.wrap ((i:Int)+1)=(i:Int)+1:=bH _ (by omega) (by omega)
   obtain⟨a,ha⟩:∃ a,l[i]? =some a:=⟨_,List.getElem?_eq_getElem (by have:=HL.o;omega)⟩
   obtain⟨g,o,cv,rfl,hgl,_,hcv,x0,x1,x2,x3⟩:=HV.o.1.at ha
   have e:=fun q=>HO3.o.kept.cell (p:=⟨g,q,none⟩) hgl (by simp)
   rw[←e] at x0 x1 x2 x3
   clear e
   have hok:=ui HV.o.2.2 ha
   have HT:=aa (sK ha)
   have hll:(B++gY (l.take i)).length≤20000:=by
    have h1:=nJ _ (sJ HV.o.2.2 i)
    have h2:(l.take i).length≤8:=by rw[List.length_take];omega
    rw[List.length_append];omega
   obtain⟨Bi,hBi⟩:∃ Bi,B++gY (l.take i)=Bi:=⟨_,rfl⟩
   rw[hBi] at hll HO3
   have HBi:=aa hBi
   obtain⟨ab,an,af,al⟩:=a
   have hfb:1≤ab∧ab≤9007199254740991:=by
    unfold VT.ok at hok
    rw[Bool.and_eq_true,fI] at hok
    exact hok.1
   have hcl:(jv ⟨an,af,al⟩).length≤14:=lS (by unfold VT.ok at hok;rw[Bool.and_eq_true] at hok;exact hok.2)
   have hc8:=mQ (n:=ab) hfb.2
   have HK:=aa (ah hok (ah hcl hc8))
   dsimp only at x0 x1 x2 x3 hcv
   obtain⟨CA,cc,cg,rfl,_⟩:=id hcv
   have HCV:=aa hcv
   clear hcv ha hok hcl hc8 hBi
   go_upto_region 4 with fail
   have k7:=(ag.refl [] wr).alloc (.cells #[.int .i64 ab,.int .i64 an,.int .i64 af,.slice CA al.length cc] 69)
   have r7:=aC.new wr 69 #[.int .i64 ab,.int .i64 an,.int .i64 af,.slice CA al.length cc]
   obtain⟨wv,hwv⟩:∃ wv,wr.alloc (.cells #[.int .i64 ab,.int .i64 an,.int .i64 af,.slice CA al.length cc] 69)=wv:=⟨_,rfl⟩
   rw[hwv] at k7 r7 ⊢
   obtain⟨tv,htv⟩:∃ tv,wr.heap.size=tv:=⟨_,rfl⟩
   rw[htv] at r7 ⊢
   have htl:w0.heap.size≤tv:=by have:=HO3.o.kept.size;omega
   have HO4:=aa (HO3.o.over k7)
   have y0:wv.cell? ⟨tv,0,none⟩=some (.int .i64 ab):=r7.cell 0
   have htp:tv≠p:=fun e=>by have:=HO3.o.lt;omega
   have HV4:aH (∃ v',jl wv p v' ⟨Bi,0⟩∧tv∉aP v'∧(w0.heap.size≤p∧(∀ x∈aP v',w0.heap.size≤x)∧ag [] w0 wv)):=aa (by
    obtain⟨v',q1,q2,q3,q4⟩:=HO3.o
    exact⟨v',q1.keep k7 (by simp) (by simp),fun hm=>by have:=q1.2.lt tv hm;omega,q2,q3,q4.then k7 (by simp)⟩)
   obtain⟨v',q1,q2,q3,q4,q5⟩:=HV4.o
   have HQ:=aa (ah q2 (ah q3 (ah q4 (ah q5 r7))))
   clear k7 r7 hwv x0 x1 x2 x3 htv q2 q3 q4 q5
   have hq1:=aa q1
   clear q1
   go_upto_region 5 with (first
    |(go_at_call 43;refine (mJ p v' _ ab _ hq1.o (show Bi.length≤_ by omega)).mono ?_;intro e w5 hp;rw[lN Bi (by omega) (by omega)] at hp;obtain⟨_,v6,h6,k6,hh6⟩:=id hp;obtain⟨rfl,o5⟩:=iZ.step hq1.o HQ.o.2.1 HQ.o.2.2.1 HQ.o.2.2.2.1 hp;have r8:=k6.row HQ.o.2.2.2.2 (by simp only[List.mem_cons];exact fun hm=>hm.elim htp HQ.o.1);have O5:=aa o5;clear hp h6 hh6 k6 o5))
   have y1:w5.cell? ⟨tv,1,none⟩=some (.int .i64 an):=r8.cell 1
   have y2:w5.cell? ⟨tv,2,none⟩=some (.int .i64 af):=r8.cell 2
   have y3:w5.cell? ⟨tv,3,none⟩=some (.slice CA al.length cc):=r8.cell 3
   have HR8:=aa r8
   clear r8 y0
   go_wp2_with (first
    |(go_at_call 47;refine (jY F ⟨an,af,al⟩ _ w0 _ p _ (HCV.o.keep O5.o.kept (by simp)) (by have:=HK.o.1;unfold VT.ok at this;rw[Bool.and_eq_true] at this;exact this.2) O5.o (by rw[List.length_append];have:=HK.o.2.2;omega) (by have:=HK.o.2.1;omega)).mono ?_;rintro e w6 ⟨rfl,o6⟩;have O6:=aa o6;clear o6))
   go_roundw
   case rel=>exact⟨i+1,by omega,by go_num,by rw[HT.o,←List.append_assoc,HBi.o];have:=O6.o;unfold vtB;rw[←List.append_assoc,←List.append_assoc];exact this⟩
   case measure=>simp[intOf];omega
  ·obtain rfl:i=L:=by omega
   have HE:=aa (show B++gY (l.take i)=B++gY l by rw[←HL.o,List.take_length])
   rw[HE.o] at HO3
   go_wp2_with fail
   go_end0
   exact⟨rfl,by rw[HBB.o];exact HO3.o⟩
def aI (b:Int) (l m:List UInt8):List UInt8:=if b=0 then l else l++m
def zy (p:PK):List UInt8:=(([]++aQ 1 p.kind.toNat)++aQ 1 p.frm.toNat)++aQ 1 p.dst.toNat
def xz (p:PK) (h:Int):List UInt8:=aI (aN h 1) (zy p) (cb p.num.toNat)
def xA (p:PK) (h:Int):List UInt8:=aI (aN h 2) (xz p h) (cb (p.seq+1).toNat)
def xB (p:PK) (h:Int):List UInt8:=aI (aN h 4) (xA p h) (cb p.ballot.toNat)
def xC (p:PK) (h:Int):List UInt8:=aI (aN h 8) (xB p h) (aQ 1 (if p.ready then 1 else 0))
def xD (p:PK) (h:Int):List UInt8:=aI (aN h 16) (xC p h) (cb (iL p.req).length++iL p.req)
def xE (p:PK) (h:Int):List UInt8:=aI (aN h 32) (xD p h) (cb (iH p.ans).length++iH p.ans)
def q9 (p:PK) (h:Int):List UInt8:=aI (aN h 64) (xE p h) (cb (jv p.conf).length++jv p.conf)
def wD (p:PK) (h:Int):List UInt8:=aI (aN h 128) (q9 p h) (aQ 1 p.votes.length++gY p.votes)
def wE (p:PK) (h:Int):List UInt8:=aI (aN h 256) (wD p h) (cb p.bytes.length++p.bytes)
def mH (p:PK):List UInt8:=wE p (aL p.kind)
theorem PK.ok_facts {p:PK} (h:p.ok=true):aL p.kind≠0∧eP p.frm=true∧eP p.dst=true∧p.same (p.cut (aL p.kind))=true∧(0≤p.num∧p.num≤9007199254740991)∧(0≤p.ballot∧p.ballot≤9007199254740991)∧og p.kind p.seq=true∧p.bytes.length≤32768∧(aN (aL p.kind) 16=0∨p.req.ok=true)∧(aN (aL p.kind) 32=0∨p.ans.ok=true)∧(aN (aL p.kind) 64=0∨p.conf.ok=true)∧eD p.votes=true:=by
 unfold PK.ok PK.parts at h
 simpa only[Bool.and_eq_true,Bool.or_eq_true,fI,decide_eq_true_eq,beq_iff_eq,Bool.not_eq_true',beq_eq_false_iff_ne,ne_eq] using h
theorem ng {k:Int} (h:aL k≠0):1≤k∧k≤14:=by
 unfold aL at h
 split at h
 ·rename_i hk
  by_cases e:k=0
  ·subst e;exact absurd rfl h
  ·omega
 ·exact absurd rfl h
theorem jW {n:Int} (h:eP n=true):0≤n∧n≤22:=by
 unfold eP at h
 simp only[Bool.or_eq_true,fI] at h
 omega
theorem fT {k n:Int} (h:og k n=true): -1≤n∧n≤9007199254740990:=by
 unfold og at h
 rw[fI] at h
 split at h<;>omega
theorem qC {r:RQ} (h:r.ok=true) (hn:r.name.length=32):(iL r).length≤1082:=by
 have hf:=r.ok_facts h
 have h1:=mQ (n:=r.num) hf.2.1.2
 have h2:=mQ (n:=r.version) hf.2.2.2.1.2
 have h3:=mQ (n:=(r.env.length:Int)) (by omega)
 rw[Int.toNat_natCast] at h3
 unfold iL
 simp only[List.length_append,jq,List.length_nil,hn]
 omega
theorem pO {r:AN} (h:r.ok=true) (hn:r.name.length=32):(iH r).length≤1083:=by
 have hf:=r.ok_facts h
 have h1:=mQ (n:=r.num) hf.2.1.2
 have h2:=mQ (n:=r.version) hf.2.2.2.1.2
 have h3:=mQ (n:=(r.env.length:Int)) (by omega)
 rw[Int.toNat_natCast] at h3
 unfold iH
 simp only[List.length_append,jq,List.length_nil,hn]
 omega
theorem kJ {b:Int} {l m:List UInt8} {n k:Nat} (h1:l.length≤n) (h2:b=0∨m.length≤k):(aI b l m).length≤n+k:=by
 unfold aI
 split
 ·omega
 ·rename_i hb
  rw[List.length_append]
  have:=h2.resolve_left hb
  omega
theorem fK {b:Int} (l m:List UInt8) (h:b=0):aI b l m=l:=by unfold aI;rw[if_pos h]
theorem gZ {b:Int} (l m:List UInt8) (h:b≠0):aI b l m=l++m:=by unfold aI;rw[if_neg h]
theorem tX {p:PK} (h:p.ok=true) (hn:p.req.name.length=32) (ha:p.ans.name.length=32):
 (zy p).length≤3∧(xz p (aL p.kind)).length≤11∧(xA p (aL p.kind)).length≤19∧(xB p (aL p.kind)).length≤27∧(xC p (aL p.kind)).length≤28∧(xD p (aL p.kind)).length≤1118∧(xE p (aL p.kind)).length≤2209∧(q9 p (aL p.kind)).length≤2231∧(wD p (aL p.kind)).length≤2472∧(wE p (aL p.kind)).length≤35248:=by
 obtain⟨h1,h2,h3,h4,h5,h6,h7,h8,h9,h10,h11,h12⟩:=p.ok_facts h
 have hs:=fT h7
 generalize aL p.kind=f at*
 have e0:(zy p).length≤3:=by unfold zy;simp only[List.length_append,jq,List.length_nil];omega
 have e1:(xz p f).length≤11:=kJ e0 (.inr (mQ h5.2))
 have e2:(xA p f).length≤19:=kJ e1 (.inr (mQ (by omega)))
 have e3:(xB p f).length≤27:=kJ e2 (.inr (mQ h6.2))
 have e4:(xC p f).length≤28:=kJ (k:=1) e3 (.inr (by rw[jq];omega))
 have hc:∀ n:Nat,n≤100000→(cb n).length≤8:=fun n hn=>by have:=mQ (n:=(n:Int)) (by omega);rwa [Int.toNat_natCast] at this
 have e5:(xD p f).length≤1118:=kJ (k:=1090) e4 (h9.imp id (fun h=>by have:=qC h hn;have:=hc (iL p.req).length (by omega);rw[List.length_append];omega))
 have e6:(xE p f).length≤2209:=kJ (k:=1091) e5 (h10.imp id (fun h=>by have:=pO h ha;have:=hc (iH p.ans).length (by omega);rw[List.length_append];omega))
 have e7:(q9 p f).length≤2231:=kJ (k:=22) e6 (h11.imp id (fun h=>by have:=lS h;have:=hc (jv p.conf).length (by omega);rw[List.length_append];omega))
 have e8:(wD p f).length≤2472:=kJ (k:=241) e7 (.inr (by
  unfold eD at h12
  rw[Bool.and_eq_true,decide_eq_true_eq] at h12
  have:=nJ _ h12.2
  rw[List.length_append,jq];omega))
 have e9:(wE p f).length≤35248:=kJ (k:=32776) e8 (.inr (by have:=hc p.bytes.length (by omega);rw[List.length_append];omega))
 exact⟨e0,e1,e2,e3,e4,e5,e6,e7,e8,e9⟩
theorem AC (F:List Nat) (p:PK) (ev av cv vv bw:Value) (w:World) (h:gX w F p ev av cv vv bw) (hfl:d9 w) (hb1:dJ p.frm) (hb2:dJ p.dst) (hok:p.ok=false):
 Calls prog 7 #[.agg (bz p ev av cv vv bw).toArray] w fun e w'=>e= .returned (.tuple #[.slice none 0 0,.int .i64 2])∧ag [] w w':=by
 have k1:=(ag.refl [] w).alloc (.cells (bz p ev av cv vv bw).toArray 34)
 have r1:=aC.new w 34 (bz p ev av cv vv bw).toArray
 obtain⟨w1,hw1⟩:∃ w1,w.alloc (.cells (bz p ev av cv vv bw).toArray 34)=w1:=⟨_,rfl⟩
 rw[hw1] at k1 r1
 have hI:(prog.info? 34).map (·.size)=some (bz p ev av cv vv bw).length:=by rw[bA h.rn h.an];exact aF
 have HS:=aa (ah r1.rangeAll (ah hI (ah k1 (ah (h.keep k1 (by simp)) (hfl.keep k1 (by simp))))))
 have HW:=aa hw1
 clear k1 r1 hw1 h hI hfl
 go_enter func7,ntmps7
 go_upto_region 1 with (with_reducible refine aJ _ rfl 34 (.tmp 0) rfl _ rfl ?_)
 rw[HW.o]
 go_upto_region 2 with (first
  |(refine wpList_load_mid rfl 34 (.tmp 1) rfl w.heap.size 0 rfl (bz p ev av cv vv bw) _ HS.o.1 underlying34 rfl HS.o.2.1 ?_)
  |(go_at_call 9;refine (gI F p ev av cv vv bw _ HS.o.2.2.2.1 HS.o.2.2.2.2 hb1 hb2).mono ?_;rintro e w2 ⟨rfl,kk⟩;rw[hok];have K2:=aa (HS.o.2.2.1.then kk (by simp));clear kk))
 go_wp2_with fail
 go_ret2
 exact⟨rfl,K2.o⟩
theorem nR (F:List Nat) (p:PK) (ev av cv vv bw:Value) (w:World) (h:gX w F p ev av cv vv bw) (hfl:d9 w) (hb1:dJ p.frm) (hb2:dJ p.dst) (hok:p.ok=true):
 Calls prog 7 #[.agg (bz p ev av cv vv bw).toArray] w (iE w (mH p)):=by
 have hf:=p.ok_facts hok
 have k1:=(ag.refl [] w).alloc (.cells (bz p ev av cv vv bw).toArray 34)
 have r1:=aC.new w 34 (bz p ev av cv vv bw).toArray
 obtain⟨w1,hw1⟩:∃ w1,w.alloc (.cells (bz p ev av cv vv bw).toArray 34)=w1:=⟨_,rfl⟩
 rw[hw1] at k1 r1
 have hI:(prog.info? 34).map (·.size)=some (bz p ev av cv vv bw).length:=by rw[bA h.rn h.an];exact aF
 have HS:=aa (ah r1.rangeAll (ah hI (ah k1 (ah (h.keep k1 (by simp)) (hfl.keep k1 (by simp))))))
 have HW:=aa hw1
 have HR1:=aa r1
 have HF:=aa hf
 have HP:=aa h
 have hrn:=h.rn
 have han:=h.an
 clear k1 r1 hw1 h hI hfl hf
 obtain⟨A0,c0,g0,rfl,_⟩:=id HP.o.re
 obtain⟨A1,c1,g1,rfl,_⟩:=id HP.o.ae
 obtain⟨A2,c2,g2,rfl,_⟩:=id HP.o.cc
 obtain⟨A3,c3,g3,T3,rfl,_⟩:=id HP.o.vs
 obtain⟨A4,c4,g4,rfl,_,_,hs4,_⟩:=id HP.o.bs
 have HS4:=aa hs4
 clear hs4
 go_enter func7,ntmps7
 go_upto_region 1 with (with_reducible refine aJ _ rfl 34 (.tmp 0) rfl _ rfl ?_)
 rw[HW.o]
 go_upto_region 2 with (first
  |(refine wpList_load_mid rfl 34 (.tmp 1) rfl w.heap.size 0 rfl (bz p _ _ _ _ _) _ HS.o.1 underlying34 rfl HS.o.2.1 ?_)
  |(go_at_call 9;refine (gI F p _ _ _ _ _ _ HS.o.2.2.2.1 HS.o.2.2.2.2 hb1 hb2).mono ?_;rintro e w2 ⟨rfl,kk⟩;rw[hok];have r2:=kk.row HR1.o (by simp);have K2:=aa (HS.o.2.2.1.then kk (by simp));have F2:=aa (HS.o.2.2.2.2.keep kk (by simp));clear kk))
 obtain⟨tb,htb⟩:∃ tb,w.heap.size=tb:=⟨_,rfl⟩
 have HP2:=aa (HP.o.keep K2.o (by simp))
 rw[htb] at r2 ⊢
 have HTB:=aa htb
 have x0:w2.cell? ⟨tb,0,none⟩=some (.int .i64 p.kind):=(r2.cell 0).trans rfl
 clear htb
 go_upto_region 5 with (first
  |(go_at_call 40;refine (kM p.kind _ F2.o).mono ?_;rintro e w' ⟨rfl,rfl⟩))
 have z0:w2.drew.cell? ⟨tb,0,none⟩=some (.int .i64 p.kind):=x0
 have z1:w2.drew.cell? ⟨tb,1,none⟩=some (.int .i64 p.frm):=(r2.cell 1).trans rfl
 have z2:w2.drew.cell? ⟨tb,2,none⟩=some (.int .i64 p.dst):=(r2.cell 2).trans rfl
 have r2d:aC w2.drew tb 34 _:=r2
 have PA:aH (∀ wx,ag [] w2.drew wx→vM wx tb p (.slice A0 p.req.env.length c0) (.slice A1 p.ans.env.length c1) (.slice A2 p.conf.chain.length c2) (.slice A3 p.votes.length c3) (.slice A4 p.bytes.length c4)):=aa (fun wx k=>(k.row r2d (by simp)).pk hrn han)
 have Z0:w2.drew.cell? ⟨tb,0,none⟩=some (.int .i64 p.kind)∧w2.drew.cell? ⟨tb,1,none⟩=some (.int .i64 p.frm)∧w2.drew.cell? ⟨tb,2,none⟩=some (.int .i64 p.dst):=⟨z0,z1,z2⟩
 have KD:=aa (K2.o.then ((ag.refl [] w2).drew) (by simp))
 have HPD:=aa (HP2.o.keep ((ag.refl [] w2).drew) (by simp))
 have HLS:=aa (tX hok hrn han)
 have HKD:=aa (ah (ng HF.o.1) (ah (jW HF.o.2.1) (jW HF.o.2.2.1)))
 clear r2 r2d x0 z0 z1 z2
 go_region_held3 (fun w'=>w'.cell? ⟨tb,0,none⟩=some (.int .i64 p.kind)∧w'.cell? ⟨tb,1,none⟩=some (.int .i64 p.frm)∧w'.cell? ⟨tb,2,none⟩=some (.int .i64 p.dst)) (first|exact Z0|exact Y0|exact Y1|exact Y2|exact Y3)
  (first
    |(go_at_call 41;refine iZ.start.mono ?_;rintro e v0 ⟨q,rfl,o0⟩;have O0:=aa o0;have Y0:=ah (PA.o _ o0.kept).c0 (ah (PA.o _ o0.kept).c1 (PA.o _ o0.kept).c2);clear o0)
    |(go_at_call 42;(with_reducible refine (O0.o.num p.kind (by have:=HKD.o;omega) (by have:=HKD.o;omega) (by simp)).mono ?_);rintro e v1 ⟨rfl,o1⟩;have O1:=aa o1;have Y1:=ah (PA.o _ o1.kept).c0 (ah (PA.o _ o1.kept).c1 (PA.o _ o1.kept).c2);clear o1)
    |(go_at_call 42;(with_reducible refine (O1.o.num p.frm (by have:=HKD.o;omega) (by have:=HKD.o;omega) (by simp only[List.length_append,jq,List.length_nil];omega)).mono ?_);rintro e v2 ⟨rfl,o2⟩;have O2:=aa o2;have Y2:=ah (PA.o _ o2.kept).c0 (ah (PA.o _ o2.kept).c1 (PA.o _ o2.kept).c2);clear o2)
    |(go_at_call 42;(with_reducible refine (O2.o.num p.dst (by have:=HKD.o;omega) (by have:=HKD.o;omega) (by simp only[List.length_append,jq,List.length_nil];omega)).mono ?_);rintro e v3 ⟨rfl,o3⟩;have O3:=aa o3;have Y3:=ah (PA.o _ o3.kept).c0 (ah (PA.o _ o3.kept).c1 (PA.o _ o3.kept).c2);clear o3))
 clear O0 O1 O2 Y0 Y1 Y2 Y3 Z0
 have O:aH (iZ w2.drew v3 q (zy p)):=O3
 clear O3
 obtain⟨f,hf⟩:∃ f,aL p.kind=f:=⟨_,rfl⟩
 rw[hf] at HF HLS ⊢
 have HFF:=aa hf
 clear hf
 go_upto_if 27 with fail
 go_cut [] (fun wx=>iZ w2.drew wx q (xz p f))
 case first=>
  by_cases hb:aN f 1=0
  ·have hbb:(bits .and .i64 f 1 !=0)=false:=by have:=hb;unfold aN at this;simp[this]
   have E:=aa (fK (zy p) (cb p.num.toNat) hb)
   clear hb
   go_wp2_with fail
   go_meet
   exact (by rw[show xz p f=_ from E.o];exact O.o)
  ·have hbb:(bits .and .i64 f 1 !=0)=true:=by have:=hb;unfold aN at this;simp[this]
   have E:=aa (gZ (zy p) (cb p.num.toNat) hb)
   have y:=(PA.o _ O.o.kept).c3
   go_wp2_with (first
    |(go_at_call 43;refine (O.o.count p.num HF.o.2.2.2.2.1.1 HF.o.2.2.2.2.1.2 (by have:=HLS.o;omega)).mono ?_;rintro e wx ⟨rfl,ox⟩))
   go_meet
   exact (by rw[show xz p f=_ from E.o];exact ox)
 have O:=aa hcut
 clear hcut
 go_upto_if 34 with fail
 go_cut [] (fun wx=>iZ w2.drew wx q (xA p f))
 case first=>
  by_cases hb:aN f 2=0
  ·have hbb:(bits .and .i64 f 2 !=0)=false:=by have:=hb;unfold aN at this;simp[this]
   have E:=aa (fK (xz p f) (cb (p.seq+1).toNat) hb)
   clear hb
   go_wp2_with fail
   go_meet
   exact (by rw[show xA p f=_ from E.o];exact O.o)
  ·have hbb:(bits .and .i64 f 2 !=0)=true:=by have:=hb;unfold aN at this;simp[this]
   have E:=aa (gZ (xz p f) (cb (p.seq+1).toNat) hb)
   have y:=(PA.o _ O.o.kept).c4
   have hws:IntKind.i64.wrap (p.seq+1)=p.seq+1:=bH _ (by have:=fT HF.o.2.2.2.2.2.2.1;omega) (by have:=fT HF.o.2.2.2.2.2.2.1;omega)
   go_wp2_with (first
    |(go_at_call 43;refine (O.o.count (p.seq+1) (by have:=fT HF.o.2.2.2.2.2.2.1;omega) (by have:=fT HF.o.2.2.2.2.2.2.1;omega) (by have:=HLS.o;omega)).mono ?_;rintro e wx ⟨rfl,ox⟩))
   go_meet
   exact (by rw[show xA p f=_ from E.o];exact ox)
 have O:=aa hcut
 clear hcut
 go_upto_if 42 with fail
 go_cut [] (fun wx=>iZ w2.drew wx q (xB p f))
 case first=>
  by_cases hb:aN f 4=0
  ·have hbb:(bits .and .i64 f 4 !=0)=false:=by have:=hb;unfold aN at this;simp[this]
   have E:=aa (fK (xA p f) (cb p.ballot.toNat) hb)
   clear hb
   go_wp2_with fail
   go_meet
   exact (by rw[show xB p f=_ from E.o];exact O.o)
  ·have hbb:(bits .and .i64 f 4 !=0)=true:=by have:=hb;unfold aN at this;simp[this]
   have E:=aa (gZ (xA p f) (cb p.ballot.toNat) hb)
   have y:=(PA.o _ O.o.kept).c5
   go_wp2_with (first
    |(go_at_call 43;refine (O.o.count p.ballot HF.o.2.2.2.2.2.1.1 HF.o.2.2.2.2.2.1.2 (by have:=HLS.o;omega)).mono ?_;rintro e wx ⟨rfl,ox⟩))
   go_meet
   exact (by rw[show xB p f=_ from E.o];exact ox)
 have O:=aa hcut
 clear hcut
 go_upto_if 49 with fail
 go_cut [] (fun wx=>iZ w2.drew wx q (xC p f))
 case first=>
  by_cases hb:aN f 8=0
  ·have hbb:(bits .and .i64 f 8 !=0)=false:=by have:=hb;unfold aN at this;simp[this]
   have E:=aa (fK (xB p f) (aQ 1 (if p.ready then 1 else 0)) hb)
   clear hb
   go_wp2_with fail
   go_meet
   exact (by rw[show xC p f=_ from E.o];exact O.o)
  ·have hbb:(bits .and .i64 f 8 !=0)=true:=by have:=hb;unfold aN at this;simp[this]
   have E:=aa (gZ (xB p f) (aQ 1 (if p.ready then 1 else 0)) hb)
   have y:=(PA.o _ O.o.kept).c6
   go_wp2_with (first
    |(go_at_call 44;refine (qO p.ready _ _ q _ O.o (by have:=HLS.o;omega)).mono ?_;rintro e wx ⟨rfl,ox⟩))
   go_meet
   exact (by rw[show xC p f=_ from E.o];exact ox)
 have O:=aa hcut
 clear hcut
 go_upto_if 56 with fail
 go_cut [] (fun wx=>iZ w2.drew wx q (xD p f))
 case first=>
  by_cases hb:aN f 16=0
  ·have hbb:(bits .and .i64 f 16 !=0)=false:=by have:=hb;unfold aN at this;simp[this]
   have E:=aa (fK (xC p f) (cb (iL p.req).length++iL p.req) hb)
   clear hb
   go_wp2_with fail
   go_meet
   exact (by rw[show xD p f=_ from E.o];exact O.o)
  ·have hbb:(bits .and .i64 f 16 !=0)=true:=by have:=hb;unfold aN at this;simp[this]
   have E:=aa (gZ (xC p f) (cb (iL p.req).length++iL p.req) hb)
   have y:=aa (PA.o _ O.o.kept).rq
   have hI:aH ((prog.info? 26).map (·.size)=some (bE p.req (.slice A0 p.req.env.length c0)).length):=aa (by rw[bB hrn];exact bN)
   go_wp2_with (first
    |(refine wpList_load_mid rfl 26 (.tmp 58) rfl tb 7 rfl (bE p.req (.slice A0 p.req.env.length c0)) _ y.o underlying26 rfl hI.o ?_)
    |(go_at_call 45;refine (oz F p.req _ _ _ q _ ⟨hrn,HPD.o.re.keep O.o.kept (by simp)⟩ (HF.o.2.2.2.2.2.2.2.2.1.resolve_left hb) O.o (by have:=HLS.o;omega) (by have:=qC (HF.o.2.2.2.2.2.2.2.2.1.resolve_left hb) hrn;omega)).mono ?_;rintro e wx ⟨rfl,ox⟩))
   go_meet
   exact (by rw[show xD p f=_ from E.o];rw[←List.append_assoc];exact ox)
 have O:=aa hcut
 clear hcut
 go_upto_if 63 with fail
 go_cut [] (fun wx=>iZ w2.drew wx q (xE p f))
 case first=>
  by_cases hb:aN f 32=0
  ·have hbb:(bits .and .i64 f 32 !=0)=false:=by have:=hb;unfold aN at this;simp[this]
   have E:=aa (fK (xD p f) (cb (iH p.ans).length++iH p.ans) hb)
   clear hb
   go_wp2_with fail
   go_meet
   exact (by rw[show xE p f=_ from E.o];exact O.o)
  ·have hbb:(bits .and .i64 f 32 !=0)=true:=by have:=hb;unfold aN at this;simp[this]
   have E:=aa (gZ (xD p f) (cb (iH p.ans).length++iH p.ans) hb)
   have y:=aa (PA.o _ O.o.kept).an
   have hI:aH ((prog.info? 28).map (·.size)=some (bK p.ans (.slice A1 p.ans.env.length c1)).length):=aa (by rw[bL han];exact bR)
   go_wp2_with (first
    |(refine wpList_load_mid rfl 28 (.tmp 65) rfl tb 44 rfl (bK p.ans (.slice A1 p.ans.env.length c1)) _ y.o underlying28 rfl hI.o ?_)
    |(go_at_call 46;refine (ow F p.ans _ _ _ q _ ⟨han,HPD.o.ae.keep O.o.kept (by simp)⟩ (HF.o.2.2.2.2.2.2.2.2.2.1.resolve_left hb) O.o (by have:=HLS.o;omega) (by have:=pO (HF.o.2.2.2.2.2.2.2.2.2.1.resolve_left hb) han;omega)).mono ?_;rintro e wx ⟨rfl,ox⟩))
   go_meet
   exact (by rw[show xE p f=_ from E.o];rw[←List.append_assoc];exact ox)
 have O:=aa hcut
 clear hcut
 go_upto_if 70 with fail
 go_cut [] (fun wx=>iZ w2.drew wx q (q9 p f))
 case first=>
  by_cases hb:aN f 64=0
  ·have hbb:(bits .and .i64 f 64 !=0)=false:=by have:=hb;unfold aN at this;simp[this]
   have E:=aa (fK (xE p f) (cb (jv p.conf).length++jv p.conf) hb)
   clear hb
   go_wp2_with fail
   go_meet
   exact (by rw[show q9 p f=_ from E.o];exact O.o)
  ·have hbb:(bits .and .i64 f 64 !=0)=true:=by have:=hb;unfold aN at this;simp[this]
   have E:=aa (gZ (xE p f) (cb (jv p.conf).length++jv p.conf) hb)
   have y0:=(PA.o _ O.o.kept).d0
   have y1:=(PA.o _ O.o.kept).d1
   have y2:=(PA.o _ O.o.kept).d2
   go_wp2_with (first
    |(go_at_call 47;refine (jY F p.conf _ _ _ q _ (HPD.o.cc.keep O.o.kept (by simp)) (HF.o.2.2.2.2.2.2.2.2.2.2.1.resolve_left hb) O.o (by have:=HLS.o;omega) (by have:=lS (HF.o.2.2.2.2.2.2.2.2.2.2.1.resolve_left hb);omega)).mono ?_;rintro e wx ⟨rfl,ox⟩))
   go_meet
   exact (by rw[show q9 p f=_ from E.o];rw[←List.append_assoc];exact ox)
 have O:=aa hcut
 clear hcut
 go_upto_if 77 with fail
 go_cut [] (fun wx=>iZ w2.drew wx q (wD p f))
 case first=>
  by_cases hb:aN f 128=0
  ·have hbb:(bits .and .i64 f 128 !=0)=false:=by have:=hb;unfold aN at this;simp[this]
   have E:=aa (fK (q9 p f) (aQ 1 p.votes.length++gY p.votes) hb)
   clear hb
   go_wp2_with fail
   go_meet
   exact (by rw[show wD p f=_ from E.o];exact O.o)
  ·have hbb:(bits .and .i64 f 128 !=0)=true:=by have:=hb;unfold aN at this;simp[this]
   have E:=aa (gZ (q9 p f) (aQ 1 p.votes.length++gY p.votes) hb)
   have y:=(PA.o _ O.o.kept).d3
   go_wp2_with (first
    |(go_at_call 48;refine (qP F p.votes _ _ _ q _ HPD.o.vs HF.o.2.2.2.2.2.2.2.2.2.2.2 O.o (by have:=HLS.o;omega)).mono ?_;rintro e wx ⟨rfl,ox⟩))
   go_meet
   exact (by rw[show wD p f=_ from E.o];rw[←List.append_assoc];exact ox)
 have O:=aa hcut
 clear hcut
 go_upto_if 84 with fail
 go_cut [] (fun wx=>iZ w2.drew wx q (wE p f))
 case first=>
  by_cases hb:aN f 256=0
  ·have hbb:(bits .and .i64 f 256 !=0)=false:=by have:=hb;unfold aN at this;simp[this]
   have E:=aa (fK (wD p f) (cb p.bytes.length++p.bytes) hb)
   clear hb
   go_wp2_with fail
   go_meet
   exact (by rw[show wE p f=_ from E.o];exact O.o)
  ·have hbb:(bits .and .i64 f 256 !=0)=true:=by have:=hb;unfold aN at this;simp[this]
   have E:=aa (gZ (wD p f) (cb p.bytes.length++p.bytes) hb)
   have y:=(PA.o _ O.o.kept).d4
   have HB4:aH (dI w2.drew A4 g4 p.bytes):=aa (HS4.o.keep KD.o (by simp))
   go_wp2_with (first
    |(go_at_call 49;refine (O.o.text A4 g4 _ c4 p.bytes rfl HB4.o (by have:=HLS.o;omega) (by have:=HF.o.2.2.2.2.2.2.2.1;omega)).mono ?_;rintro e wx ⟨rfl,ox⟩))
   go_meet
   exact (by rw[show wE p f=_ from E.o];rw[←List.append_assoc];exact ox)
 have O:=aa hcut
 clear hcut
 have HE:=aa (show mH p=wE p f by unfold mH;rw[HFF.o])
 have hll:(wE p f).length≤1000000000:=by have:=HLS.o;omega
 have HLL:=aa hll
 clear hll
 go_wp2_with (first
  |(go_at_call 50;refine (O.o.bytes HLL.o).mono ?_;rintro e vz ⟨u,G,rfl,ub,un,uk⟩;have OZ:=aa (ah ub (ah un uk));clear ub un uk))
 go_ret2
 exact⟨_,G,rfl,by rw[HE.o];exact OZ.o.1,fun y hy=>⟨by have h1:=(OZ.o.2.1 y hy).1;have h2:=KD.o.size;omega,(OZ.o.2.1 y hy).2⟩,KD.o.then OZ.o.2.2 (by simp)⟩
end Go.Proofs.YthfdkonhjpdflaaGreatDoor
