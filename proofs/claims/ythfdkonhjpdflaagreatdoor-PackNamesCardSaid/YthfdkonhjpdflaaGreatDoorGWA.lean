import Derived.Test.YthfdkonhjpdflaaGreatDoorRWide
import Derived.Test.YthfdkonhjpdflaaGreatDoorPkD
import Derived.Test.YthfdkonhjpdflaaGreatDoorPk21
import Derived.Test.YthfdkonhjpdflaaGreatDoorRCB
import Derived.Test.YthfdkonhjpdflaaGreatDoorPkE
import Derived.Test.YthfdkonhjpdflaaGreatDoorRC15
import Derived.Test.YthfdkonhjpdflaaGreatDoorPkJ
namespace Go.Proofs.YthfdkonhjpdflaaGreatDoor
open Go.RowKit Go.Proofs.Tryz
set_option linter.unusedVariables false
set_option maxHeartbeats 16000000
set_option maxRecDepth 100000
set_option linter.unusedSimpArgs false
def FD (w:World) (p:Nat) (v:Value) (s:WS):Prop:=
 l5 w p 129 #[v,.int .i64 s.e]∧qA w 5 1 v s.b.length (s.b.map bv)
theorem FD.apart {w:World} {p:Nat} {v:Value} {s:WS} (h:FD w p v s):p∉Z6 v:=h.2.apart h.1 (by decide)
theorem FD.keep {S:List Nat} {w w':World} {p:Nat} {v:Value} {s:WS} (h:FD w p v s) (hk:U1 S w w') (hp:p∉S) (hS:∀ x∈Z6 v,x∉S):FD w' p v s:=
 ⟨hk.row h.1 hp,h.2.keep hk hS⟩
def kI (p:Nat) (v:Value) (s:WS) (w:World) (e:Ending) (w':World):Prop:=
 e= .returned (.pointer (some ⟨p,0,none⟩))∧∃ v',FD w' p v' s∧U1 (p::Z6 v) w w'∧∀ x∈Z6 v',x∈Z6 v∨w.heap.size≤x
theorem RI {w W w2:World} {p n:Nat} {v':Value} {A2:Option Addr} {c2:Nat} {b1 l:List UInt8} {e:Int} (h:FD w p v' ⟨b1,e⟩) (hW:U1 [] w W) (hk:U1 (Z6 v') W w2)
 (hown:qA w2 5 1 (.slice A2 n c2) n ((b1++l).map bv)) (hloc:∀ x∈Z6 (.slice A2 n c2),x∈Z6 v'∨W.heap.size≤x):
 FD (w2.setCell ⟨p,0,none⟩ (.slice A2 n c2)) p (.slice A2 n c2) ⟨b1++l,e⟩∧U1 (p::Z6 v') w (w2.setCell ⟨p,0,none⟩ (.slice A2 n c2))∧
  ∀ x∈Z6 (.slice A2 n c2),x∈Z6 v'∨w.heap.size≤x:=by
 have hp2:=hk.row (hW.row h.1 (by simp)) h.apart
 have hap:=hown.apart hp2 (by decide)
 have hn:n=(b1++l).length:=by have:=hown.1;simp only[List.length_map] at this;omega
 have hk2:U1 (p::Z6 v') w w2:=(hW.more (T:=p::Z6 v') (by simp)).then hk (fun x hx=> .inl (by simp[hx]))
 refine⟨⟨hp2.set 0 _,?_⟩,hk2.setCell _ _ (.inl (by simp)),fun x hx=>(hloc x hx).imp id (fun h=>by have:=hW.size;omega)⟩
 rw[←hn]
 exact hown.keep ((U1.refl [p] w2).setCell _ _ (.inl (by simp))) (fun x hx hxp=>hap (by simp at hxp;rw[←hxp];exact hx))
theorem pK {w:World} {p:Nat} {v:Value} {s:WS} (h:FD w p v s) (x:Int):FD (w.setCell ⟨p,1,none⟩ (.int .i64 x)) p v ⟨s.b,x⟩:=
 ⟨h.1.set 1 _,h.2.keep ((U1.refl [p] w).setCell _ _ (.inl (by simp))) (fun x hx hxp=>h.apart (by simp at hxp;rw[←hxp];exact hx))⟩
theorem QP (w:World):
 Calls prog 51 #[] w fun e w'=>∃ p,e= .returned (.pointer (some ⟨p,0,none⟩))∧FD w' p (.slice none 0 0) ⟨[],0⟩∧w.heap.size≤p∧U1 [] w w':=by
 go_enter func51,ntmps51
 go_wp2
 go_ret
 exact⟨w.heap.size,rfl,⟨l5.new _ _ _,qA.nil _ _ _⟩,Nat.le_refl _,(U1.refl _ _).alloc _⟩
theorem FL (p:Nat) (v:Value) (s:WS) (A:Option Addr) (g c:Nat) (l:List UInt8) (w:World) (h:FD w p v s) (hs:QA w A g l) (hb:s.b.length+l.length≤140737488355328):
 Calls prog 81 #[.pointer (some ⟨p,0,none⟩),.slice A l.length c] w (kI p v (s.raw l) w):=by
 have hc0:w.cell? ⟨p,0,none⟩=some v:=h.1.cell 0
 have hc1:w.cell? ⟨p,1,none⟩=some (.int .i64 s.e):=h.1.cell 1
 have hf0:=h.1.free 0
 by_cases he:s.e=0
 ·have he':(s.e==0)=true:=by simp[he]
  have HE:=U0 he
  obtain⟨sb,se⟩:=s
  simp only at he
  subst he
  have hfin:WS.raw ⟨sb,0⟩ l=⟨sb++l,0⟩:=by simp[WS.raw]
  have HFin:=U0 hfin
  clear hfin
  obtain⟨i0,hi0,hz0,hz1,hz2⟩:=info_parts JF
  have HD:=U0 h
  have hplt:=h.1.lt
  have HO:=U0 (show qA w 5 1 v sb.length (sb.map bv) from h.2)
  have hb':sb.length+l.length≤140737488355328:=hb
  have HS:=U0 hs.reads
  go_enter func81,ntmps81
  go_wp2_with (first|(at_builtin;refine NA _ rfl (.tmp 14) (.tmp 15) 24 rfl 5 i0 (.int .u8 0) 1 1 underlying24 hi0 hz0 hz1 hz2 rfl (by decide) v sb.length _ (by simp[Act.eval]) HO.o A g l.length c _ (by simp[Act.eval]) HS.o (by intro u hu;simp at hu;obtain⟨b,_,rfl⟩:=hu;rfl) (by omega) (by unfold maxLen;omega) ?_;intro A2 c2 w2 hown2 hkb2 hloc2;have hW2:=hkb2.row HD.o.1 HD.o.apart;have hcell2:w2.cell? ⟨p,0,none⟩=some v:=hW2.cell 0;have hfree2:=hW2.free 0))
  go_ret
  have hst:=RI HD.o (U1.refl [] w) hkb2 (l:=l) (by rw[List.map_append];exact hown2) hloc2
  exact⟨rfl,_,by rw[HFin.o];exact hst.1,hst.2.1,hst.2.2⟩
 ·have hfin:s.raw l=s:=by
   unfold WS.raw
   rw[if_neg he]
  have he':(s.e==0)=false:=by simp[he]
  have HFin:=U0 hfin
  clear hfin he
  go_enter func81,ntmps81
  go_wp2
  go_ret
  exact⟨rfl,v,by rw[HFin.o];exact h,U1.refl _ _,fun x hx=> .inl hx⟩
theorem VK (width n:Int) (w:World) (hw:FI width=true):
 Calls prog 123 #[.int .i64 width,.int .i64 n] w fun e w'=>e= .returned (.bool (LB width n))∧w=w':=by
 by_cases h0:0≤n
 ·by_cases hm:n≤9007199254740991
  ·have hm8:n≤(YF:Int):=by unfold YF;omega
   rcases fC hw with rfl|rfl|rfl|rfl
   ·have HF:=U0 (show LB 1 n=decide (n<256) by simp[LB,h0])
    go_enter func123,ntmps123
    go_wp2
    go_ret
    exact⟨by rw[HF.o];rfl,rfl⟩
   ·have HF:=U0 (show LB 2 n=decide (n<65536) by simp[LB,h0])
    go_enter func123,ntmps123
    go_wp2
    go_ret
    exact⟨by rw[HF.o];rfl,rfl⟩
   ·have HF:=U0 (show LB 4 n=decide (n<4294967296) by simp[LB,h0])
    go_enter func123,ntmps123
    go_wp2
    go_ret
    exact⟨by rw[HF.o];rfl,rfl⟩
   ·have HF:=U0 (show LB 8 n=true by simp[LB,h0,hm8])
    go_enter func123,ntmps123
    go_wp2
    go_ret
    exact⟨by rw[HF.o];rfl,rfl⟩
  ·have HF:=U0 (show LB width n=false by
    rcases fC hw with rfl|rfl|rfl|rfl
    all_goals
     have: ¬n≤(YF:Int):=by unfold YF;omega
     simp[LB,this]
     try omega)
   go_enter func123,ntmps123
   go_wp2
   go_ret
   exact⟨by rw[HF.o];rfl,rfl⟩
 ·have HF:=U0 (show LB width n=false by simp[LB,h0])
  go_enter func123,ntmps123
  go_wp2
  go_ret
  exact⟨by rw[HF.o];rfl,rfl⟩
def JO (s:WS) (w:World) (e:Ending) (w':World):Prop:=
 ∃ v,e= .returned (.tuple #[v,.int .i64 s.e])∧qA w' 5 1 v s.bytes.length (s.bytes.map bv)∧(∀ x∈Z6 v,w.heap.size≤x)∧U1 [] w w'
theorem sO (p:Nat) (v:Value) (s:WS) (w:World) (h:FD w p v s) (hb:s.b.length≤140737488355328):
 Calls prog 60 #[.pointer (some ⟨p,0,none⟩)] w (JO s w):=by
 have hc1:w.cell? ⟨p,1,none⟩=some (.int .i64 s.e):=h.1.cell 1
 have hc0:w.cell? ⟨p,0,none⟩=some v:=h.1.cell 0
 by_cases he:s.e=0
 ·have he':(s.e !=0)=false:=by simp[he]
  have HFin:=U0 (show s.bytes=s.b by simp[WS.bytes,he])
  have HE:=U0 he
  clear he
  obtain⟨A,c,g,rfl,_,_,hs,_⟩:=h.2.seen
  go_enter func60,ntmps60
  go_wp2_with fail
  refine (yG A g c s.b _ hs hb).mono ?_;rintro e w1 ⟨v1,rfl,ho1,hf1,hk1⟩
  go_wp2_with fail
  go_ret2
  exact⟨v1,by rw[HE.o];rfl,by rw[HFin.o];exact ho1,hf1,hk1⟩
 ·have he':(s.e !=0)=true:=by simp[he]
  have HFin:=U0 (show s.bytes=[] by simp[WS.bytes,he])
  clear he
  go_enter func60,ntmps60
  go_wp2
  go_region
  all_goals
   try go_wp2
   go_ret2
   exact⟨.slice none 0 0,rfl,by rw[HFin.o];exact qA.nil _ _ _,by simp[d9],(U1.refl _ _).drew⟩
def aW (p:Nat) (v:Value) (s:WS) (m k:Nat) (w:World) (i:Value) (wr:World):Prop:=
 ∃ (j:Nat) (a:Int) (v':Value),i= .int .i64 a∧a=(m:Int)-1-j∧j≤m∧FD wr p v' ⟨s.b++(l7 m k).take j,0⟩∧U1 (p::Z6 v) w wr∧∀ x∈Z6 v',x∈Z6 v∨w.heap.size≤x
theorem BS (p:Nat) (v:Value) (s:WS) (width n:Int) (w:World) (h:FD w p v s) (hb:s.b.length≤1000000000):
 Calls prog 52 #[.pointer (some ⟨p,0,none⟩),.int .i64 width,.int .i64 n] w (kI p v (s.num width n) w):=by
 have hc1:w.cell? ⟨p,1,none⟩=some (.int .i64 s.e):=h.1.cell 1
 have hf1:=h.1.free 1
 by_cases he:s.e=0
 ·have he':(s.e !=0)=false:=by simp[he]
  have HE:=U0 he
  clear he
  by_cases hw:FI width=true
  ·by_cases hfit:LB width n=true
   ·obtain⟨m,rfl⟩:∃ m:Nat,width=(m:Int):=⟨width.toNat,by rcases fC hw with h|h|h|h<;>omega⟩
    have hm:1≤m∧m≤8:=by rcases fC hw with h|h|h|h<;>omega
    obtain⟨k,rfl⟩:∃ k:Nat,n=(k:Int):=⟨n.toNat,by have:0≤n:=(by simp[LB] at hfit;exact hfit.1)
                                                 omega⟩
    have HFit:=U0 hfit
    have HW:=U0 hw
    clear hfit hw
    obtain⟨a0,ha0⟩:∃ a:Int,a=(m:Int)-1:=⟨_,rfl⟩
    have hA:IntKind.i64.wrap ((m:Int)-1)=a0:=by rw[ha0];exact Z8 _ (by omega) (by omega)
    go_enter func52,ntmps52
    go_wp2_with fail
    refine (QG _ _).mono ?_;rintro e w' ⟨rfl,rfl⟩
    rw[HW.o]
    go_wp2_with fail
    refine (VK _ _ _ HW.o).mono ?_;rintro e w' ⟨rfl,rfl⟩
    rw[HFit.o]
    go_wp2_with fail
    obtain⟨i0,hi0,hz0,hz1,hz2⟩:=info_parts JF
    go_loopw [7] (fun i wr=>aW p v s m k w i wr) (fun i _=>(intOf i+1).toNat)
    case atStart=>exact⟨0,_,v,rfl,by omega,by omega,by have:=HE.o;simp only[List.take_zero,List.append_nil,←this];exact h,U1.refl _ _,fun x hx=> .inl hx⟩
    case round=>
     obtain⟨j,b,v',rfl,hbj,hi,hwr,hkb,hhm⟩:=hrel
     have hcell0:wr.cell? ⟨p,0,none⟩=some v':=hwr.1.cell 0
     have hfree0:=hwr.1.free 0
     have hown:=hwr.2
     have hN:(s.b++(l7 m k).take j).length≤1000000008:=by
      have:=List.length_take_le j (l7 m k)
      rw[List.length_append];omega
     generalize hxs:(s.b++(l7 m k).take j).map bv=xs at hown
     generalize hnn:(s.b++(l7 m k).take j).length=N at hown hN
     have HXS:=U0 (U2 hxs hnn)
     clear hxs hnn
     by_cases hlt:j<m
     ·have HO:=U0 hown
      clear hown
      have HD:=U0 hwr
      clear hwr
      have hb0: ¬b<0:=by omega
      obtain⟨c,hc⟩:∃ c:Int,c=8*b:=⟨_,rfl⟩
      have hC:IntKind.i64.wrap (8*b)=c:=by rw[hc];exact Z8 _ (by omega) (by omega)
      have hc0:0≤c:=by omega
      have hb7:b≤7:=by omega
      have HH:=U0 (U2 hbj hc)
      clear hbj hc
      have hplt:=HD.o.1.lt
      go_wp2
      go_region_law (refine oC _ rfl (.tmp 18) (.tmp 24) 24 rfl 5 i0 (.int .u8 0) 1 1 underlying24 hi0 hz0 hz1 hz2 rfl (by decide) v' N xs (by simp[Act.eval]) (by first|exact (HO.o.alloc _)|exact HO.o.drew.alloc _|exact (HO.o.alloc _).drew) _ _ 1 1 _ (by simp[Act.eval]) (qE _ _ _) (by intro u hu;simp at hu;subst hu;rfl) (by omega) (by unfold maxLen;omega) ?_;intro A2 c2 w2 hown2 hkb2 hloc2;have hW2:=hkb2.row (by first|exact ((U1.refl [] wr).drew.alloc _).row HD.o.1 (by simp)|exact ((U1.refl [] wr).alloc _).drew.row HD.o.1 (by simp)) HD.o.apart;have hcell2:w2.cell? ⟨p,0,none⟩=some v':=hW2.cell 0;have hfree2:=hW2.free 0)
      all_goals
       obtain⟨hbj,hc3⟩:=HH.o
       have hbyte:=jK k (m-1-j) c (by omega) (by omega)
       have hx:=yJ m k j hlt
       rw[hbyte,←HXS.o.1] at hown2
       have hst:=RI HD.o (by first|exact (U1.refl [] wr).drew.alloc _|exact ((U1.refl [] wr).alloc _).drew) hkb2 (l:=[UInt8.ofNat (k/256^(m-1-j) % 256)]) (by rw[List.map_append];exact hown2) hloc2
       have hbs:s.b++(l7 m k).take j++[UInt8.ofNat (k/256^(m-1-j) % 256)]=s.b++(l7 m k).take (j+1):=by
        rw[List.take_add_one,hx,List.append_assoc];rfl
       rw[hbs] at hst
       have HST:=U0 hst
       have hbj1:b-1=(m:Int)-1-((j+1:Nat):Int):=by omega
       have HBJ:=U0 hbj1
       clear hst hown2 hbyte hx hbs hbj hbj1 hc3 hC hc0 hkb2 hloc2 hW2 hcell2 hfree2
       go_wp2
       go_roundw
       case rel=>exact⟨j+1,_,_,rfl,by rw[←HBJ.o],by omega,HST.o.1,hkb.then HST.o.2.1 (fun x hx=>by rcases List.mem_cons.1 hx with rfl|hx;exact .inl (by simp);exact (hhm x hx).imp (fun h=>by simp[h]) id),fun x hx=>by rcases HST.o.2.2 x hx with h|h;exact hhm x h;have:=hkb.size;exact .inr (by omega)⟩
       case measure=>simp[intOf];omega
     ·obtain rfl:j=m:=by omega
      have hb0:b<0:=by omega
      have hfin:s.num (j:Int) (k:Int)=⟨s.b++l7 j k,0⟩:=by
       unfold WS.num
       rw[if_pos HE.o,if_pos HW.o,if_pos HFit.o];rfl
      have hall:(l7 j k).take j=l7 j k:=List.take_of_length_le (by rw[bF];exact Nat.le_refl _)
      rw[hall] at hwr
      have HFin:=U0 hfin
      clear hfin hall
      have HD:=U0 hwr
      clear hwr hown
      go_wp2
      go_ret
      exact⟨rfl,v',by rw[HFin.o];exact HD.o,hkb,hhm⟩
   ·have HFin:=U0 (show s.num width n=⟨s.b,9⟩ by
     unfold WS.num
     rw[if_pos HE.o,if_pos hw,if_neg hfit])
    have HF:=U0 (show LB width n=false by simpa using hfit)
    have HW:=U0 hw
    clear hfit hw
    go_enter func52,ntmps52
    go_wp2_with fail
    refine (QG _ _).mono ?_;rintro e w' ⟨rfl,rfl⟩
    rw[HW.o]
    go_wp2_with fail
    refine (VK _ _ _ HW.o).mono ?_;rintro e w' ⟨rfl,rfl⟩
    rw[HF.o]
    go_wp2_with fail
    go_ret
    exact⟨rfl,v,by rw[HFin.o];exact pK h 9,(U1.refl _ _).setCell _ _ (.inl (by simp)),fun x hx=> .inl hx⟩
  ·have HFin:=U0 (show s.num width n=⟨s.b,2⟩ by
    unfold WS.num
    rw[if_pos HE.o,if_neg hw])
   have HW:=U0 (show FI width=false by simpa using hw)
   clear hw
   go_enter func52,ntmps52
   go_wp2_with fail
   refine (QG _ _).mono ?_;rintro e w' ⟨rfl,rfl⟩
   rw[HW.o]
   go_wp2_with fail
   go_ret
   exact⟨rfl,v,by rw[HFin.o];exact pK h 2,(U1.refl _ _).setCell _ _ (.inl (by simp)),fun x hx=> .inl hx⟩
 ·have he':(s.e !=0)=true:=by simp[he]
  have HFin:=U0 (show s.num width n=s by unfold WS.num;rw[if_neg he])
  clear he
  go_enter func52,ntmps52
  go_wp2
  go_ret
  exact⟨rfl,v,by rw[HFin.o];exact h,U1.refl _ _,fun x hx=> .inl hx⟩
theorem QN (w:World) (e:TypeId) (u:Value):qA (w.alloc (.cells #[u] e)) e 1 (.slice (some ⟨w.heap.size,0,none⟩) 1 1) 1 [u]:=
 ⟨by simp,.inr ⟨w.heap.size,1,#[u],rfl,l5.new _ _ _,Nat.le_refl _,by simp[maxLen],by simp,by simp⟩⟩
def dP (n:Nat) (w:World) (e:Ending) (w':World):Prop:=
 ∃ v,e= .returned v∧qA w' 5 1 v (cb n).length ((cb n).map bv)∧(∀ x∈Z6 v,w.heap.size≤x)∧U1 [] w w'
def jR (N:Nat) (w:World) (n v:Value) (wr:World):Prop:=
 ∃ (k:Nat) (l:List UInt8),n= .int .i64 k∧k≤YF∧qA wr 5 1 v l.length (l.map bv)∧(∀ x∈Z6 v,w.heap.size≤x)∧U1 [] w wr∧cb N=yF (k/128)++l
theorem eP (n:Nat) (hn:n≤YF) (w:World):Calls prog 125 #[.int .i64 (n:Int)] w (dP n w):=by
 obtain⟨i0,hi0,hz0,hz1,hz2⟩:=info_parts JF
 have hn':n≤9007199254740991:=hn
 go_enter func125,ntmps125
 go_wp2_with fail
 go_loopw [0,3] (fun a v wr=>jR n w a v wr) (fun a _ _=>(intOf a).toNat)
 case atStart=>
  refine⟨n,[UInt8.ofNat (n % 128)],rfl,hn,?_,by simp[V8],(U1.refl [] w).alloc _,by unfold cb;rfl⟩
  have hv:Value.int .u8 ((n:Int) % 128)=bv (UInt8.ofNat (n % 128)):=by
   unfold bv;rw[UInt8.toNat_ofNat'];congr 1;omega
  rw[hv]
  exact QN _ _ _
 case round=>
  obtain⟨k,l,rfl,hk,hown,hhm,hkb,hcb⟩:=hrel
  have hk':k≤9007199254740991:=hk
  by_cases h:128≤k
  ·have hl8:l.length≤8:=by
    have:=VF n hn
    rw[hcb,List.length_append] at this;omega
   have hcb2:cb n=yF (k/128/128)++(UInt8.ofNat (128+k/128 % 128)::l):=by
    rw[hcb,wG (k/128) (by omega),List.append_assoc];rfl
   have HCB:=U0 hcb2
   have hv:Value.int .u8 (128+(k:Int)/128 % 128)=bv (UInt8.ofNat (128+k/128 % 128)):=by
    unfold bv;rw[UInt8.toNat_ofNat'];congr 1;omega
   have HV:=U0 hv
   obtain⟨A,c,g,rfl,hlc,hcm,hs,_⟩:=hown.seen
   have HS:=U0 hs
   clear hcb hcb2 hv hs hown
   go_wp2_with (at_builtin;refine NA _ rfl (.tmp 16) (.tmp 17) 24 rfl 5 i0 (.int .u8 0) 1 1 underlying24 hi0 hz0 hz1 hz2 rfl (by decide) (.slice (some ⟨wr.heap.size,0,none⟩) 1 1) 1 _ (by simp[Act.eval]) (QN _ _ _) A g l.length c _ (by simp[Act.eval]) (HS.o.keep ((U1.refl [] wr).alloc _) (by simp)).reads (by intro u hu;simp at hu;obtain⟨b,_,rfl⟩:=hu;rfl) (by omega) (by unfold maxLen;omega) ?_;intro A2 c2 w2 hown2 hkb2 hloc2)
   rw[HV.o] at hown2
   have hw2:qA w2 5 1 (.slice A2 (1+l.length) c2) (UInt8.ofNat (128+k/128 % 128)::l).length ((UInt8.ofNat (128+k/128 % 128)::l).map bv):=by
    rw[List.length_cons,List.map_cons,Nat.add_comm l.length 1];exact hown2
   have hks:=hkb.size
   go_roundw
   case rel=>exact⟨k/128,_,by go_num,by unfold YF;omega,hw2,fun x hx=>by
    rcases hloc2 x hx with h1|h1
    ·simp[V8] at h1;omega
    ·simp at h1;omega,(hkb.alloc _).then hkb2 (fun x hx=>by simp[V8] at hx;exact .inr (by omega)),HCB.o⟩
   case measure=>simp[intOf];omega
  ·go_wp2_with fail
   go_ret
   have hl:cb n=l:=by rw[hcb,show k/128=0 by omega,kE];rfl
   exact⟨_,rfl,by rw[hl];exact hown,hhm,hkb⟩
theorem PG (p:Nat) (v:Value) (s:WS) (n:Int) (w:World) (h:FD w p v s) (hb:s.b.length≤1000000000):
 Calls prog 54 #[.pointer (some ⟨p,0,none⟩),.int .i64 n] w (kI p v (s.count n) w):=by
 have hc1:w.cell? ⟨p,1,none⟩=some (.int .i64 s.e):=h.1.cell 1
 have hc0:w.cell? ⟨p,0,none⟩=some v:=h.1.cell 0
 have hf1:=h.1.free 1
 by_cases he:s.e=0
 ·have he':(s.e !=0)=false:=by simp[he]
  by_cases hr:n<0∨9007199254740991<n
  ·have HFin:=U0 (show s.count n=⟨s.b,9⟩ by
    unfold WS.count
    rw[if_pos he,if_pos (hr.imp id (fun h=>by unfold YF;omega))])
   clear he
   rcases hr with hr|hr
   all_goals
    go_enter func54,ntmps54
    go_wp2_with fail
    go_ret
    exact⟨rfl,v,by rw[HFin.o];exact pK h 9,(U1.refl _ _).setCell _ _ (.inl (by simp)),fun x hx=> .inl hx⟩
  ·obtain⟨k,rfl⟩:∃ k:Nat,n=(k:Int):=⟨n.toNat,by omega⟩
   have hk:k≤YF:=by unfold YF;omega
   have hk':k≤9007199254740991:=hk
   have HFin:=U0 (show s.count (k:Int)=⟨s.b++cb k,0⟩ by
    unfold WS.count
    rw[if_pos he,if_neg (by unfold YF;omega)];rfl)
   obtain⟨sb,se⟩:=s
   simp only at he
   subst he
   have hcl:=VF k hk
   obtain⟨i0,hi0,hz0,hz1,hz2⟩:=info_parts JF
   have hd:=h.keep ((U1.refl [] w).drew) (by simp) (by simp)
   have hd0:w.drew.cell? ⟨p,0,none⟩=some v:=hd.1.cell 0
   have hb':sb.length≤1000000000:=hb
   clear hr hb
   go_enter func54,ntmps54
   go_upto_region 1 with fail
   go_region_law
    (first
      |(refine oC _ rfl (.tmp 9) (.tmp 11) 24 rfl 5 i0 (.int .u8 0) 1 1 underlying24 hi0 hz0 hz1 hz2 rfl (by decide) v sb.length _ (by simp[Act.eval]) hr1.2 A1 g1 (cb k).length c1 _ (by simp[Act.eval]) hs1.reads (by intro u hu;simp at hu;obtain⟨b,_,rfl⟩:=hu;rfl) (by omega) (by unfold maxLen;omega) ?_;intro A2 c2 w2 hown2 hkb2 hloc2;have hW2:=hkb2.row hr1.1 hr1.apart;have hcell2:w2.cell? ⟨p,0,none⟩=some v:=hW2.cell 0;have hfree2:=hW2.free 0)
      |(go_simp;go_at_call 125;refine (eP k hk _).mono ?_;rintro e w1 ⟨v1,rfl,ho1,hf1',hk1⟩;have hr1:=hd.keep hk1 (by simp) (by simp);have hr10:w1.cell? ⟨p,0,none⟩=some v:=hr1.1.cell 0;obtain⟨A1,c1,g1,rfl,_,_,hs1,hin1⟩:=ho1.seen))
   all_goals
    have hk0:U1 [] w w1:=((U1.refl [] w).drew).then hk1 (by simp)
    have hst:=RI hr1 (U1.refl [] w1) hkb2 (l:=cb k) (by rw[List.map_append];exact hown2) hloc2
    have hsz:=hk0.size
    clear hown2 hkb2 hloc2 hW2 hcell2 hfree2 hd hd0 hr10 hs1 hin1 ho1
    go_wp2
    go_ret
    exact⟨rfl,_,by rw[HFin.o];exact hst.1,(hk0.more (T:=p::Z6 v) (by simp)).then hst.2.1 (fun x hx=> .inl hx),fun x hx=>(hst.2.2 x hx).imp id (fun h=>by omega)⟩
 ·have he':(s.e !=0)=true:=by simp[he]
  have HFin:=U0 (show s.count n=s by unfold WS.count;rw[if_neg he])
  clear he
  go_enter func54,ntmps54
  go_wp2
  go_ret
  exact⟨rfl,v,by rw[HFin.o];exact h,U1.refl _ _,fun x hx=> .inl hx⟩
theorem zH (p:Nat) (v:Value) (s:WS) (A:Option Addr) (g c:Nat) (l:List UInt8) (w:World) (h:FD w p v s) (hs:QA w A g l) (hg:l≠[]→g≠p∧g∉Z6 v) (hb:s.b.length≤1000000000) (hb2:l.length≤1000000000):
 Calls prog 58 #[.pointer (some ⟨p,0,none⟩),.slice A l.length c] w (kI p v (s.text l) w):=by
 have hcb:=EJ s (l.length:Int)
 go_enter func58,ntmps58
 go_wp2_with (first|(go_at_call 54;refine (PG p v s _ _ h hb).mono ?_;rintro e w1 ⟨rfl,v1,hw1,hk1,hl1⟩)|(go_at_call 81;refine (FL p _ _ A g c l _ (by assumption) (hs.keep (by assumption) (fun hl hm=>by rcases List.mem_cons.1 hm with h1|h1;exact (hg hl).1 h1;exact (hg hl).2 h1)) (by omega)).mono ?_;rintro e w2 ⟨rfl,v2,hw2,hk2,hl2⟩))
 go_ret
 exact⟨rfl,v2,hw2,hk1.then hk2 (fun x hx=>by rcases List.mem_cons.1 hx with rfl|hx;exact .inl (by simp);exact (hl1 x hx).imp (fun h=>by simp[h]) id),fun x hx=>by rcases hl2 x hx with h|h;exact hl1 x h;have:=hk1.size;exact .inr (by omega)⟩
def NB (w0 w:World) (p:Nat) (l:List UInt8):Prop:=
 ∃ v,FD w p v ⟨l,0⟩∧w0.heap.size≤p∧(∀ x∈Z6 v,w0.heap.size≤x)∧U1 [] w0 w
theorem NB.kept {w0 w:World} {p:Nat} {l:List UInt8} (h:NB w0 w p l):U1 [] w0 w:=by obtain⟨v,_,_,_,h⟩:=h;exact h
theorem NB.lt {w0 w:World} {p:Nat} {l:List UInt8} (h:NB w0 w p l):p<w.heap.size:=by obtain⟨v,h,_⟩:=h;exact h.1.lt
theorem NB.over {w0 w w':World} {p:Nat} {l:List UInt8} (h:NB w0 w p l) (hk:U1 [] w w'):NB w0 w' p l:=by
 obtain⟨v,h1,h2,h3,h4⟩:=h
 exact⟨v,h1.keep hk (by simp) (by simp),h2,h3,h4.then hk (by simp)⟩
theorem NB.step {w0 w w':World} {p:Nat} {l m:List UInt8} {v:Value} {e:Ending} (h:FD w p v ⟨l,0⟩) (h1:w0.heap.size≤p) (h2:∀ x∈Z6 v,w0.heap.size≤x) (h3:U1 [] w0 w) (hp:kI p v ⟨m,0⟩ w e w'):
 e= .returned (.pointer (some ⟨p,0,none⟩))∧NB w0 w' p m:=by
 obtain⟨he,v',hw,hk,hh⟩:=hp
 refine⟨he,v',hw,h1,fun x hx=> ?_,h3.then hk (fun x hx=> .inr ?_)⟩
 ·rcases hh x hx with q|q
  ·exact h2 x q
  ·have:=h3.size;omega
 ·rcases List.mem_cons.1 hx with rfl|hx
  ·exact h1
  ·exact h2 x hx
def YG (w0:World) (p:Nat) (l:List UInt8) (e:Ending) (w':World):Prop:=e= .returned (.pointer (some ⟨p,0,none⟩))∧NB w0 w' p l
theorem NB.start {w0:World}:Calls prog 51 #[] w0 fun e w'=>∃ p,e= .returned (.pointer (some ⟨p,0,none⟩))∧NB w0 w' p []:=
 (QP w0).mono fun e w' ⟨p,he,h1,h2,h3⟩=>⟨p,he,_,h1,h2,by simp[d9],h3⟩
theorem NB.num {w0 w:World} {p:Nat} {l:List UInt8} (h:NB w0 w p l) (n:Int) (h0:0≤n) (h1:n<256) (hb:l.length≤1000000000):
 Calls prog 52 #[.pointer (some ⟨p,0,none⟩),.int .i64 1,.int .i64 n] w (YG w0 p (l++l7 1 n.toNat)):=by
 obtain⟨v,a,b,c,d⟩:=h
 refine (BS p v _ 1 n w a hb).mono fun e w' hp=> ?_
 rw[wQ l h0 h1] at hp
 exact NB.step a b c d hp
theorem NB.count {w0 w:World} {p:Nat} {l:List UInt8} (h:NB w0 w p l) (n:Int) (h0:0≤n) (h1:n≤9007199254740991) (hb:l.length≤1000000000):
 Calls prog 54 #[.pointer (some ⟨p,0,none⟩),.int .i64 n] w (YG w0 p (l++cb n.toNat)):=by
 obtain⟨v,a,b,c,d⟩:=h
 refine (PG p v _ n w a hb).mono fun e w' hp=> ?_
 rw[SG l h0 h1] at hp
 exact NB.step a b c d hp
theorem NB.raw {w0 w:World} {p:Nat} {l:List UInt8} (h:NB w0 w p l) (A:Option Addr) (g n c:Nat) (t:List UInt8) (hn:t.length=n) (hs:QA w A g t) (hb:l.length≤1000000000) (hb2:t.length≤1000000000):
 Calls prog 81 #[.pointer (some ⟨p,0,none⟩),.slice A n c] w (YG w0 p (l++t)):=by
 subst hn
 obtain⟨v,a,b,d,k⟩:=h
 refine (FL p v _ A g c t w a hs (show l.length+t.length≤_ by omega)).mono fun e w' hp=> ?_
 rw[RP] at hp
 exact NB.step a b d k hp
theorem NB.text {w0 w:World} {p:Nat} {l:List UInt8} (h:NB w0 w p l) (A:Option Addr) (g n c:Nat) (t:List UInt8) (hn:t.length=n) (hs:QA w0 A g t) (hb:l.length≤1000000000) (hb2:t.length≤1000000000):
 Calls prog 58 #[.pointer (some ⟨p,0,none⟩),.slice A n c] w (YG w0 p ((l++cb t.length)++t)):=by
 subst hn
 obtain⟨v,a,b,d,k⟩:=h
 have hg:t≠[]→g<w0.heap.size:=fun hne=>by obtain⟨o,_,h2,_⟩:=hs hne;exact h2
 refine (zH p v _ A g c t w a (hs.keep k (by simp)) (fun hne=>⟨fun e=>by have:=hg hne;omega,fun hm=>by have:=hg hne;have:=d g hm;omega⟩) hb hb2).mono fun e w' hp=> ?_
 rw[mI l t hb2] at hp
 exact NB.step a b d k hp
theorem NB.textNew {w0 wb w:World} {p:Nat} {l:List UInt8} (h:NB w0 wb p l) (hk:U1 [] wb w) (A:Option Addr) (g n c:Nat) (t:List UInt8) (hn:t.length=n) (hs:QA w A g t) (hg:t≠[]→wb.heap.size≤g) (hb:l.length≤1000000000) (hb2:t.length≤1000000000):
 Calls prog 58 #[.pointer (some ⟨p,0,none⟩),.slice A n c] w (YG w0 p ((l++cb t.length)++t)):=by
 subst hn
 obtain⟨v,a,b,d,k⟩:=h
 have hp1:=a.1.lt
 have hp2:=a.2.lt
 refine (zH p v _ A g c t w (a.keep hk (by simp) (by simp)) hs (fun hne=>⟨fun e=>by have:=hg hne;omega,fun hm=>by have:=hg hne;have:=hp2 g hm;omega⟩) hb hb2).mono fun e w' hp=> ?_
 rw[mI l t hb2] at hp
 exact NB.step (a.keep hk (by simp) (by simp)) b d (k.then hk (by simp)) hp
theorem NB.bytes {w0 w:World} {p:Nat} {l:List UInt8} (h:NB w0 w p l) (hb:l.length≤1000000000):
 Calls prog 60 #[.pointer (some ⟨p,0,none⟩)] w (QD w0 l):=by
 obtain⟨v,a,b,d,k⟩:=h
 refine (sO p v _ w a (show l.length≤_ by omega)).mono fun e w' hp=> ?_
 obtain⟨v',he,h1,h2,h3⟩:=hp
 have hl:(WS.mk l 0).bytes=l:=by simp[WS.bytes]
 rw[hl] at h1
 obtain⟨A3,c3,e3,h31,h32,h33,h34⟩:=h1.form
 subst e3
 obtain⟨g3,hg3⟩:=EA (.slice A3 l.length c3)
 have hks:=k.size
 refine⟨_,Z6 (.slice A3 l.length c3),he,⟨A3,c3,g3,rfl,h31,h32,MB.seenB (h34 g3 hg3),fun hne=> ?_⟩,fun y hy=>⟨by have:=h2 y hy;omega,h33 y hy⟩,k.then h3 (by simp)⟩
 obtain⟨o,hA,_⟩:=(h34 g3 hg3).2 (List.length_pos_iff.2 hne)
 rw[hA];simp[V8]
theorem SL (F:List Nat) (r:RQ) (ev:Value) (w:World) (h:dH w F r ev) (hok:r.ok=false):
 Calls prog 15 #[.agg (U8 r ev).toArray] w fun e w'=>e= .returned (.tuple #[.slice none 0 0,.int .i64 2])∧U1 [] w w':=by
 have hsz:(U8 r ev).length=37:=O8 h.1
 have k1:=(U1.refl [] w).alloc (.cells (U8 r ev).toArray 26)
 have r1:=l5.new w 26 (U8 r ev).toArray
 obtain⟨w1,hw1⟩:∃ w1,w.alloc (.cells (U8 r ev).toArray 26)=w1:=⟨_,rfl⟩
 rw[hw1] at k1 r1
 have h1:dH w1 F r ev:=⟨h.1,h.2.keep k1 (by simp)⟩
 have hI:(prog.info? 26).map (·.size)=some (U8 r ev).length:=by rw[hsz];exact D9
 have HS:=U0 (U2 r1.rangeAll (U2 hI (U2 k1 h1)))
 have HW:=U0 hw1
 clear hsz k1 r1 hw1 h1 hI h
 go_enter func15,ntmps15
 go_upto_region 1 with (with_reducible refine Z5 _ rfl 26 (.tmp 0) rfl _ rfl ?_)
 rw[HW.o]
 go_upto_region 2 with (first
  |(refine wpList_load_mid rfl 26 (.tmp 1) rfl w.heap.size 0 rfl (U8 r ev) _ HS.o.1 underlying26 rfl HS.o.2.1 ?_)
  |(go_at_call 80;refine (XG F r ev _ HS.o.2.2.2).mono ?_;rintro e w2 ⟨rfl,kk⟩;rw[hok];have K2:=U0 (HS.o.2.2.1.then kk (by simp));clear kk))
 go_wp2_with fail
 go_ret2
 exact⟨rfl,K2.o⟩
theorem kH (F:List Nat) (r:RQ) (ev:Value) (w:World) (h:dH w F r ev) (hok:r.ok=true):
 Calls prog 15 #[.agg (U8 r ev).toArray] w (QD w (dE r)):=by
 have hsz:(U8 r ev).length=37:=O8 h.1
 have hf:=r.ok_facts hok
 have hnl:=h.1
 have k1:=(U1.refl [] w).alloc (.cells (U8 r ev).toArray 26)
 have r1:=l5.new w 26 (U8 r ev).toArray
 obtain⟨w1,hw1⟩:∃ w1,w.alloc (.cells (U8 r ev).toArray 26)=w1:=⟨_,rfl⟩
 rw[hw1] at k1 r1
 have h1:dH w1 F r ev:=⟨h.1,h.2.keep k1 (by simp)⟩
 have hI:(prog.info? 26).map (·.size)=some (U8 r ev).length:=by rw[hsz];exact D9
 have HS:=U0 (U2 r1.rangeAll (U2 hI (U2 k1 h1)))
 have HW:=U0 hw1
 have HR1:=U0 r1
 clear hsz k1 r1 hw1 h1 hI
 obtain⟨_,A,c,g,rfl,_,_,hsn,_⟩:=h
 have HF:=U0 hf
 have HN:=U0 hnl
 have HSN:=U0 hsn
 clear hf hnl hsn
 go_enter func15,ntmps15
 go_upto_region 1 with (with_reducible refine Z5 _ rfl 26 (.tmp 0) rfl _ rfl ?_)
 rw[HW.o]
 go_upto_region 2 with (first
  |(refine wpList_load_mid rfl 26 (.tmp 1) rfl w.heap.size 0 rfl (U8 r _) _ HS.o.1 underlying26 rfl HS.o.2.1 ?_)
  |(go_at_call 80;refine (XG F r _ _ HS.o.2.2.2).mono ?_;rintro e w2 ⟨rfl,kk⟩;rw[hok];have r2:=kk.row HR1.o (by simp);have K2:=U0 (HS.o.2.2.1.then kk (by simp));clear kk))
 obtain⟨tb,htb⟩:∃ tb,w.heap.size=tb:=⟨_,rfl⟩
 have hsn2:QA w2 A g r.env:=HSN.o.keep K2.o (by simp)
 have hsnn:QA w2.drew (some ⟨tb,4,none⟩) tb r.name:=fun hne=>⟨4,rfl,by rw[←htb];exact r2.lt,fun j b hb=>by
  refine (r2.cell' htb (4+j)).trans ?_
  exact IE r _ j (bv b) (by unfold U7;rw[List.getElem?_map,hb];rfl)⟩
 rw[htb] at r2 ⊢
 have z0:w2.drew.cell? ⟨tb,0,none⟩=some (.int .i64 r.client):=r2.cell 0
 have z1:w2.drew.cell? ⟨tb,1,none⟩=some (.int .i64 r.num):=r2.cell 1
 have z2:w2.drew.cell? ⟨tb,2,none⟩=some (.int .i64 r.kind):=r2.cell 2
 have z3:w2.drew.cell? ⟨tb,3,none⟩=some (.int .i64 r.version):=r2.cell 3
 have ze:w2.drew.cell? ⟨tb,36,none⟩=some (.slice A r.env.length c):=(r2.cell 36).trans (WC HN.o)
 have Z:V5 (∀ w',U1 [] w2.drew w'→(w'.cell? ⟨tb,0,none⟩=some (.int .i64 r.client)∧w'.cell? ⟨tb,1,none⟩=some (.int .i64 r.num)∧w'.cell? ⟨tb,2,none⟩=some (.int .i64 r.kind)∧w'.cell? ⟨tb,3,none⟩=some (.int .i64 r.version)∧w'.cell? ⟨tb,36,none⟩=some (.slice A r.env.length c))):=U0 (fun w' k=>⟨(k.cell (p:=⟨tb,0,none⟩) r2.lt (by simp)).trans z0,(k.cell (p:=⟨tb,1,none⟩) r2.lt (by simp)).trans z1,(k.cell (p:=⟨tb,2,none⟩) r2.lt (by simp)).trans z2,(k.cell (p:=⟨tb,3,none⟩) r2.lt (by simp)).trans z3,(k.cell (p:=⟨tb,36,none⟩) r2.lt (by simp)).trans ze⟩)
 have Z0:=Z.o _ (U1.refl [] w2.drew)
 have HSE:=U0 (U2 (show QA w2.drew A g r.env from hsn2) hsnn)
 have KD:=U0 (K2.o.then ((U1.refl [] w2).drew) (by simp))
 clear hsn2 hsnn r2 z0 z1 z2 z3 ze
 have HC:=U0 (U2 (GH (n:=r.num) (by have:=HF.o;omega)) (U2 (GH (n:=r.version) (by have:=HF.o;omega)) (GH (n:=(r.env.length:Int)) (by have:=HF.o;omega))))
 have HL1:V5 (([]:List UInt8).length≤1000000000):=U0 (by have h1:=HC.o;have h2:=HF.o;have h3:=HN.o;simp only[List.length_append,UE,List.length_nil,Int.toNat_natCast] at h1 ⊢;omega)
 have HL2:V5 ((([]:List UInt8)++l7 1 r.client.toNat).length≤1000000000):=U0 (by have h1:=HC.o;have h2:=HF.o;have h3:=HN.o;simp only[List.length_append,UE,List.length_nil,Int.toNat_natCast] at h1 ⊢;omega)
 have HL3:V5 (((([]:List UInt8)++l7 1 r.client.toNat)++cb r.num.toNat).length≤1000000000):=U0 (by have h1:=HC.o;have h2:=HF.o;have h3:=HN.o;simp only[List.length_append,UE,List.length_nil,Int.toNat_natCast] at h1 ⊢;omega)
 have HL4:V5 ((((([]:List UInt8)++l7 1 r.client.toNat)++cb r.num.toNat)++l7 1 r.kind.toNat).length≤1000000000):=U0 (by have h1:=HC.o;have h2:=HF.o;have h3:=HN.o;simp only[List.length_append,UE,List.length_nil,Int.toNat_natCast] at h1 ⊢;omega)
 have HL5:V5 (((((([]:List UInt8)++l7 1 r.client.toNat)++cb r.num.toNat)++l7 1 r.kind.toNat)++cb r.version.toNat).length≤1000000000):=U0 (by have h1:=HC.o;have h2:=HF.o;have h3:=HN.o;simp only[List.length_append,UE,List.length_nil,Int.toNat_natCast] at h1 ⊢;omega)
 have HL6:V5 ((((((([]:List UInt8)++l7 1 r.client.toNat)++cb r.num.toNat)++l7 1 r.kind.toNat)++cb r.version.toNat)++r.name).length≤1000000000):=U0 (by have h1:=HC.o;have h2:=HF.o;have h3:=HN.o;simp only[List.length_append,UE,List.length_nil,Int.toNat_natCast] at h1 ⊢;omega)
 have HL7:V5 ((((((((([]:List UInt8)++l7 1 r.client.toNat)++cb r.num.toNat)++l7 1 r.kind.toNat)++cb r.version.toNat)++r.name)++cb r.env.length)++r.env).length≤1000000000):=U0 (by have h1:=HC.o;have h2:=HF.o;have h3:=HN.o;simp only[List.length_append,UE,List.length_nil,Int.toNat_natCast] at h1 ⊢;omega)
 go_upto_region 4 with fail
 go_region_held3 (fun w'=>w'.cell? ⟨tb,0,none⟩=some (.int .i64 r.client)∧w'.cell? ⟨tb,1,none⟩=some (.int .i64 r.num)∧w'.cell? ⟨tb,2,none⟩=some (.int .i64 r.kind)∧w'.cell? ⟨tb,3,none⟩=some (.int .i64 r.version)∧w'.cell? ⟨tb,36,none⟩=some (.slice A r.env.length c)) (first|exact Z0|exact Y0|exact Y1|exact Y2|exact Y3|exact Y4|exact Y5|exact Y6|exact YZ)
  (first
    |(go_at_call 51;refine NB.start.mono ?_;rintro e v0 ⟨p,rfl,o0⟩;have O0:=U0 o0;have Y0:=Z.o _ o0.kept;clear o0)
    |(go_at_call 52;(with_reducible refine (O0.o.num r.client (by have:=HF.o;omega) (by have:=HF.o;omega) HL1.o).mono ?_);rintro e v1 ⟨rfl,o1⟩;have O1:=U0 o1;have Y1:=Z.o _ o1.kept;clear o1)
    |(go_at_call 54;(with_reducible refine (O1.o.count r.num (by have:=HF.o;omega) (by have:=HF.o;omega) HL2.o).mono ?_);rintro e v2 ⟨rfl,o2⟩;have O2:=U0 o2;have Y2:=Z.o _ o2.kept;clear o2)
    |(go_at_call 52;(with_reducible refine (O2.o.num r.kind (by have:=HF.o;omega) (by have:=HF.o;omega) HL3.o).mono ?_);rintro e v3 ⟨rfl,o3⟩;have O3:=U0 o3;have Y3:=Z.o _ o3.kept;clear o3)
    |(go_at_call 54;(with_reducible refine (O3.o.count r.version (by have:=HF.o;omega) (by have:=HF.o;omega) HL4.o).mono ?_);rintro e v4 ⟨rfl,o4⟩;have O4:=U0 o4;have Y4:=Z.o _ o4.kept;clear o4)
    |(go_at_call 81;(with_reducible refine (O4.o.raw _ tb 32 32 r.name HN.o (HSE.o.2.keep O4.o.kept (by simp)) HL5.o (by rw[HN.o];omega)).mono ?_);rintro e v5 ⟨rfl,o5⟩;have O5:=U0 o5;have Y5:=Z.o _ o5.kept;clear o5)
    |(go_at_call 58;(with_reducible refine (O5.o.text A g r.env.length c r.env rfl HSE.o.1 HL6.o (by have:=HF.o;omega)).mono ?_);rintro e v6 ⟨rfl,o6⟩;have O6:=U0 o6;have Y6:=Z.o _ o6.kept;clear o6)
    |(go_at_call 60;(with_reducible refine (O6.o.bytes HL7.o).mono ?_);rintro e vz ⟨u,G,rfl,ub,un,uk⟩;have OZ:=U0 (U2 ub (U2 un uk));have YZ:=Z.o _ uk;clear ub un uk))
 go_wp2_with fail
 go_ret2
 exact⟨_,G,rfl,OZ.o.1,fun y hy=>⟨by have h1:=(OZ.o.2.1 y hy).1;have h2:=KD.o.size;omega,(OZ.o.2.1 y hy).2⟩,KD.o.then OZ.o.2.2 (by simp)⟩
theorem ML (F:List Nat) (r:AN) (ev:Value) (w:World) (h:BH w F r ev) (hok:r.ok=false):
 Calls prog 17 #[.agg (x9 r ev).toArray] w fun e w'=>e= .returned (.tuple #[.slice none 0 0,.int .i64 2])∧U1 [] w w':=by
 have hsz:(x9 r ev).length=38:=y9 h.1
 have k1:=(U1.refl [] w).alloc (.cells (x9 r ev).toArray 28)
 have r1:=l5.new w 28 (x9 r ev).toArray
 obtain⟨w1,hw1⟩:∃ w1,w.alloc (.cells (x9 r ev).toArray 28)=w1:=⟨_,rfl⟩
 rw[hw1] at k1 r1
 have h1:BH w1 F r ev:=⟨h.1,h.2.keep k1 (by simp)⟩
 have hI:(prog.info? 28).map (·.size)=some (x9 r ev).length:=by rw[hsz];exact Q9
 have HS:=U0 (U2 r1.rangeAll (U2 hI (U2 k1 h1)))
 have HW:=U0 hw1
 clear hsz k1 r1 hw1 h1 hI h
 go_enter func17,ntmps17
 go_upto_region 1 with (with_reducible refine Z5 _ rfl 28 (.tmp 0) rfl _ rfl ?_)
 rw[HW.o]
 go_upto_region 2 with (first
  |(refine wpList_load_mid rfl 28 (.tmp 1) rfl w.heap.size 0 rfl (x9 r ev) _ HS.o.1 underlying28 rfl HS.o.2.1 ?_)
  |(go_at_call 82;refine (WG F r ev _ HS.o.2.2.2).mono ?_;rintro e w2 ⟨rfl,kk⟩;rw[hok];have K2:=U0 (HS.o.2.2.1.then kk (by simp));clear kk))
 go_wp2_with fail
 go_ret2
 exact⟨rfl,K2.o⟩
theorem jH (F:List Nat) (r:AN) (ev:Value) (w:World) (h:BH w F r ev) (hok:r.ok=true):
 Calls prog 17 #[.agg (x9 r ev).toArray] w (QD w (UD r)):=by
 have hsz:(x9 r ev).length=38:=y9 h.1
 have hf:=r.ok_facts hok
 have hnl:=h.1
 have k1:=(U1.refl [] w).alloc (.cells (x9 r ev).toArray 28)
 have r1:=l5.new w 28 (x9 r ev).toArray
 obtain⟨w1,hw1⟩:∃ w1,w.alloc (.cells (x9 r ev).toArray 28)=w1:=⟨_,rfl⟩
 rw[hw1] at k1 r1
 have h1:BH w1 F r ev:=⟨h.1,h.2.keep k1 (by simp)⟩
 have hI:(prog.info? 28).map (·.size)=some (x9 r ev).length:=by rw[hsz];exact Q9
 have HS:=U0 (U2 r1.rangeAll (U2 hI (U2 k1 h1)))
 have HW:=U0 hw1
 have HR1:=U0 r1
 clear hsz k1 r1 hw1 h1 hI
 obtain⟨_,A,c,g,rfl,_,_,hsn,_⟩:=h
 have HF:=U0 hf
 have HN:=U0 hnl
 have HSN:=U0 hsn
 clear hf hnl hsn
 go_enter func17,ntmps17
 go_upto_region 1 with (with_reducible refine Z5 _ rfl 28 (.tmp 0) rfl _ rfl ?_)
 rw[HW.o]
 go_upto_region 2 with (first
  |(refine wpList_load_mid rfl 28 (.tmp 1) rfl w.heap.size 0 rfl (x9 r _) _ HS.o.1 underlying28 rfl HS.o.2.1 ?_)
  |(go_at_call 82;refine (WG F r _ _ HS.o.2.2.2).mono ?_;rintro e w2 ⟨rfl,kk⟩;rw[hok];have r2:=kk.row HR1.o (by simp);have K2:=U0 (HS.o.2.2.1.then kk (by simp));clear kk))
 obtain⟨tb,htb⟩:∃ tb,w.heap.size=tb:=⟨_,rfl⟩
 have hsn2:QA w2 A g r.env:=HSN.o.keep K2.o (by simp)
 have hsnn:QA w2.drew (some ⟨tb,5,none⟩) tb r.name:=fun hne=>⟨5,rfl,by rw[←htb];exact r2.lt,fun j b hb=>by
  refine (r2.cell' htb (5+j)).trans ?_
  exact UF r _ j (bv b) (by unfold U7;rw[List.getElem?_map,hb];rfl)⟩
 rw[htb] at r2 ⊢
 have z0:w2.drew.cell? ⟨tb,0,none⟩=some (.int .i64 r.client):=r2.cell 0
 have z1:w2.drew.cell? ⟨tb,1,none⟩=some (.int .i64 r.num):=r2.cell 1
 have z2:w2.drew.cell? ⟨tb,2,none⟩=some (.int .i64 r.code):=r2.cell 2
 have z3:w2.drew.cell? ⟨tb,3,none⟩=some (.int .i64 r.version):=r2.cell 3
 have z4:w2.drew.cell? ⟨tb,4,none⟩=some (.int .i64 r.epoch):=r2.cell 4
 have ze:w2.drew.cell? ⟨tb,37,none⟩=some (.slice A r.env.length c):=(r2.cell 37).trans (VC HN.o)
 have Z:V5 (∀ w',U1 [] w2.drew w'→(w'.cell? ⟨tb,0,none⟩=some (.int .i64 r.client)∧w'.cell? ⟨tb,1,none⟩=some (.int .i64 r.num)∧w'.cell? ⟨tb,2,none⟩=some (.int .i64 r.code)∧w'.cell? ⟨tb,3,none⟩=some (.int .i64 r.version)∧w'.cell? ⟨tb,4,none⟩=some (.int .i64 r.epoch)∧w'.cell? ⟨tb,37,none⟩=some (.slice A r.env.length c))):=U0 (fun w' k=>⟨(k.cell (p:=⟨tb,0,none⟩) r2.lt (by simp)).trans z0,(k.cell (p:=⟨tb,1,none⟩) r2.lt (by simp)).trans z1,(k.cell (p:=⟨tb,2,none⟩) r2.lt (by simp)).trans z2,(k.cell (p:=⟨tb,3,none⟩) r2.lt (by simp)).trans z3,(k.cell (p:=⟨tb,4,none⟩) r2.lt (by simp)).trans z4,(k.cell (p:=⟨tb,37,none⟩) r2.lt (by simp)).trans ze⟩)
 have Z0:=Z.o _ (U1.refl [] w2.drew)
 have HSE:=U0 (U2 (show QA w2.drew A g r.env from hsn2) hsnn)
 have KD:=U0 (K2.o.then ((U1.refl [] w2).drew) (by simp))
 clear hsn2 hsnn r2 z0 z1 z2 z3 z4 ze
 have HC:=U0 (U2 (GH (n:=r.num) (by have:=HF.o;omega)) (U2 (GH (n:=r.version) (by have:=HF.o;omega)) (GH (n:=(r.env.length:Int)) (by have:=HF.o;omega))))
 have HL1:V5 (([]:List UInt8).length≤1000000000):=U0 (by have h1:=HC.o;have h2:=HF.o;have h3:=HN.o;simp only[List.length_append,UE,List.length_nil,Int.toNat_natCast] at h1 ⊢;omega)
 have HL2:V5 ((([]:List UInt8)++l7 1 r.client.toNat).length≤1000000000):=U0 (by have h1:=HC.o;have h2:=HF.o;have h3:=HN.o;simp only[List.length_append,UE,List.length_nil,Int.toNat_natCast] at h1 ⊢;omega)
 have HL3:V5 (((([]:List UInt8)++l7 1 r.client.toNat)++cb r.num.toNat).length≤1000000000):=U0 (by have h1:=HC.o;have h2:=HF.o;have h3:=HN.o;simp only[List.length_append,UE,List.length_nil,Int.toNat_natCast] at h1 ⊢;omega)
 have HL4:V5 ((((([]:List UInt8)++l7 1 r.client.toNat)++cb r.num.toNat)++l7 1 r.code.toNat).length≤1000000000):=U0 (by have h1:=HC.o;have h2:=HF.o;have h3:=HN.o;simp only[List.length_append,UE,List.length_nil,Int.toNat_natCast] at h1 ⊢;omega)
 have HL5:V5 (((((([]:List UInt8)++l7 1 r.client.toNat)++cb r.num.toNat)++l7 1 r.code.toNat)++cb r.version.toNat).length≤1000000000):=U0 (by have h1:=HC.o;have h2:=HF.o;have h3:=HN.o;simp only[List.length_append,UE,List.length_nil,Int.toNat_natCast] at h1 ⊢;omega)
 have HL6:V5 ((((((([]:List UInt8)++l7 1 r.client.toNat)++cb r.num.toNat)++l7 1 r.code.toNat)++cb r.version.toNat)++l7 1 r.epoch.toNat).length≤1000000000):=U0 (by have h1:=HC.o;have h2:=HF.o;have h3:=HN.o;simp only[List.length_append,UE,List.length_nil,Int.toNat_natCast] at h1 ⊢;omega)
 have HL7:V5 (((((((([]:List UInt8)++l7 1 r.client.toNat)++cb r.num.toNat)++l7 1 r.code.toNat)++cb r.version.toNat)++l7 1 r.epoch.toNat)++r.name).length≤1000000000):=U0 (by have h1:=HC.o;have h2:=HF.o;have h3:=HN.o;simp only[List.length_append,UE,List.length_nil,Int.toNat_natCast] at h1 ⊢;omega)
 have HL8:V5 (((((((((([]:List UInt8)++l7 1 r.client.toNat)++cb r.num.toNat)++l7 1 r.code.toNat)++cb r.version.toNat)++l7 1 r.epoch.toNat)++r.name)++cb r.env.length)++r.env).length≤1000000000):=U0 (by have h1:=HC.o;have h2:=HF.o;have h3:=HN.o;simp only[List.length_append,UE,List.length_nil,Int.toNat_natCast] at h1 ⊢;omega)
 go_upto_region 4 with fail
 go_region_held3 (fun w'=>w'.cell? ⟨tb,0,none⟩=some (.int .i64 r.client)∧w'.cell? ⟨tb,1,none⟩=some (.int .i64 r.num)∧w'.cell? ⟨tb,2,none⟩=some (.int .i64 r.code)∧w'.cell? ⟨tb,3,none⟩=some (.int .i64 r.version)∧w'.cell? ⟨tb,4,none⟩=some (.int .i64 r.epoch)∧w'.cell? ⟨tb,37,none⟩=some (.slice A r.env.length c)) (first|exact Z0|exact Y0|exact Y1|exact Y2|exact Y3|exact Y4|exact Y5|exact Y6|exact Y7|exact YZ)
  (first
    |(go_at_call 51;refine NB.start.mono ?_;rintro e v0 ⟨p,rfl,o0⟩;have O0:=U0 o0;have Y0:=Z.o _ o0.kept;clear o0)
    |(go_at_call 52;(with_reducible refine (O0.o.num r.client (by have:=HF.o;omega) (by have:=HF.o;omega) HL1.o).mono ?_);rintro e v1 ⟨rfl,o1⟩;have O1:=U0 o1;have Y1:=Z.o _ o1.kept;clear o1)
    |(go_at_call 54;(with_reducible refine (O1.o.count r.num (by have:=HF.o;omega) (by have:=HF.o;omega) HL2.o).mono ?_);rintro e v2 ⟨rfl,o2⟩;have O2:=U0 o2;have Y2:=Z.o _ o2.kept;clear o2)
    |(go_at_call 52;(with_reducible refine (O2.o.num r.code (by have:=HF.o;omega) (by have:=HF.o;omega) HL3.o).mono ?_);rintro e v3 ⟨rfl,o3⟩;have O3:=U0 o3;have Y3:=Z.o _ o3.kept;clear o3)
    |(go_at_call 54;(with_reducible refine (O3.o.count r.version (by have:=HF.o;omega) (by have:=HF.o;omega) HL4.o).mono ?_);rintro e v4 ⟨rfl,o4⟩;have O4:=U0 o4;have Y4:=Z.o _ o4.kept;clear o4)
    |(go_at_call 52;(with_reducible refine (O4.o.num r.epoch (by have:=HF.o;omega) (by have:=HF.o;omega) HL5.o).mono ?_);rintro e v5 ⟨rfl,o5⟩;have O5:=U0 o5;have Y5:=Z.o _ o5.kept;clear o5)
    |(go_at_call 81;(with_reducible refine (O5.o.raw _ tb 32 32 r.name HN.o (HSE.o.2.keep O5.o.kept (by simp)) HL6.o (by rw[HN.o];omega)).mono ?_);rintro e v6 ⟨rfl,o6⟩;have O6:=U0 o6;have Y6:=Z.o _ o6.kept;clear o6)
    |(go_at_call 58;(with_reducible refine (O6.o.text A g r.env.length c r.env rfl HSE.o.1 HL7.o (by have:=HF.o;omega)).mono ?_);rintro e v7 ⟨rfl,o7⟩;have O7:=U0 o7;have Y7:=Z.o _ o7.kept;clear o7)
    |(go_at_call 60;(with_reducible refine (O7.o.bytes HL8.o).mono ?_);rintro e vz ⟨u,G,rfl,ub,un,uk⟩;have OZ:=U0 (U2 ub (U2 un uk));have YZ:=Z.o _ uk;clear ub un uk))
 go_wp2_with fail
 go_ret2
 exact⟨_,G,rfl,OZ.o.1,fun y hy=>⟨by have h1:=(OZ.o.2.1 y hy).1;have h2:=KD.o.size;omega,(OZ.o.2.1 y hy).2⟩,KD.o.then OZ.o.2.2 (by simp)⟩
theorem xK (F:List Nat) (r:CF) (cv:Value) (w:World) (h:F8 w F cv r.chain) (hok:r.ok=false):
 Calls prog 19 #[.agg (bA r cv).toArray] w fun e w'=>e= .returned (.tuple #[.slice none 0 0,.int .i64 2])∧U1 [] w w':=by
 have k1:=(U1.refl [] w).alloc (.cells (bA r cv).toArray 31)
 have r1:=l5.new w 31 (bA r cv).toArray
 obtain⟨w1,hw1⟩:∃ w1,w.alloc (.cells (bA r cv).toArray 31)=w1:=⟨_,rfl⟩
 rw[hw1] at k1 r1
 have HS:=U0 (U2 r1.rangeAll (U2 k1 (h.keep k1 (by simp))))
 have HW:=U0 hw1
 clear k1 r1 hw1 h
 go_enter func19,ntmps19
 go_upto_region 1 with (with_reducible refine Z5 _ rfl 31 (.tmp 0) rfl _ rfl ?_)
 rw[HW.o]
 go_upto_region 2 with (first
  |(refine wpList_load_mid rfl 31 (.tmp 1) rfl w.heap.size 0 rfl (bA r cv) _ HS.o.1 underlying31 rfl S9 ?_)
  |(go_at_call 83;refine (eF F r cv _ HS.o.2.2).mono ?_;rintro e w2 ⟨rfl,kk⟩;rw[hok];have K2:=U0 (HS.o.2.1.then kk (by simp));clear kk))
 go_wp2_with fail
 go_ret2
 exact⟨rfl,K2.o⟩
theorem dF (F:List Nat) (r:CF) (cv:Value) (w:World) (h:F8 w F cv r.chain) (hok:r.ok=true):
 Calls prog 19 #[.agg (bA r cv).toArray] w (QD w (WE r)):=by
 have hf:=r.ok_facts hok
 have k1:=(U1.refl [] w).alloc (.cells (bA r cv).toArray 31)
 have r1:=l5.new w 31 (bA r cv).toArray
 obtain⟨w1,hw1⟩:∃ w1,w.alloc (.cells (bA r cv).toArray 31)=w1:=⟨_,rfl⟩
 rw[hw1] at k1 r1
 have HS:=U0 (U2 r1.rangeAll (U2 k1 (h.keep k1 (by simp))))
 have HW:=U0 hw1
 have HR1:=U0 r1
 obtain⟨A,c,g,rfl,_,hcm,hA,_⟩:=h
 have HF:=U0 hf
 have HA:=U0 hA
 clear k1 r1 hw1 hf hA
 go_enter func19,ntmps19
 go_upto_region 1 with (with_reducible refine Z5 _ rfl 31 (.tmp 0) rfl _ rfl ?_)
 rw[HW.o]
 go_upto_region 2 with (first
  |(refine wpList_load_mid rfl 31 (.tmp 1) rfl w.heap.size 0 rfl (bA r (.slice A r.chain.length c)) _ HS.o.1 underlying31 rfl S9 ?_)
  |(go_at_call 83;refine (eF F r _ _ HS.o.2.2).mono ?_;rintro e w2 ⟨rfl,kk⟩;rw[hok];have r2:=kk.row HR1.o (by simp);have K2:=U0 (HS.o.2.1.then kk (by simp));clear kk))
 obtain⟨L,hL⟩:∃ L,r.chain.length=L:=⟨_,rfl⟩
 obtain⟨tb,htb⟩:∃ tb,w.heap.size=tb:=⟨_,rfl⟩
 rw[htb] at r2 ⊢
 rw[hL] at r2 ⊢
 have hf4:L≤4:=by have:=HF.o.2.1;omega
 have hf1:1≤L:=by have:=HF.o.2.1;omega
 have z0:w2.drew.cell? ⟨tb,0,none⟩=some (.int .i64 r.num):=r2.cell 0
 have z1:w2.drew.cell? ⟨tb,1,none⟩=some (.int .i64 r.full):=r2.cell 1
 have z2:w2.drew.cell? ⟨tb,2,none⟩=some (.slice A L c):=(r2.cell 2).trans (by rw[←hL];rfl)
 have Z:V5 (∀ w',U1 [] w2.drew w'→(w'.cell? ⟨tb,0,none⟩=some (.int .i64 r.num)∧w'.cell? ⟨tb,1,none⟩=some (.int .i64 r.full)∧w'.cell? ⟨tb,2,none⟩=some (.slice A L c))):=U0 (fun w' k=>⟨(k.cell (p:=⟨tb,0,none⟩) r2.lt (by simp)).trans z0,(k.cell (p:=⟨tb,1,none⟩) r2.lt (by simp)).trans z1,(k.cell (p:=⟨tb,2,none⟩) r2.lt (by simp)).trans z2⟩)
 have Z0:=Z.o _ (U1.refl [] w2.drew)
 have KD:=U0 (K2.o.then ((U1.refl [] w2).drew) (by simp))
 have HL:=U0 hL
 clear r2 z0 z1 z2 hL
 have HC:=U0 (GH (n:=r.num) (by have:=HF.o.1;omega))
 have HL1:V5 (([]:List UInt8).length≤1000000000):=U0 (by simp)
 have HL2:V5 ((([]:List UInt8)++cb r.num.toNat).length≤1000000000):=U0 (by have:=HC.o;simp only[List.length_append,List.length_nil];omega)
 have HL3:V5 (((([]:List UInt8)++cb r.num.toNat)++l7 1 r.full.toNat).length≤1000000000):=U0 (by have:=HC.o;simp only[List.length_append,List.length_nil,UE];omega)
 go_upto_region 4 with fail
 go_region_held3 (fun w'=>w'.cell? ⟨tb,0,none⟩=some (.int .i64 r.num)∧w'.cell? ⟨tb,1,none⟩=some (.int .i64 r.full)∧w'.cell? ⟨tb,2,none⟩=some (.slice A L c)) (first|exact Z0|exact Y0|exact Y1|exact Y2|exact Y3)
  (first
    |(go_at_call 51;refine NB.start.mono ?_;rintro e v0 ⟨p,rfl,o0⟩;have O0:=U0 o0;have Y0:=Z.o _ o0.kept;clear o0)
    |(go_at_call 54;(with_reducible refine (O0.o.count r.num (by have:=HF.o.1;omega) (by have:=HF.o.1;omega) HL1.o).mono ?_);rintro e v1 ⟨rfl,o1⟩;have O1:=U0 o1;have Y1:=Z.o _ o1.kept;clear o1)
    |(go_at_call 52;(with_reducible refine (O1.o.num r.full (by have:=HF.o.2.2.1;omega) (by have:=HF.o.2.1;have:=HF.o.2.2.1;omega) HL2.o).mono ?_);rintro e v2 ⟨rfl,o2⟩;have O2:=U0 o2;have Y2:=Z.o _ o2.kept;clear o2)
    |(go_at_call 52;(with_reducible refine (O2.o.num (L:Int) (by omega) (by omega) HL3.o).mono ?_);rintro e v3 ⟨rfl,o3⟩;have O3:=U0 o3;have Y3:=Z.o _ o3.kept;clear o3))
 obtain⟨B,hB⟩:∃ B,((([]:List UInt8)++cb r.num.toNat)++l7 1 r.full.toNat)++l7 1 (L:Int).toNat=B:=⟨_,rfl⟩
 have hBl:B.length≤10:=by have:=HC.o;rw[←hB];simp only[List.length_append,List.length_nil,UE];omega
 have HB:=U0 (show WE r=B++wK r.chain by rw[←hB];unfold WE;rw[HL.o,Int.toNat_natCast])
 have O4:V5 (NB w2.drew v3 p B):=by rw[←hB];exact O3
 clear hB O3 Y0 Y1 Y2 Z0 Y3
 go_upto_region 6 with fail
 go_loopw [5,6] (fun v5 v27 wx=>∃ i:Nat,i≤L∧v5= .pointer (some ⟨p,0,none⟩)∧v27= .int .i64 (i:Int)∧NB w2.drew wx p (B++wK (r.chain.take i))) (fun _ v27 _=>L-(intOf v27).toNat)
 case atStart=>exact⟨0,by omega,rfl,rfl,by simpa[wK] using O4.o⟩
 case round=>
  obtain⟨i,hi,rfl,rfl,ho⟩:=hrel
  have x2:=(Z.o wr ho.kept).2.2
  have HO:=U0 ho
  clear ho
  by_cases hlt:i<L
  ·have hlt':(i:Int)<(L:Int):=by omega
   have hn0:(0:Int)≤(i:Int):=by omega
   have hw1:IntKind.i64.wrap ((i:Int)+1)=(i:Int)+1:=Z8 _ (by omega) (by omega)
   obtain⟨a,ha⟩:∃ a,r.chain[i]? =some a:=⟨_,List.getElem?_eq_getElem (by have:=HL.o;omega)⟩
   obtain⟨o,rfl,hgl,hcA⟩:=HA.o.2 (by have:=HL.o;omega)
   have hkk:=KD.o.then HO.o.kept (by simp)
   have y0:wr.cell? ⟨g,o+i,none⟩=some (.int .i64 a):=(hkk.cell (p:=⟨g,o+i,none⟩) hgl (by simp)).trans (hcA i (.int .i64 a) (by rw[List.getElem?_map,ha];rfl))
   have ham:=HF.o.2.2.2 a (List.mem_of_getElem? ha)
   have HT:=U0 (NM ha)
   have hll:(B++wK (r.chain.take i)).length≤1000000000:=by rw[List.length_append,VG,List.length_take];omega
   have HLL:=U0 hll
   clear ha hcA hkk hll
   go_wp2_with (first
    |(go_at_call 52;(with_reducible refine (HO.o.num a (by omega) (by omega) HLL.o).mono ?_);rintro e v4 ⟨rfl,o4⟩;have HO4:=U0 o4;clear o4))
   go_roundw
   case rel=>exact⟨i+1,by omega,rfl,by go_num,by rw[HT.o,←List.append_assoc];exact HO4.o⟩
   case measure=>simp[intOf];omega
  ·obtain rfl:i=L:=by omega
   have HE:=U0 (show B++wK (r.chain.take i)=WE r by rw[HB.o,←HL.o,List.take_length])
   rw[HE.o] at HO
   have hll:(WE r).length≤1000000000:=by rw[HB.o,List.length_append,VG,HL.o];omega
   have HLL:=U0 hll
   clear hll
   go_wp2_with (first
    |(go_at_call 60;(with_reducible refine (HO.o.bytes HLL.o).mono ?_);rintro e vz ⟨u,G,rfl,ub,un,uk⟩;have OZ:=U0 (U2 ub (U2 un uk));clear ub un uk))
   go_ret2
   exact⟨_,G,rfl,OZ.o.1,fun y hy=>⟨by have h1:=(OZ.o.2.1 y hy).1;have h2:=KD.o.size;omega,(OZ.o.2.1 y hy).2⟩,KD.o.then OZ.o.2.2 (by simp)⟩
def rO (w0 w:World) (p:Nat) (l:List UInt8) (g:Nat):Prop:=∃ v,FD w p v ⟨l,0⟩∧w0.heap.size≤p∧(∀ x∈Z6 v,w0.heap.size≤x)∧U1 [] w0 w∧g≠p∧g∉Z6 v
theorem NB.apart {w0 wr wb:World} {p:Nat} {l:List UInt8} (h:NB w0 wr p l) (hk:U1 [] wr wb) (g:Nat) (hg:wr.heap.size≤g):rO w0 wb p l g:=by
 obtain⟨v,a,b,d,k⟩:=h
 have hp1:=a.1.lt
 have hp2:=a.2.lt
 exact⟨v,a.keep hk (by simp) (by simp),b,d,k.then hk (by simp),by omega,fun hm=>by have:=hp2 g hm;omega⟩
theorem rO.kept {w0 w:World} {p:Nat} {l:List UInt8} {g:Nat} (h:rO w0 w p l g):U1 [] w0 w:=by obtain⟨v,_,_,_,h,_⟩:=h;exact h
theorem rO.count {w0 w:World} {p g:Nat} {l:List UInt8} (h:rO w0 w p l g) (n:Int) (h0:0≤n) (h1:n≤9007199254740991) (hb:l.length≤1000000000) (hg:g<w.heap.size):
 Calls prog 54 #[.pointer (some ⟨p,0,none⟩),.int .i64 n] w fun e w'=>e= .returned (.pointer (some ⟨p,0,none⟩))∧rO w0 w' p (l++cb n.toNat) g∧∀ A t,QA w A g t→QA w' A g t:=by
 obtain⟨v,a,b,c,d,e1,e2⟩:=h
 refine (PG p v _ n w a hb).mono fun e w' hp=> ?_
 rw[SG l h0 h1] at hp
 obtain⟨he,v',hw,hk,hh⟩:=hp
 have hs:=d.size
 refine⟨he,⟨v',hw,b,fun x hx=> ?_,d.then hk (fun x hx=> .inr ?_),e1,fun hm=> ?_⟩,fun A t hsn=>hsn.keep hk (fun _ hm=> ?_)⟩
 ·rcases hh x hx with q|q
  ·exact c x q
  ·omega
 ·rcases List.mem_cons.1 hx with rfl|hx
  ·exact b
  ·exact c x hx
 ·rcases hh g hm with q|q
  ·exact e2 q
  ·omega
 ·rcases List.mem_cons.1 hm with q|q
  ·exact e1 q
  ·exact e2 q
theorem rO.text {w0 w:World} {p g:Nat} {l:List UInt8} (h:rO w0 w p l g) (A:Option Addr) (n c:Nat) (t:List UInt8) (hn:t.length=n) (hs:QA w A g t) (hb:l.length≤1000000000) (hb2:t.length≤1000000000):
 Calls prog 58 #[.pointer (some ⟨p,0,none⟩),.slice A n c] w (YG w0 p ((l++cb t.length)++t)):=by
 subst hn
 obtain⟨v,a,b,d,k,e1,e2⟩:=h
 refine (zH p v _ A g c t w a hs (fun _=>⟨e1,e2⟩) hb hb2).mono fun e w' hp=> ?_
 rw[mI l t hb2] at hp
 exact NB.step a b d k hp
theorem YT {k:Int} (h:1≤k∧k≤14):gH.contains k=(U6 (l6 k) 1 !=0)∧iH.contains k=(U6 (l6 k) 2 !=0)∧DC.contains k=(U6 (l6 k) 4 !=0)∧(k==8)=(U6 (l6 k) 8 !=0)∧bG.contains k=(U6 (l6 k) 16 !=0)∧(k==2)=(U6 (l6 k) 32 !=0)∧UC.contains k=(U6 (l6 k) 64 !=0)∧(k==11)=(U6 (l6 k) 128 !=0)∧(k==6)=(U6 (l6 k) 256 !=0):=by
 obtain rfl|rfl|rfl|rfl|rfl|rfl|rfl|rfl|rfl|rfl|rfl|rfl|rfl|rfl:k=1∨k=2∨k=3∨k=4∨k=5∨k=6∨k=7∨k=8∨k=9∨k=10∨k=11∨k=12∨k=13∨k=14:=by omega
 all_goals exact⟨by kernel_rfl,by kernel_rfl,by kernel_rfl,by kernel_rfl,by kernel_rfl,by kernel_rfl,by kernel_rfl,by kernel_rfl,by kernel_rfl⟩
theorem vS {p:PK} {h:Int} (hc:p.same (p.cut h)=true) (hb:U6 h 128=0):p.votes=[]:=by
 have e:=(PK.same_iff _ _).1 hc
 have:=congrArg PK.votes e
 rw[this]
 show oV (U6 h 128) [] p.votes=_
 unfold oV
 rw[if_pos hb]
theorem cfB_ne (c:CF):WE c≠[]:=fun e=>by
 have:=congrArg List.length e
 unfold WE at this
 simp only[List.length_append,UE,List.length_nil] at this
 omega
theorem TQ (F:List Nat) (p:PK) (ev av cv vv bw:Value) (w:World) (h:wD w F p ev av cv vv bw) (hf:p.fits) (hok:p.ok=false):
 Calls prog 8 #[.agg (q8 p ev av cv vv bw).toArray] w fun e w'=>e= .returned (.tuple #[.slice none 0 0,.int .i64 2])∧U1 [] w w':=by
 have k1:=(U1.refl [] w).alloc (.cells (q8 p ev av cv vv bw).toArray 34)
 have r1:=l5.new w 34 (q8 p ev av cv vv bw).toArray
 obtain⟨w1,hw1⟩:∃ w1,w.alloc (.cells (q8 p ev av cv vv bw).toArray 34)=w1:=⟨_,rfl⟩
 rw[hw1] at k1 r1
 have hI:(prog.info? 34).map (·.size)=some (q8 p ev av cv vv bw).length:=by rw[G8 h.rn h.an];exact I5
 have HS:=U0 (U2 r1.rangeAll (U2 hI (U2 k1 (U2 (h.keep k1 (by simp)) hf))))
 have HW:=U0 hw1
 clear k1 r1 hw1 h hI hf
 go_enter func8,ntmps8
 go_upto_region 1 with (with_reducible refine Z5 _ rfl 34 (.tmp 0) rfl _ rfl ?_)
 rw[HW.o]
 go_upto_region 2 with (first
  |(refine wpList_load_mid rfl 34 (.tmp 1) rfl w.heap.size 0 rfl (q8 p ev av cv vv bw) _ HS.o.1 underlying34 rfl HS.o.2.1 ?_)
  |(go_at_call 10;refine (PO F p ev av cv vv bw _ HS.o.2.2.2.1 HS.o.2.2.2.2).mono ?_;rintro e w2 ⟨rfl,kk⟩;rw[vH,hok];have K2:=U0 (HS.o.2.2.1.then kk (by simp));clear kk))
 go_wp2_with fail
 go_ret2
 exact⟨rfl,K2.o⟩
theorem FO (F:List Nat) (p:PK) (ev av cv vv bw:Value) (w:World) (h:wD w F p ev av cv vv bw) (hok:p.ok=true):
 Calls prog 8 #[.agg (q8 p ev av cv vv bw).toArray] w (QD w (wH p)):=by
 have hf:=p.ok_facts hok
 have k1:=(U1.refl [] w).alloc (.cells (q8 p ev av cv vv bw).toArray 34)
 have r1:=l5.new w 34 (q8 p ev av cv vv bw).toArray
 obtain⟨w1,hw1⟩:∃ w1,w.alloc (.cells (q8 p ev av cv vv bw).toArray 34)=w1:=⟨_,rfl⟩
 rw[hw1] at k1 r1
 have hI:(prog.info? 34).map (·.size)=some (q8 p ev av cv vv bw).length:=by rw[G8 h.rn h.an];exact I5
 have HS:=U0 (U2 r1.rangeAll (U2 hI (U2 k1 (U2 (h.keep k1 (by simp)) (PK.ok_fits hok)))))
 have HW:=U0 hw1
 have HR1:=U0 r1
 have HF:=U0 hf
 have HP:=U0 h
 have hrn:=h.rn
 have han:=h.an
 clear k1 r1 hw1 h hI hf
 obtain⟨A0,c0,g0,rfl,_⟩:=id HP.o.re
 obtain⟨A1,c1,g1,rfl,_⟩:=id HP.o.ae
 obtain⟨A2,c2,g2,rfl,_⟩:=id HP.o.cc
 obtain⟨A3,c3,g3,T3,rfl,_⟩:=id HP.o.vs
 obtain⟨A4,c4,g4,rfl,_,_,hs4,_⟩:=id HP.o.bs
 have HS4:=U0 hs4
 clear hs4
 go_enter func8,ntmps8
 go_upto_region 1 with (with_reducible refine Z5 _ rfl 34 (.tmp 0) rfl _ rfl ?_)
 rw[HW.o]
 go_upto_region 2 with (first
  |(refine wpList_load_mid rfl 34 (.tmp 1) rfl w.heap.size 0 rfl (q8 p _ _ _ _ _) _ HS.o.1 underlying34 rfl HS.o.2.1 ?_)
  |(go_at_call 10;refine (PO F p _ _ _ _ _ _ HS.o.2.2.2.1 HS.o.2.2.2.2).mono ?_;rintro e w2 ⟨rfl,kk⟩;rw[vH,hok];have r2:=kk.row HR1.o (by simp);have K2:=U0 (HS.o.2.2.1.then kk (by simp));clear kk))
 obtain⟨tb,htb⟩:∃ tb,w.heap.size=tb:=⟨_,rfl⟩
 have HP2:=U0 (HP.o.keep K2.o (by simp))
 rw[htb] at r2 ⊢
 have HTB:=U0 htb
 have x0:w2.cell? ⟨tb,0,none⟩=some (.int .i64 p.kind):=(r2.cell 0).trans rfl
 clear htb
 go_upto_region 5 with fail
 have z0:w2.drew.cell? ⟨tb,0,none⟩=some (.int .i64 p.kind):=x0
 have z1:w2.drew.cell? ⟨tb,1,none⟩=some (.int .i64 p.frm):=(r2.cell 1).trans rfl
 have z2:w2.drew.cell? ⟨tb,2,none⟩=some (.int .i64 p.dst):=(r2.cell 2).trans rfl
 have r2d:l5 w2.drew tb 34 _:=r2
 have PA:V5 (∀ wx,U1 [] w2.drew wx→RN wx tb p (.slice A0 p.req.env.length c0) (.slice A1 p.ans.env.length c1) (.slice A2 p.conf.chain.length c2) (.slice A3 p.votes.length c3) (.slice A4 p.bytes.length c4)):=U0 (fun wx k=>(k.row r2d (by simp)).pk hrn han)
 have Z0:w2.drew.cell? ⟨tb,0,none⟩=some (.int .i64 p.kind)∧w2.drew.cell? ⟨tb,1,none⟩=some (.int .i64 p.frm)∧w2.drew.cell? ⟨tb,2,none⟩=some (.int .i64 p.dst):=⟨z0,z1,z2⟩
 have KD:=U0 (K2.o.then ((U1.refl [] w2).drew) (by simp))
 have HPD:=U0 (HP2.o.keep ((U1.refl [] w2).drew) (by simp))
 have HLS:=U0 (nM hok hrn han)
 have HKD:=U0 (U2 (QH HF.o.1) (U2 (LF HF.o.2.1) (LF HF.o.2.2.1)))
 have HBT:=U0 (YT HKD.o.1)
 clear r2 r2d x0 z0 z1 z2
 go_region_held3 (fun w'=>w'.cell? ⟨tb,0,none⟩=some (.int .i64 p.kind)∧w'.cell? ⟨tb,1,none⟩=some (.int .i64 p.frm)∧w'.cell? ⟨tb,2,none⟩=some (.int .i64 p.dst)) (first|exact Z0|exact Y0|exact Y1|exact Y2|exact Y3)
  (first
    |(go_at_call 51;refine NB.start.mono ?_;rintro e v0 ⟨q,rfl,o0⟩;have O0:=U0 o0;have Y0:=U2 (PA.o _ o0.kept).c0 (U2 (PA.o _ o0.kept).c1 (PA.o _ o0.kept).c2);clear o0)
    |(go_at_call 52;(with_reducible refine (O0.o.num p.kind (by have:=HKD.o;omega) (by have:=HKD.o;omega) (by simp)).mono ?_);rintro e v1 ⟨rfl,o1⟩;have O1:=U0 o1;have Y1:=U2 (PA.o _ o1.kept).c0 (U2 (PA.o _ o1.kept).c1 (PA.o _ o1.kept).c2);clear o1)
    |(go_at_call 52;(with_reducible refine (O1.o.num p.frm (by have:=HKD.o;omega) (by have:=HKD.o;omega) (by simp only[List.length_append,UE,List.length_nil];omega)).mono ?_);rintro e v2 ⟨rfl,o2⟩;have O2:=U0 o2;have Y2:=U2 (PA.o _ o2.kept).c0 (U2 (PA.o _ o2.kept).c1 (PA.o _ o2.kept).c2);clear o2)
    |(go_at_call 52;(with_reducible refine (O2.o.num p.dst (by have:=HKD.o;omega) (by have:=HKD.o;omega) (by simp only[List.length_append,UE,List.length_nil];omega)).mono ?_);rintro e v3 ⟨rfl,o3⟩;have O3:=U0 o3;have Y3:=U2 (PA.o _ o3.kept).c0 (U2 (PA.o _ o3.kept).c1 (PA.o _ o3.kept).c2);clear o3))
 clear O0 O1 O2 Y0 Y1 Y2 Y3 Z0
 have P0:V5 (NB w2.drew v3 q (xR p)):=O3
 clear O3
 obtain⟨f,hf⟩:∃ f,l6 p.kind=f:=⟨_,rfl⟩
 rw[hf] at HF HLS HBT
 have HFF:=U0 hf
 clear hf
 go_upto_if 34 with (go_at_call 53;refine (RH p.kind _).mono ?_;rintro e w' ⟨rfl,kk⟩;rw[HBT.o.1];have H0:=U0 (P0.o.over kk);clear kk P0)
 go_cut [6] (fun v6 wx=>v6= .pointer (some ⟨q,0,none⟩)∧NB w2.drew wx q (rP p f))
 case first=>
  by_cases hb:U6 f 1=0
  ·have hbb:(U6 f 1 !=0)=false:=by simp[hb]
   have E:=U0 (JC (xR p) (cb p.num.toNat) hb)
   clear hb
   go_wp2_with fail
   go_meet
   exact⟨rfl,by rw[show rP p f=_ from E.o];exact H0.o⟩
  ·have hbb:(U6 f 1 !=0)=true:=by simp[hb]
   have E:=U0 (yD (xR p) (cb p.num.toNat) hb)
   have y:=(PA.o _ H0.o.kept).c3
   go_wp2_with (first
    |(go_at_call 54;refine (H0.o.count p.num HF.o.2.2.2.2.1.1 HF.o.2.2.2.2.1.2 (by have:=HLS.o;omega)).mono ?_;rintro e wx ⟨rfl,ox⟩))
   go_meet
   exact⟨rfl,by rw[show rP p f=_ from E.o];exact ox⟩
 obtain⟨rfl,ho⟩:=hcut
 have P1:=U0 ho
 clear ho
 go_upto_if 40 with (go_at_call 55;refine (SH p.kind _).mono ?_;rintro e w' ⟨rfl,kk⟩;rw[HBT.o.2.1];have H1:=U0 (P1.o.over kk);clear kk P1)
 go_cut [6] (fun v6 wx=>v6= .pointer (some ⟨q,0,none⟩)∧NB w2.drew wx q (vP p f))
 case first=>
  by_cases hb:U6 f 2=0
  ·have hbb:(U6 f 2 !=0)=false:=by simp[hb]
   have E:=U0 (JC (rP p f) (cb (p.seq+1).toNat) hb)
   clear hb
   go_wp2_with fail
   go_meet
   exact⟨rfl,by rw[show vP p f=_ from E.o];exact H1.o⟩
  ·have hbb:(U6 f 2 !=0)=true:=by simp[hb]
   have E:=U0 (yD (rP p f) (cb (p.seq+1).toNat) hb)
   have y:=(PA.o _ H1.o.kept).c4
   have hws:IntKind.i64.wrap (p.seq+1)=p.seq+1:=Z8 _ (by have:=QC HF.o.2.2.2.2.2.2.1;omega) (by have:=QC HF.o.2.2.2.2.2.2.1;omega)
   go_wp2_with (first
    |(go_at_call 54;refine (H1.o.count (p.seq+1) (by have:=QC HF.o.2.2.2.2.2.2.1;omega) (by have:=QC HF.o.2.2.2.2.2.2.1;omega) (by have:=HLS.o;omega)).mono ?_;rintro e wx ⟨rfl,ox⟩))
   go_meet
   exact⟨rfl,by rw[show vP p f=_ from E.o];exact ox⟩
 obtain⟨rfl,ho⟩:=hcut
 have P2:=U0 ho
 clear ho
 go_upto_if 47 with (go_at_call 56;refine (gF p.kind _).mono ?_;rintro e w' ⟨rfl,kk⟩;rw[HBT.o.2.2.1];have H2:=U0 (P2.o.over kk);clear kk P2)
 go_cut [6] (fun v6 wx=>v6= .pointer (some ⟨q,0,none⟩)∧NB w2.drew wx q (xP p f))
 case first=>
  by_cases hb:U6 f 4=0
  ·have hbb:(U6 f 4 !=0)=false:=by simp[hb]
   have E:=U0 (JC (vP p f) (cb p.ballot.toNat) hb)
   clear hb
   go_wp2_with fail
   go_meet
   exact⟨rfl,by rw[show xP p f=_ from E.o];exact H2.o⟩
  ·have hbb:(U6 f 4 !=0)=true:=by simp[hb]
   have E:=U0 (yD (vP p f) (cb p.ballot.toNat) hb)
   have y:=(PA.o _ H2.o.kept).c5
   go_wp2_with (first
    |(go_at_call 54;refine (H2.o.count p.ballot HF.o.2.2.2.2.2.1.1 HF.o.2.2.2.2.2.1.2 (by have:=HLS.o;omega)).mono ?_;rintro e wx ⟨rfl,ox⟩))
   go_meet
   exact⟨rfl,by rw[show xP p f=_ from E.o];exact ox⟩
 obtain⟨rfl,ho⟩:=hcut
 have P3:=U0 ho
 clear ho
 go_upto_if 53 with fail
 have H3:=P3
 clear P3
 go_cut [6] (fun v6 wx=>v6= .pointer (some ⟨q,0,none⟩)∧NB w2.drew wx q (yP p f))
 case first=>
  by_cases hb:U6 f 8=0
  ·have hbb:(p.kind==8)=false:=by rw[HBT.o.2.2.2.1];simp[hb]
   have E:=U0 (JC (xP p f) (l7 1 (if p.ready then 1 else 0)) hb)
   clear hb
   go_wp2_with fail
   go_meet
   exact⟨rfl,by rw[show yP p f=_ from E.o];exact H3.o⟩
  ·have hbb:(p.kind==8)=true:=by rw[HBT.o.2.2.2.1];simp[hb]
   have E:=U0 (yD (xP p f) (l7 1 (if p.ready then 1 else 0)) hb)
   have y:=(PA.o _ H3.o.kept).c6
   obtain⟨rd,hrd⟩:∃ r,p.ready=r:=⟨_,rfl⟩
   rw[hrd] at y
   have HRD:=U0 hrd
   clear hrd
   cases rd
   all_goals (go_wp2_with (first
    |(go_at_call 52;refine (H3.o.num _ (by omega) (by omega) (by have:=HLS.o;omega)).mono ?_;rintro e wx ⟨rfl,ox⟩)))
   all_goals go_meet
   all_goals exact⟨rfl,by rw[show yP p f=_ from E.o,HRD.o];exact ox⟩
 obtain⟨rfl,ho⟩:=hcut
 have P4:=U0 ho
 clear ho
 go_upto_if 60 with (go_at_call 57;refine (OD p.kind _).mono ?_;rintro e w' ⟨rfl,kk⟩;rw[HBT.o.2.2.2.2.1];have H4:=U0 (P4.o.over kk);clear kk P4)
 go_cut [6] (fun v6 wx=>v6= .pointer (some ⟨q,0,none⟩)∧NB w2.drew wx q (BP p f))
 case first=>
  by_cases hb:U6 f 16=0
  ·have hbb:(U6 f 16 !=0)=false:=by simp[hb]
   have E:=U0 (JC (yP p f) (cb (dE p.req).length++dE p.req) hb)
   clear hb
   go_wp2_with fail
   go_meet
   exact⟨rfl,by rw[show BP p f=_ from E.o];exact H4.o⟩
  ·have hbb:(U6 f 16 !=0)=true:=by simp[hb]
   have E:=U0 (yD (yP p f) (cb (dE p.req).length++dE p.req) hb)
   have y:=U0 (PA.o _ H4.o.kept).rq
   have hI:V5 ((prog.info? 26).map (·.size)=some (U8 p.req (.slice A0 p.req.env.length c0)).length):=U0 (by rw[O8 hrn];exact D9)
   go_wp2_with (first
    |(refine wpList_load_mid rfl 26 (.tmp 62) rfl tb 7 rfl (U8 p.req (.slice A0 p.req.env.length c0)) _ y.o underlying26 rfl hI.o ?_)
    |(go_at_call 15;refine (kH F p.req _ _ ⟨hrn,HPD.o.re.keep H4.o.kept (by simp)⟩ (HF.o.2.2.2.2.2.2.2.2.1.resolve_left hb)).mono ?_;rintro e wb ⟨u,G,rfl,ub,un,uk⟩;obtain⟨Ab,cbb,gb,rfl,_,_,sb,mb⟩:=ub;have QB:=U0 (U2 sb (U2 (fun hne:dE p.req≠[]=>(un gb (mb hne)).1) uk));clear sb mb un uk)
    |(go_at_call 58;refine (H4.o.textNew QB.o.2.2 Ab gb _ cbb (dE p.req) rfl QB.o.1 QB.o.2.1 (by have:=HLS.o;omega) (by have:=bK (HF.o.2.2.2.2.2.2.2.2.1.resolve_left hb) hrn;omega)).mono ?_;rintro e wx ⟨rfl,ox⟩))
   go_meet
   exact⟨rfl,by rw[show BP p f=_ from E.o];rw[←List.append_assoc];exact ox⟩
 obtain⟨rfl,ho⟩:=hcut
 have P5:=U0 ho
 clear ho
 go_upto_if 71 with fail
 have H5:=P5
 clear P5
 go_cut [6] (fun v6 wx=>v6= .pointer (some ⟨q,0,none⟩)∧NB w2.drew wx q (CP p f))
 case first=>
  by_cases hb:U6 f 32=0
  ·have hbb:(p.kind==2)=false:=by rw[HBT.o.2.2.2.2.2.1];simp[hb]
   have E:=U0 (JC (BP p f) (cb (UD p.ans).length++UD p.ans) hb)
   clear hb
   go_wp2_with fail
   go_meet
   exact⟨rfl,by rw[show CP p f=_ from E.o];exact H5.o⟩
  ·have hbb:(p.kind==2)=true:=by rw[HBT.o.2.2.2.2.2.1];simp[hb]
   have E:=U0 (yD (BP p f) (cb (UD p.ans).length++UD p.ans) hb)
   have y:=U0 (PA.o _ H5.o.kept).an
   have hI:V5 ((prog.info? 28).map (·.size)=some (x9 p.ans (.slice A1 p.ans.env.length c1)).length):=U0 (by rw[y9 han];exact Q9)
   go_wp2_with (first
    |(refine wpList_load_mid rfl 28 (.tmp 73) rfl tb 44 rfl (x9 p.ans (.slice A1 p.ans.env.length c1)) _ y.o underlying28 rfl hI.o ?_)
    |(go_at_call 17;refine (jH F p.ans _ _ ⟨han,HPD.o.ae.keep H5.o.kept (by simp)⟩ (HF.o.2.2.2.2.2.2.2.2.2.1.resolve_left hb)).mono ?_;rintro e wb ⟨u,G,rfl,ub,un,uk⟩;obtain⟨Ab,cbb,gb,rfl,_,_,sb,mb⟩:=ub;have QB:=U0 (U2 sb (U2 (fun hne:UD p.ans≠[]=>(un gb (mb hne)).1) uk));clear sb mb un uk)
    |(go_at_call 58;refine (H5.o.textNew QB.o.2.2 Ab gb _ cbb (UD p.ans) rfl QB.o.1 QB.o.2.1 (by have:=HLS.o;omega) (by have:=xJ (HF.o.2.2.2.2.2.2.2.2.2.1.resolve_left hb) han;omega)).mono ?_;rintro e wx ⟨rfl,ox⟩))
   go_meet
   exact⟨rfl,by rw[show CP p f=_ from E.o];rw[←List.append_assoc];exact ox⟩
 obtain⟨rfl,ho⟩:=hcut
 have P6:=U0 ho
 clear ho
 go_upto_if 82 with (go_at_call 59;refine (XF p.kind _).mono ?_;rintro e w' ⟨rfl,kk⟩;rw[HBT.o.2.2.2.2.2.2.1];have H6:=U0 (P6.o.over kk);clear kk P6)
 go_cut [6] (fun v6 wx=>v6= .pointer (some ⟨q,0,none⟩)∧NB w2.drew wx q (EK p f))
 case first=>
  by_cases hb:U6 f 64=0
  ·have hbb:(U6 f 64 !=0)=false:=by simp[hb]
   have E:=U0 (JC (CP p f) (cb (WE p.conf).length++WE p.conf) hb)
   clear hb
   go_wp2_with fail
   go_meet
   exact⟨rfl,by rw[show EK p f=_ from E.o];exact H6.o⟩
  ·have hbb:(U6 f 64 !=0)=true:=by simp[hb]
   have E:=U0 (yD (CP p f) (cb (WE p.conf).length++WE p.conf) hb)
   have y0:=(PA.o _ H6.o.kept).d0
   have y1:=(PA.o _ H6.o.kept).d1
   have y2:=(PA.o _ H6.o.kept).d2
   go_wp2_with (first
    |(go_at_call 19;refine (dF F p.conf _ _ (HPD.o.cc.keep H6.o.kept (by simp)) (HF.o.2.2.2.2.2.2.2.2.2.2.1.resolve_left hb)).mono ?_;rintro e wb ⟨u,G,rfl,ub,un,uk⟩;obtain⟨Ab,cbb,gb,rfl,_,_,sb,mb⟩:=ub;have QB:=U0 (U2 sb (U2 (fun hne:WE p.conf≠[]=>(un gb (mb hne)).1) uk));clear sb mb un uk)
    |(go_at_call 58;refine (H6.o.textNew QB.o.2.2 Ab gb _ cbb (WE p.conf) rfl QB.o.1 QB.o.2.1 (by have:=HLS.o;omega) (by have:=UG (HF.o.2.2.2.2.2.2.2.2.2.2.1.resolve_left hb);omega)).mono ?_;rintro e wx ⟨rfl,ox⟩))
   go_meet
   exact⟨rfl,by rw[show EK p f=_ from E.o];rw[←List.append_assoc];exact ox⟩
 obtain⟨rfl,ho⟩:=hcut
 have P7:=U0 ho
 clear ho
 have HVS:=U0 (U2 HPD.o.vs (U2 HF.o.2.2.2.2.2.2.2.2.2.2.2 (fun hb=>vS HF.o.2.2.2.1 hb)))
 obtain⟨L,hL⟩:∃ L,p.votes.length=L:=⟨_,rfl⟩
 have hL8:L≤8:=by
  have:=HVS.o.2.1
  unfold JB at this
  rw[Bool.and_eq_true,decide_eq_true_eq] at this
  omega
 have HL:=U0 hL
 rw[hL] at PA HVS
 clear hL
 go_upto_if 93 with fail
 have H7:=P7
 clear P7
 go_cut [6] (fun v6 wx=>v6= .pointer (some ⟨q,0,none⟩)∧NB w2.drew wx q (aI (U6 f 128) (EK p f) (l7 1 L)))
 case first=>
  by_cases hb:U6 f 128=0
  ·have hbb:(p.kind==11)=false:=by rw[HBT.o.2.2.2.2.2.2.2.1];simp[hb]
   have E:=U0 (JC (EK p f) (l7 1 L) hb)
   clear hb
   go_wp2_with fail
   go_meet
   exact⟨rfl,by rw[show aI (U6 f 128) (EK p f) (l7 1 L)=_ from E.o];exact H7.o⟩
  ·have hbb:(p.kind==11)=true:=by rw[HBT.o.2.2.2.2.2.2.2.1];simp[hb]
   have E:=U0 (yD (EK p f) (l7 1 L) hb)
   have y:=(PA.o _ H7.o.kept).d3
   go_wp2_with (first
    |(go_at_call 52;refine (H7.o.num (L:Int) (by omega) (by omega) (by have:=HLS.o;omega)).mono ?_;rintro e wx ⟨rfl,ox⟩))
   go_meet
   exact⟨rfl,by rw[show aI (U6 f 128) (EK p f) (l7 1 L)=_ from E.o];rw[Int.toNat_natCast] at ox;exact ox⟩
 obtain⟨rfl,ho⟩:=hcut
 have P8:=U0 ho
 clear ho
 obtain⟨B,hB⟩:∃ B,aI (U6 f 128) (EK p f) (l7 1 L)=B:=⟨_,rfl⟩
 have hBl:B.length≤10001:=by
  have:=HLS.o
  rw[←hB]
  unfold aI
  split
  ·omega
  ·rw[List.length_append,UE];omega
 rw[hB] at P8
 have HB8:V5 (B++xD p.votes=wO p f):=U0 (by
  rw[←hB]
  by_cases hb:U6 f 128=0
  ·rw[HVS.o.2.2 hb,JC _ _ hb,show wO p f=aI (U6 f 128) (EK p f) (l7 1 p.votes.length++xD p.votes) from rfl,JC _ _ hb]
   simp[xD]
  ·rw[yD _ _ hb,show wO p f=aI (U6 f 128) (EK p f) (l7 1 p.votes.length++xD p.votes) from rfl,yD _ _ hb,HL.o,List.append_assoc])
 have HOK:V5 (fE p.votes=true):=U0 (by
  have:=HVS.o.2.1
  unfold JB at this
  rw[Bool.and_eq_true] at this
  exact this.2)
 clear hB
 go_upto_region 29 with fail
 go_loopw [6,14] (fun v6 v14 wx=>∃ i:Nat,i≤L∧v6= .pointer (some ⟨q,0,none⟩)∧v14= .int .i64 (i:Int)∧NB w2.drew wx q (B++xD (p.votes.take i))) (fun _ v14 _=>L-(intOf v14).toNat)
 case atStart=>exact⟨0,by omega,rfl,rfl,by simpa[xD] using P8.o⟩
 case round=>
  obtain⟨i,hi,rfl,rfl,ho⟩:=hrel
  have HO3:=U0 ho
  have y3:=(PA.o _ ho.kept).d3
  clear ho
  by_cases hlt:i<L
  ·have hlt':(i:Int)<(L:Int):=by omega
   have hn0:(0:Int)≤(i:Int):=by omega
   have hw1:IntKind.i64.wrap ((i:Int)+1)=(i:Int)+1:=Z8 _ (by omega) (by omega)
   obtain⟨a,ha⟩:∃ a,p.votes[i]? =some a:=⟨_,List.getElem?_eq_getElem (by have:=HL.o;omega)⟩
   obtain⟨g,o,cv,rfl,hgl,_,hcv,x0,x1,x2,x3⟩:=HVS.o.1.at ha
   have e:=fun z=>HO3.o.kept.cell (p:=⟨g,z,none⟩) hgl (by simp)
   rw[←e] at x0 x1 x2 x3
   clear e
   have hok:=uM HOK.o ha
   have HT:=U0 (EL ha)
   have hll:(B++xD (p.votes.take i)).length≤20000:=by
    have h1:=jI _ (CL HOK.o i)
    have h2:(p.votes.take i).length≤8:=by rw[List.length_take];omega
    rw[List.length_append];omega
   obtain⟨Bi,hBi⟩:∃ Bi,B++xD (p.votes.take i)=Bi:=⟨_,rfl⟩
   rw[hBi] at hll HO3
   have HBi:=U0 hBi
   obtain⟨ab,an,af,al⟩:=a
   have hfb:1≤ab∧ab≤9007199254740991:=by
    unfold VT.ok at hok
    rw[Bool.and_eq_true,EC] at hok
    exact hok.1
   have hcok:CF.ok ⟨an,af,al⟩=true:=by unfold VT.ok at hok;rw[Bool.and_eq_true] at hok;exact hok.2
   have hcl:(WE ⟨an,af,al⟩).length≤14:=UG hcok
   have hc8:=GH (n:=ab) hfb.2
   have HK:=U0 (U2 hcok (U2 hcl hc8))
   dsimp only at x0 x1 x2 x3 hcv
   obtain⟨CA,cc,cg,rfl,_⟩:=id hcv
   have HCV:=U0 (hcv.keep HO3.o.kept (by simp))
   have HX0:=U0 (U2 x0 (U2 y3 (Nat.lt_of_lt_of_le hgl HO3.o.kept.size)))
   clear hcv ha hok hcl hc8 hBi hcok
   go_upto_region 32 with (first
    |(go_at_call 19;refine (dF F ⟨an,af,al⟩ _ _ HCV.o HK.o.1).mono ?_;rintro e wb ⟨u,G,rfl,ub,un,uk⟩;obtain⟨Ab,cbb,gb,rfl,_,_,sb,mb⟩:=ub;have QB:=U0 (U2 sb (U2 (un gb (mb (cfB_ne _))) uk));clear sb mb un uk))
   have z0:=(QB.o.2.2.cell (p:=⟨g,_,none⟩) HX0.o.2.2 (by simp)).trans HX0.o.1
   have z3:=(PA.o _ (HO3.o.kept.then QB.o.2.2 (by simp))).d3
   have HA:=U0 (HO3.o.apart QB.o.2.2 gb QB.o.2.1.1)
   clear x0 x1 x2 x3 y3
   go_wp2_with (first
    |(go_at_call 54;(with_reducible refine (HA.o.count ab (by omega) (by omega) (by omega) QB.o.2.1.2).mono ?_);rintro e w5 ⟨rfl,o5,s5⟩;have O5:=U0 (U2 o5 (s5 Ab _ QB.o.1));clear o5 s5)
    |(go_at_call 58;(with_reducible refine (O5.o.1.text Ab _ cbb (WE ⟨an,af,al⟩) rfl O5.o.2 (by rw[List.length_append];have:=HK.o;omega) (by have:=HK.o;omega)).mono ?_);rintro e w6 ⟨rfl,o6⟩;have O6:=U0 o6;clear o6))
   go_roundw
   case rel=>exact⟨i+1,by omega,rfl,by go_num,by rw[HT.o,←List.append_assoc,HBi.o];unfold vtB;simpa only[List.append_assoc] using O6.o⟩
   case measure=>simp[intOf];omega
  ·obtain rfl:i=L:=by omega
   have h9:NB w2.drew wr q (wO p f):=by
    have:=HO3.o
    rw[show p.votes.take i=p.votes by rw[←HL.o,List.take_length],HB8.o] at this
    exact this
   have P9:=U0 h9
   clear h9
   go_upto_if 127 with fail
   have H9:=P9
   clear P9
   go_cut [6] (fun v6 wx=>v6= .pointer (some ⟨q,0,none⟩)∧NB w2.drew wx q (xO p f))
   case first=>
    by_cases hb:U6 f 256=0
    ·have hbb:(p.kind==6)=false:=by rw[HBT.o.2.2.2.2.2.2.2.2];simp[hb]
     have E:=U0 (JC (wO p f) (cb p.bytes.length++p.bytes) hb)
     clear hb
     go_wp2_with fail
     go_meet
     exact⟨rfl,by rw[show xO p f=_ from E.o];exact H9.o⟩
    ·have hbb:(p.kind==6)=true:=by rw[HBT.o.2.2.2.2.2.2.2.2];simp[hb]
     have E:=U0 (yD (wO p f) (cb p.bytes.length++p.bytes) hb)
     have y:=(PA.o _ H9.o.kept).d4
     have HB4:V5 (QA w2.drew A4 g4 p.bytes):=U0 (HS4.o.keep KD.o (by simp))
     go_wp2_with (first
      |(go_at_call 58;refine (H9.o.text A4 g4 _ c4 p.bytes rfl HB4.o (by have:=HLS.o;omega) (by have:=HF.o.2.2.2.2.2.2.2.1;omega)).mono ?_;rintro e wx ⟨rfl,ox⟩))
     go_meet
     exact⟨rfl,by rw[show xO p f=_ from E.o];rw[←List.append_assoc];exact ox⟩
   obtain⟨rfl,ho⟩:=hcut
   have P10:=U0 ho
   clear ho
   have HE:=U0 (show wH p=xO p f by unfold wH;rw[HFF.o])
   have hll:(xO p f).length≤1000000000:=by have:=HLS.o;omega
   have HLL:=U0 hll
   clear hll
   go_wp2_with (first
    |(go_at_call 60;refine (P10.o.bytes HLL.o).mono ?_;rintro e vz ⟨u,G,rfl,ub,un,uk⟩;have OZ:=U0 (U2 ub (U2 un uk));clear ub un uk))
   go_ret2
   exact⟨_,G,rfl,by rw[HE.o];exact OZ.o.1,fun y hy=>⟨by have h1:=(OZ.o.2.1 y hy).1;have h2:=KD.o.size;omega,(OZ.o.2.1 y hy).2⟩,KD.o.then OZ.o.2.2 (by simp)⟩
end Go.Proofs.YthfdkonhjpdflaaGreatDoor
