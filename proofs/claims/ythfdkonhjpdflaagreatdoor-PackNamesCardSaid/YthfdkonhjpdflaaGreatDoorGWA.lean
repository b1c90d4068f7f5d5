import Derived.Test.YthfdkonhjpdflaaGreatDoorRWide
import Derived.Test.YthfdkonhjpdflaaGreatDoorPkD
import Derived.Test.YthfdkonhjpdflaaGreatDoorPk21
import Derived.Test.YthfdkonhjpdflaaGreatDoorRCB
import Derived.Test.YthfdkonhjpdflaaGreatDoorPkE
import Derived.Test.YthfdkonhjpdflaaGreatDoorRC15
import Derived.Test.YthfdkonhjpdflaaGreatDoorPkJ
namespace Go.Proofs.YthfdkonhjpdflaaGreatDoor
open Go.RowKit Go.Proofs.Tryz
set_option linter.unusedVariables false
set_option maxHeartbeats 16000000
set_option maxRecDepth 100000
set_option linter.unusedSimpArgs false
def iq (w:World) (p:Nat) (v:Value) (s:WS):Prop:=
 aC w p 129 #[v,.int .i64 s.e]∧cZ w 5 1 v s.b.length (s.b.map bv)
theorem iq.apart {w:World} {p:Nat} {v:Value} {s:WS} (h:iq w p v s):p∉aP v:=h.2.apart h.1 (by decide)
theorem iq.keep {S:List Nat} {w w':World} {p:Nat} {v:Value} {s:WS} (h:iq w p v s) (hk:ag S w w') (hp:p∉S) (hS:∀ x∈aP v,x∉S):iq w' p v s:=
 ⟨hk.row h.1 hp,h.2.keep hk hS⟩
def nK (p:Nat) (v:Value) (s:WS) (w:World) (e:Ending) (w':World):Prop:=
 e= .returned (.pointer (some ⟨p,0,none⟩))∧∃ v',iq w' p v' s∧ag (p::aP v) w w'∧∀ x∈aP v',x∈aP v∨w.heap.size≤x
theorem ou {w W w2:World} {p n:Nat} {v':Value} {A2:Option Addr} {c2:Nat} {b1 l:List UInt8} {e:Int} (h:iq w p v' ⟨b1,e⟩) (hW:ag [] w W) (hk:ag (aP v') W w2)
 (hown:cZ w2 5 1 (.slice A2 n c2) n ((b1++l).map bv)) (hloc:∀ x∈aP (.slice A2 n c2),x∈aP v'∨W.heap.size≤x):
 iq (w2.setCell ⟨p,0,none⟩ (.slice A2 n c2)) p (.slice A2 n c2) ⟨b1++l,e⟩∧ag (p::aP v') w (w2.setCell ⟨p,0,none⟩ (.slice A2 n c2))∧
  ∀ x∈aP (.slice A2 n c2),x∈aP v'∨w.heap.size≤x:=by
 have hp2:=hk.row (hW.row h.1 (by simp)) h.apart
 have hap:=hown.apart hp2 (by decide)
 have hn:n=(b1++l).length:=by have:=hown.1;simp only[List.length_map] at this;omega
 have hk2:ag (p::aP v') w w2:=(hW.more (T:=p::aP v') (by simp)).then hk (fun x hx=> .inl (by simp[hx]))
 refine⟨⟨hp2.set 0 _,?_⟩,hk2.setCell _ _ (.inl (by simp)),fun x hx=>(hloc x hx).imp id (fun h=>by have:=hW.size;omega)⟩
 rw[←hn]
 exact hown.keep ((ag.refl [p] w2).setCell _ _ (.inl (by simp))) (fun x hx hxp=>hap (by simp at hxp;rw[←hxp];exact hx))
theorem qM {w:World} {p:Nat} {v:Value} {s:WS} (h:iq w p v s) (x:Int):iq (w.setCell ⟨p,1,none⟩ (.int .i64 x)) p v ⟨s.b,x⟩:=
 ⟨h.1.set 1 _,h.2.keep ((ag.refl [p] w).setCell _ _ (.inl (by simp))) (fun x hx hxp=>h.apart (by simp at hxp;rw[←hxp];exact hx))⟩
theorem xM (w:World):
 Calls prog 51 #[] w fun e w'=>∃ p,e= .returned (.pointer (some ⟨p,0,none⟩))∧iq w' p (.slice none 0 0) ⟨[],0⟩∧w.heap.size≤p∧ag [] w w':=by
 go_enter func51,ntmps51
 go_wp2
 go_ret
 exact⟨w.heap.size,rfl,⟨aC.new _ _ _,cZ.nil _ _ _⟩,Nat.le_refl _,(ag.refl _ _).alloc _⟩
theorem sM (p:Nat) (v:Value) (s:WS) (A:Option Addr) (g c:Nat) (l:List UInt8) (w:World) (h:iq w p v s) (hs:dI w A g l) (hb:s.b.length+l.length≤140737488355328):
 Calls prog 81 #[.pointer (some ⟨p,0,none⟩),.slice A l.length c] w (nK p v (s.raw l) w):=by
 have hc0:w.cell? ⟨p,0,none⟩=some v:=h.1.cell 0
 have hc1:w.cell? ⟨p,1,none⟩=some (.int .i64 s.e):=h.1.cell 1
 have hf0:=h.1.free 0
 by_cases he:s.e=0
 ·have he':(s.e==0)=true:=by simp[he]
  have HE:=aa he
  obtain⟨sb,se⟩:=s
  simp only at he
  subst he
  have hfin:WS.raw ⟨sb,0⟩ l=⟨sb++l,0⟩:=by simp[WS.raw]
  have HFin:=aa hfin
  clear hfin
  obtain⟨i0,hi0,hz0,hz1,hz2⟩:=info_parts jV
  have HD:=aa h
  have hplt:=h.1.lt
  have HO:=aa (show cZ w 5 1 v sb.length (sb.map bv) from h.2)
  have hb':sb.length+l.length≤140737488355328:=hb
  have HS:=aa hs.reads
  go_enter func81,ntmps81
  go_wp2_with (first|(at_builtin;refine dH _ rfl (.tmp 14) (.tmp 15) 24 rfl 5 i0 (.int .u8 0) 1 1 underlying24 hi0 hz0 hz1 hz2 rfl (by decide) v sb.length _ (by simp[Act.eval]) HO.o A g l.length c _ (by simp[Act.eval]) HS.o (by intro u hu;simp at hu;obtain⟨b,_,rfl⟩:=hu;rfl) (by omega) (by unfold maxLen;omega) ?_;intro A2 c2 w2 hown2 hkb2 hloc2;have hW2:=hkb2.row HD.o.1 HD.o.apart;have hcell2:w2.cell? ⟨p,0,none⟩=some v:=hW2.cell 0;have hfree2:=hW2.free 0))
  go_ret
  have hst:=ou HD.o (ag.refl [] w) hkb2 (l:=l) (by rw[List.map_append];exact hown2) hloc2
  exact⟨rfl,_,by rw[HFin.o];exact hst.1,hst.2.1,hst.2.2⟩
 ·have hfin:s.raw l=s:=by
   unfold WS.raw
   rw[if_neg he]
  have he':(s.e==0)=false:=by simp[he]
  have HFin:=aa hfin
  clear hfin he
  go_enter func81,ntmps81
  go_wp2
  go_ret
  exact⟨rfl,v,by rw[HFin.o];exact h,ag.refl _ _,fun x hx=> .inl hx⟩
theorem rM (width n:Int) (w:World) (hw:nX width=true):
 Calls prog 123 #[.int .i64 width,.int .i64 n] w fun e w'=>e= .returned (.bool (eF width n))∧w=w':=by
 by_cases h0:0≤n
 ·by_cases hm:n≤9007199254740991
  ·have hm8:n≤(ku:Int):=by unfold ku;omega
   rcases fo hw with rfl|rfl|rfl|rfl
   ·have HF:=aa (show eF 1 n=decide (n<256) by simp[eF,h0])
    go_enter func123,ntmps123
    go_wp2
    go_ret
    exact⟨by rw[HF.o];rfl,rfl⟩
   ·have HF:=aa (show eF 2 n=decide (n<65536) by simp[eF,h0])
    go_enter func123,ntmps123
    go_wp2
    go_ret
    exact⟨by rw[HF.o];rfl,rfl⟩
   ·have HF:=aa (show eF 4 n=decide (n<4294967296) by simp[eF,h0])
    go_enter func123,ntmps123
    go_wp2
    go_ret
    exact⟨by rw[HF.o];rfl,rfl⟩
   ·have HF:=aa (show eF 8 n=true by simp[eF,h0,hm8])
    go_enter func123,ntmps123
    go_wp2
    go_ret
    exact⟨by rw[HF.o];rfl,rfl⟩
  ·have HF:=aa (show eF width n=false by
    rcases fo hw with rfl|rfl|rfl|rfl
    all_goals
     have: ¬n≤(ku:Int):=by unfold ku;omega
     simp[eF,this]
     try omega)
   go_enter func123,ntmps123
   go_wp2
   go_ret
   exact⟨by rw[HF.o];rfl,rfl⟩
 ·have HF:=aa (show eF width n=false by simp[eF,h0])
  go_enter func123,ntmps123
  go_wp2
  go_ret
  exact⟨by rw[HF.o];rfl,rfl⟩
def wL (s:WS) (w:World) (e:Ending) (w':World):Prop:=
 ∃ v,e= .returned (.tuple #[v,.int .i64 s.e])∧cZ w' 5 1 v s.bytes.length (s.bytes.map bv)∧(∀ x∈aP v,w.heap.size≤x)∧ag [] w w'
theorem wu (p:Nat) (v:Value) (s:WS) (w:World) (h:iq w p v s) (hb:s.b.length≤140737488355328):
 Calls prog 60 #[.pointer (some ⟨p,0,none⟩)] w (wL s w):=by
 have hc1:w.cell? ⟨p,1,none⟩=some (.int .i64 s.e):=h.1.cell 1
 have hc0:w.cell? ⟨p,0,none⟩=some v:=h.1.cell 0
 by_cases he:s.e=0
 ·have he':(s.e !=0)=false:=by simp[he]
  have HFin:=aa (show s.bytes=s.b by simp[WS.bytes,he])
  have HE:=aa he
  clear he
  obtain⟨A,c,g,rfl,_,_,hs,_⟩:=h.2.seen
  go_enter func60,ntmps60
  go_wp2_with fail
  refine (lh A g c s.b _ hs hb).mono ?_;rintro e w1 ⟨v1,rfl,ho1,hf1,hk1⟩
  go_wp2_with fail
  go_ret2
  exact⟨v1,by rw[HE.o];rfl,by rw[HFin.o];exact ho1,hf1,hk1⟩
 ·have he':(s.e !=0)=true:=by simp[he]
  have HFin:=aa (show s.bytes=[] by simp[WS.bytes,he])
  clear he
  go_enter func60,ntmps60
  go_wp2
  go_region
  all_goals
   try go_wp2
   go_ret2
   exact⟨.slice none 0 0,rfl,by rw[HFin.o];exact cZ.nil _ _ _,by simp[bI],(ag.refl _ _).drew⟩
def Df (p:Nat) (v:Value) (s:WS) (m k:Nat) (w:World) (i:Value) (wr:World):Prop:=
 ∃ (j:Nat) (a:Int) (v':Value),i= .int .i64 a∧a=(m:Int)-1-j∧j≤m∧iq wr p v' ⟨s.b++(aQ m k).take j,0⟩∧ag (p::aP v) w wr∧∀ x∈aP v',x∈aP v∨w.heap.size≤x
theorem Af (p:Nat) (v:Value) (s:WS) (width n:Int) (w:World) (h:iq w p v s) (hb:s.b.length≤1000000000):
 Calls prog 52 #[.pointer (some ⟨p,0,none⟩),.int .i64 width,.int .i64 n] w (nK p v (s.num width n) w):=by
 have hc1:w.cell? ⟨p,1,none⟩=some (.int .i64 s.e):=h.1.cell 1
 have hf1:=h.1.free 1
 by_cases he:s.e=0
 ·have he':(s.e !=0)=false:=by simp[he]
  have HE:=aa he
  clear he
  by_cases hw:nX width=true
  ·by_cases hfit:eF width n=true
   ·obtain⟨m,rfl⟩:∃ m:Nat,width=(m:Int):=⟨width.toNat,by rcases fo hw with h|h|h|h<;>omega⟩
    have hm:1≤m∧m≤8:=by rcases fo hw with h|h|h|h<;>omega
    obtain⟨k,rfl⟩:∃ k:Nat,n=(k:Int):=⟨n.toNat,by have:0≤n:=(by simp[eF] at hfit;exact hfit.1)
                                                 omega⟩
    have HFit:=aa hfit
    have HW:=aa hw
    clear hfit hw
    obtain⟨a0,ha0⟩:∃ a:Int,a=(m:Int)-1:=⟨_,rfl⟩
    have hA:IntKind.i64.wrap ((m:Int)-1)=a0:=by rw[ha0];exact bH _ (by omega) (by omega)
    go_enter func52,ntmps52
    go_wp2_with fail
    refine (lL _ _).mono ?_;rintro e w' ⟨rfl,rfl⟩
    rw[HW.o]
    go_wp2_with fail
    refine (rM _ _ _ HW.o).mono ?_;rintro e w' ⟨rfl,rfl⟩
    rw[HFit.o]
    go_wp2_with fail
    obtain⟨i0,hi0,hz0,hz1,hz2⟩:=info_parts jV
    go_loopw [7] (fun i wr=>Df p v s m k w i wr) (fun i _=>(intOf i+1).toNat)
    case atStart=>exact⟨0,_,v,rfl,by omega,by omega,by have:=HE.o;simp only[List.take_zero,List.append_nil,←this];exact h,ag.refl _ _,fun x hx=> .inl hx⟩
    case round=>
     obtain⟨j,b,v',rfl,hbj,hi,hwr,hkb,hhm⟩:=hrel
     have hcell0:wr.cell? ⟨p,0,none⟩=some v':=hwr.1.cell 0
     have hfree0:=hwr.1.free 0
     have hown:=hwr.2
     have hN:(s.b++(aQ m k).take j).length≤1000000008:=by
      have:=List.length_take_le j (aQ m k)
      rw[List.length_append];omega
     generalize hxs:(s.b++(aQ m k).take j).map bv=xs at hown
     generalize hnn:(s.b++(aQ m k).take j).length=N at hown hN
     have HXS:=aa (ah hxs hnn)
     clear hxs hnn
     by_cases hlt:j<m
     ·have HO:=aa hown
      clear hown
      have HD:=aa hwr
      clear hwr
      have hb0: ¬b<0:=by omega
      obtain⟨c,hc⟩:∃ c:Int,c=8*b:=⟨_,rfl⟩
      have hC:IntKind.i64.wrap (8*b)=c:=by rw[hc];exact bH _ (by omega) (by omega)
      have hc0:0≤c:=by omega
      have hb7:b≤7:=by omega
      have HH:=aa (ah hbj hc)
      clear hbj hc
      have hplt:=HD.o.1.lt
      go_wp2
      go_region_law (refine fA _ rfl (.tmp 18) (.tmp 24) 24 rfl 5 i0 (.int .u8 0) 1 1 underlying24 hi0 hz0 hz1 hz2 rfl (by decide) v' N xs (by simp[Act.eval]) (by first|exact (HO.o.alloc _)|exact HO.o.drew.alloc _|exact (HO.o.alloc _).drew) _ _ 1 1 _ (by simp[Act.eval]) (iT _ _ _) (by intro u hu;simp at hu;subst hu;rfl) (by omega) (by unfold maxLen;omega) ?_;intro A2 c2 w2 hown2 hkb2 hloc2;have hW2:=hkb2.row (by first|exact ((ag.refl [] wr).drew.alloc _).row HD.o.1 (by simp)|exact ((ag.refl [] wr).alloc _).drew.row HD.o.1 (by simp)) HD.o.apart;have hcell2:w2.cell? ⟨p,0,none⟩=some v':=hW2.cell 0;have hfree2:=hW2.free 0)
      all_goals
       obtain⟨hbj,hc3⟩:=HH.o
       have hbyte:=qI k (m-1-j) c (by omega) (by omega)
       have hx:=pQ m k j hlt
       rw[hbyte,←HXS.o.1] at hown2
       have hst:=ou HD.o (by first|exact (ag.refl [] wr).drew.alloc _|exact ((ag.refl [] wr).alloc _).drew) hkb2 (l:=[UInt8.ofNat (k/256^(m-1-j) % 256)]) (by rw[List.map_append];exact hown2) hloc2
       have hbs:s.b++(aQ m k).take j++[UInt8.ofNat (k/256^(m-1-j) % 256)]=s.b++(aQ m k).take (j+1):=by
        rw[List.take_add_one,hx,List.append_assoc];rfl
       rw[hbs] at hst
       have HST:=aa hst
       have hbj1:b-1=(m:Int)-1-((j+1:Nat):Int):=by omega
       have HBJ:=aa hbj1
       clear hst hown2 hbyte hx hbs hbj hbj1 hc3 hC hc0 hkb2 hloc2 hW2 hcell2 hfree2
       go_wp2
       go_roundw
       case rel=>exact⟨j+1,_,_,rfl,by rw[←HBJ.o],by omega,HST.o.1,hkb.then HST.o.2.1 (fun x hx=>by rcases List.mem_cons.1 hx with rfl|hx;exact .inl (by simp);exact (hhm x hx).imp (fun h=>by simp[h]) id),fun x hx=>by rcases HST.o.2.2 x hx with h|h;exact hhm x h;have:=hkb.size;exact .inr (by omega)⟩
       case measure=>simp[intOf];omega
     ·obtain rfl:j=m:=by omega
      have hb0:b<0:=by omega
      have hfin:s.num (j:Int) (k:Int)=⟨s.b++aQ j k,0⟩:=by
       unfold WS.num
       rw[if_pos HE.o,if_pos HW.o,if_pos HFit.o];rfl
      have hall:(aQ j k).take j=aQ j k:=List.take_of_length_le (by rw[jB];exact Nat.le_refl _)
      rw[hall] at hwr
      have HFin:=aa hfin
      clear hfin hall
      have HD:=aa hwr
      clear hwr hown
      go_wp2
      go_ret
      exact⟨rfl,v',by rw[HFin.o];exact HD.o,hkb,hhm⟩
   ·have HFin:=aa (show s.num width n=⟨s.b,9⟩ by
     unfold WS.num
     rw[if_pos HE.o,if_pos hw,if_neg hfit])
    have HF:=aa (show eF width n=false by simpa using hfit)
    have HW:=aa hw
    clear hfit hw
    go_enter func52,ntmps52
    go_wp2_with fail
    refine (lL _ _).mono ?_;rintro e w' ⟨rfl,rfl⟩
    rw[HW.o]
    go_wp2_with fail
    refine (rM _ _ _ HW.o).mono ?_;rintro e w' ⟨rfl,rfl⟩
    rw[HF.o]
    go_wp2_with fail
    go_ret
    exact⟨rfl,v,by rw[HFin.o];exact qM h 9,(ag.refl _ _).setCell _ _ (.inl (by simp)),fun x hx=> .inl hx⟩
  ·have HFin:=aa (show s.num width n=⟨s.b,2⟩ by
    unfold WS.num
    rw[if_pos HE.o,if_neg hw])
   have HW:=aa (show nX width=false by simpa using hw)
   clear hw
   go_enter func52,ntmps52
   go_wp2_with fail
   refine (lL _ _).mono ?_;rintro e w' ⟨rfl,rfl⟩
   rw[HW.o]
   go_wp2_with fail
   go_ret
   exact⟨rfl,v,by rw[HFin.o];exact qM h 2,(ag.refl _ _).setCell _ _ (.inl (by simp)),fun x hx=> .inl hx⟩
 ·have he':(s.e !=0)=true:=by simp[he]
  have HFin:=aa (show s.num width n=s by unfold WS.num;rw[if_neg he])
  clear he
  go_enter func52,ntmps52
  go_wp2
  go_ret
  exact⟨rfl,v,by rw[HFin.o];exact h,ag.refl _ _,fun x hx=> .inl hx⟩
theorem vL (w:World) (e:TypeId) (u:Value):cZ (w.alloc (.cells #[u] e)) e 1 (.slice (some ⟨w.heap.size,0,none⟩) 1 1) 1 [u]:=
 ⟨by simp,.inr ⟨w.heap.size,1,#[u],rfl,aC.new _ _ _,Nat.le_refl _,by simp[maxLen],by simp,by simp⟩⟩
def xh (n:Nat) (w:World) (e:Ending) (w':World):Prop:=
 ∃ v,e= .returned v∧cZ w' 5 1 v (cb n).length ((cb n).map bv)∧(∀ x∈aP v,w.heap.size≤x)∧ag [] w w'
def zf (N:Nat) (w:World) (n v:Value) (wr:World):Prop:=
 ∃ (k:Nat) (l:List UInt8),n= .int .i64 k∧k≤ku∧cZ wr 5 1 v l.length (l.map bv)∧(∀ x∈aP v,w.heap.size≤x)∧ag [] w wr∧cb N=jQ (k/128)++l
theorem xm (n:Nat) (hn:n≤ku) (w:World):Calls prog 125 #[.int .i64 (n:Int)] w (xh n w):=by
 obtain⟨i0,hi0,hz0,hz1,hz2⟩:=info_parts jV
 have hn':n≤9007199254740991:=hn
 go_enter func125,ntmps125
 go_wp2_with fail
 go_loopw [0,3] (fun a v wr=>zf n w a v wr) (fun a _ _=>(intOf a).toNat)
 case atStart=>
  refine⟨n,[UInt8.ofNat (n % 128)],rfl,hn,?_,by simp[bF],(ag.refl [] w).alloc _,by unfold cb;rfl⟩
  have hv:Value.int .u8 ((n:Int) % 128)=bv (UInt8.ofNat (n % 128)):=by
   unfold bv;rw[UInt8.toNat_ofNat'];congr 1;omega
  rw[hv]
  exact vL _ _ _
 case round=>
  obtain⟨k,l,rfl,hk,hown,hhm,hkb,hcb⟩:=hrel
  have hk':k≤9007199254740991:=hk
  by_cases h:128≤k
  ·have hl8:l.length≤8:=by
    have:=ko n hn
    rw[hcb,List.length_append] at this;omega
   have hcb2:cb n=jQ (k/128/128)++(UInt8.ofNat (128+k/128 % 128)::l):=by
    rw[hcb,lc (k/128) (by omega),List.append_assoc];rfl
   have HCB:=aa hcb2
   have hv:Value.int .u8 (128+(k:Int)/128 % 128)=bv (UInt8.ofNat (128+k/128 % 128)):=by
    unfold bv;rw[UInt8.toNat_ofNat'];congr 1;omega
   have HV:=aa hv
   obtain⟨A,c,g,rfl,hlc,hcm,hs,_⟩:=hown.seen
   have HS:=aa hs
   clear hcb hcb2 hv hs hown
   go_wp2_with (at_builtin;refine dH _ rfl (.tmp 16) (.tmp 17) 24 rfl 5 i0 (.int .u8 0) 1 1 underlying24 hi0 hz0 hz1 hz2 rfl (by decide) (.slice (some ⟨wr.heap.size,0,none⟩) 1 1) 1 _ (by simp[Act.eval]) (vL _ _ _) A g l.length c _ (by simp[Act.eval]) (HS.o.keep ((ag.refl [] wr).alloc _) (by simp)).reads (by intro u hu;simp at hu;obtain⟨b,_,rfl⟩:=hu;rfl) (by omega) (by unfold maxLen;omega) ?_;intro A2 c2 w2 hown2 hkb2 hloc2)
   rw[HV.o] at hown2
   have hw2:cZ w2 5 1 (.slice A2 (1+l.length) c2) (UInt8.ofNat (128+k/128 % 128)::l).length ((UInt8.ofNat (128+k/128 % 128)::l).map bv):=by
    rw[List.length_cons,List.map_cons,Nat.add_comm l.length 1];exact hown2
   have hks:=hkb.size
   go_roundw
   case rel=>exact⟨k/128,_,by go_num,by unfold ku;omega,hw2,fun x hx=>by
    rcases hloc2 x hx with h1|h1
    ·simp[bF] at h1;omega
    ·simp at h1;omega,(hkb.alloc _).then hkb2 (fun x hx=>by simp[bF] at hx;exact .inr (by omega)),HCB.o⟩
   case measure=>simp[intOf];omega
  ·go_wp2_with fail
   go_ret
   have hl:cb n=l:=by rw[hcb,show k/128=0 by omega,iP];rfl
   exact⟨_,rfl,by rw[hl];exact hown,hhm,hkb⟩
theorem lK (p:Nat) (v:Value) (s:WS) (n:Int) (w:World) (h:iq w p v s) (hb:s.b.length≤1000000000):
 Calls prog 54 #[.pointer (some ⟨p,0,none⟩),.int .i64 n] w (nK p v (s.count n) w):=by
 have hc1:w.cell? ⟨p,1,none⟩=some (.int .i64 s.e):=h.1.cell 1
 have hc0:w.cell? ⟨p,0,none⟩=some v:=h.1.cell 0
 have hf1:=h.1.free 1
 by_cases he:s.e=0
 ·have he':(s.e !=0)=false:=by simp[he]
  by_cases hr:n<0∨9007199254740991<n
  ·have HFin:=aa (show s.count n=⟨s.b,9⟩ by
    unfold WS.count
    rw[if_pos he,if_pos (hr.imp id (fun h=>by unfold ku;omega))])
   clear he
   rcases hr with hr|hr
   all_goals
    go_enter func54,ntmps54
    go_wp2_with fail
    go_ret
    exact⟨rfl,v,by rw[HFin.o];exact qM h 9,(ag.refl _ _).setCell _ _ (.inl (by simp)),fun x hx=> .inl hx⟩
  ·obtain⟨k,rfl⟩:∃ k:Nat,n=(k:Int):=⟨n.toNat,by omega⟩
   have hk:k≤ku:=by unfold ku;omega
   have hk':k≤9007199254740991:=hk
   have HFin:=aa (show s.count (k:Int)=⟨s.b++cb k,0⟩ by
    unfold WS.count
    rw[if_pos he,if_neg (by unfold ku;omega)];rfl)
   obtain⟨sb,se⟩:=s
   simp only at he
   subst he
   have hcl:=ko k hk
   obtain⟨i0,hi0,hz0,hz1,hz2⟩:=info_parts jV
   have hd:=h.keep ((ag.refl [] w).drew) (by simp) (by simp)
   have hd0:w.drew.cell? ⟨p,0,none⟩=some v:=hd.1.cell 0
   have hb':sb.length≤1000000000:=hb
   clear hr hb
   go_enter func54,ntmps54
   go_upto_region 1 with fail
   go_region_law
    (first
      |(refine fA _ rfl (.tmp 9) (.tmp 11) 24 rfl 5 i0 (.int .u8 0) 1 1 underlying24 hi0 hz0 hz1 hz2 rfl (by decide) v sb.length _ (by simp[Act.eval]) hr1.2 A1 g1 (cb k).length c1 _ (by simp[Act.eval]) hs1.reads (by intro u hu;simp at hu;obtain⟨b,_,rfl⟩:=hu;rfl) (by omega) (by unfold maxLen;omega) ?_;intro A2 c2 w2 hown2 hkb2 hloc2;have hW2:=hkb2.row hr1.1 hr1.apart;have hcell2:w2.cell? ⟨p,0,none⟩=some v:=hW2.cell 0;have hfree2:=hW2.free 0)
      |(go_simp;go_at_call 125;refine (xm k hk _).mono ?_;rintro e w1 ⟨v1,rfl,ho1,hf1',hk1⟩;have hr1:=hd.keep hk1 (by simp) (by simp);have hr10:w1.cell? ⟨p,0,none⟩=some v:=hr1.1.cell 0;obtain⟨A1,c1,g1,rfl,_,_,hs1,hin1⟩:=ho1.seen))
   all_goals
    have hk0:ag [] w w1:=((ag.refl [] w).drew).then hk1 (by simp)
    have hst:=ou hr1 (ag.refl [] w1) hkb2 (l:=cb k) (by rw[List.map_append];exact hown2) hloc2
    have hsz:=hk0.size
    clear hown2 hkb2 hloc2 hW2 hcell2 hfree2 hd hd0 hr10 hs1 hin1 ho1
    go_wp2
    go_ret
    exact⟨rfl,_,by rw[HFin.o];exact hst.1,(hk0.more (T:=p::aP v) (by simp)).then hst.2.1 (fun x hx=> .inl hx),fun x hx=>(hst.2.2 x hx).imp id (fun h=>by omega)⟩
 ·have he':(s.e !=0)=true:=by simp[he]
  have HFin:=aa (show s.count n=s by unfold WS.count;rw[if_neg he])
  clear he
  go_enter func54,ntmps54
  go_wp2
  go_ret
  exact⟨rfl,v,by rw[HFin.o];exact h,ag.refl _ _,fun x hx=> .inl hx⟩
theorem mK (p:Nat) (v:Value) (s:WS) (A:Option Addr) (g c:Nat) (l:List UInt8) (w:World) (h:iq w p v s) (hs:dI w A g l) (hg:l≠[]→g≠p∧g∉aP v) (hb:s.b.length≤1000000000) (hb2:l.length≤1000000000):
 Calls prog 58 #[.pointer (some ⟨p,0,none⟩),.slice A l.length c] w (nK p v (s.text l) w):=by
 have hcb:=pY s (l.length:Int)
 go_enter func58,ntmps58
 go_wp2_with (first|(go_at_call 54;refine (lK p v s _ _ h hb).mono ?_;rintro e w1 ⟨rfl,v1,hw1,hk1,hl1⟩)|(go_at_call 81;refine (sM p _ _ A g c l _ (by assumption) (hs.keep (by assumption) (fun hl hm=>by rcases List.mem_cons.1 hm with h1|h1;exact (hg hl).1 h1;exact (hg hl).2 h1)) (by omega)).mono ?_;rintro e w2 ⟨rfl,v2,hw2,hk2,hl2⟩))
 go_ret
 exact⟨rfl,v2,hw2,hk1.then hk2 (fun x hx=>by rcases List.mem_cons.1 hx with rfl|hx;exact .inl (by simp);exact (hl1 x hx).imp (fun h=>by simp[h]) id),fun x hx=>by rcases hl2 x hx with h|h;exact hl1 x h;have:=hk1.size;exact .inr (by omega)⟩
def eH (w0 w:World) (p:Nat) (l:List UInt8):Prop:=
 ∃ v,iq w p v ⟨l,0⟩∧w0.heap.size≤p∧(∀ x∈aP v,w0.heap.size≤x)∧ag [] w0 w
theorem eH.kept {w0 w:World} {p:Nat} {l:List UInt8} (h:eH w0 w p l):ag [] w0 w:=by obtain⟨v,_,_,_,h⟩:=h;exact h
theorem eH.lt {w0 w:World} {p:Nat} {l:List UInt8} (h:eH w0 w p l):p<w.heap.size:=by obtain⟨v,h,_⟩:=h;exact h.1.lt
theorem eH.over {w0 w w':World} {p:Nat} {l:List UInt8} (h:eH w0 w p l) (hk:ag [] w w'):eH w0 w' p l:=by
 obtain⟨v,h1,h2,h3,h4⟩:=h
 exact⟨v,h1.keep hk (by simp) (by simp),h2,h3,h4.then hk (by simp)⟩
theorem eH.step {w0 w w':World} {p:Nat} {l m:List UInt8} {v:Value} {e:Ending} (h:iq w p v ⟨l,0⟩) (h1:w0.heap.size≤p) (h2:∀ x∈aP v,w0.heap.size≤x) (h3:ag [] w0 w) (hp:nK p v ⟨m,0⟩ w e w'):
 e= .returned (.pointer (some ⟨p,0,none⟩))∧eH w0 w' p m:=by
 obtain⟨he,v',hw,hk,hh⟩:=hp
 refine⟨he,v',hw,h1,fun x hx=> ?_,h3.then hk (fun x hx=> .inr ?_)⟩
 ·rcases hh x hx with q|q
  ·exact h2 x q
  ·have:=h3.size;omega
 ·rcases List.mem_cons.1 hx with rfl|hx
  ·exact h1
  ·exact h2 x hx
def lW (w0:World) (p:Nat) (l:List UInt8) (e:Ending) (w':World):Prop:=e= .returned (.pointer (some ⟨p,0,none⟩))∧eH w0 w' p l
theorem eH.start {w0:World}:Calls prog 51 #[] w0 fun e w'=>∃ p,e= .returned (.pointer (some ⟨p,0,none⟩))∧eH w0 w' p []:=
 (xM w0).mono fun e w' ⟨p,he,h1,h2,h3⟩=>⟨p,he,_,h1,h2,by simp[bI],h3⟩
theorem eH.num {w0 w:World} {p:Nat} {l:List UInt8} (h:eH w0 w p l) (n:Int) (h0:0≤n) (h1:n<256) (hb:l.length≤1000000000):
 Calls prog 52 #[.pointer (some ⟨p,0,none⟩),.int .i64 1,.int .i64 n] w (lW w0 p (l++aQ 1 n.toNat)):=by
 obtain⟨v,a,b,c,d⟩:=h
 refine (Af p v _ 1 n w a hb).mono fun e w' hp=> ?_
 rw[yz l h0 h1] at hp
 exact eH.step a b c d hp
theorem eH.count {w0 w:World} {p:Nat} {l:List UInt8} (h:eH w0 w p l) (n:Int) (h0:0≤n) (h1:n≤9007199254740991) (hb:l.length≤1000000000):
 Calls prog 54 #[.pointer (some ⟨p,0,none⟩),.int .i64 n] w (lW w0 p (l++cb n.toNat)):=by
 obtain⟨v,a,b,c,d⟩:=h
 refine (lK p v _ n w a hb).mono fun e w' hp=> ?_
 rw[lN l h0 h1] at hp
 exact eH.step a b c d hp
theorem eH.raw {w0 w:World} {p:Nat} {l:List UInt8} (h:eH w0 w p l) (A:Option Addr) (g n c:Nat) (t:List UInt8) (hn:t.length=n) (hs:dI w A g t) (hb:l.length≤1000000000) (hb2:t.length≤1000000000):
 Calls prog 81 #[.pointer (some ⟨p,0,none⟩),.slice A n c] w (lW w0 p (l++t)):=by
 subst hn
 obtain⟨v,a,b,d,k⟩:=h
 refine (sM p v _ A g c t w a hs (show l.length+t.length≤_ by omega)).mono fun e w' hp=> ?_
 rw[xN] at hp
 exact eH.step a b d k hp
theorem eH.text {w0 w:World} {p:Nat} {l:List UInt8} (h:eH w0 w p l) (A:Option Addr) (g n c:Nat) (t:List UInt8) (hn:t.length=n) (hs:dI w0 A g t) (hb:l.length≤1000000000) (hb2:t.length≤1000000000):
 Calls prog 58 #[.pointer (some ⟨p,0,none⟩),.slice A n c] w (lW w0 p ((l++cb t.length)++t)):=by
 subst hn
 obtain⟨v,a,b,d,k⟩:=h
 have hg:t≠[]→g<w0.heap.size:=fun hne=>by obtain⟨o,_,h2,_⟩:=hs hne;exact h2
 refine (mK p v _ A g c t w a (hs.keep k (by simp)) (fun hne=>⟨fun e=>by have:=hg hne;omega,fun hm=>by have:=hg hne;have:=d g hm;omega⟩) hb hb2).mono fun e w' hp=> ?_
 rw[nL l t hb2] at hp
 exact eH.step a b d k hp
theorem eH.textNew {w0 wb w:World} {p:Nat} {l:List UInt8} (h:eH w0 wb p l) (hk:ag [] wb w) (A:Option Addr) (g n c:Nat) (t:List UInt8) (hn:t.length=n) (hs:dI w A g t) (hg:t≠[]→wb.heap.size≤g) (hb:l.length≤1000000000) (hb2:t.length≤1000000000):
 Calls prog 58 #[.pointer (some ⟨p,0,none⟩),.slice A n c] w (lW w0 p ((l++cb t.length)++t)):=by
 subst hn
 obtain⟨v,a,b,d,k⟩:=h
 have hp1:=a.1.lt
 have hp2:=a.2.lt
 refine (mK p v _ A g c t w (a.keep hk (by simp) (by simp)) hs (fun hne=>⟨fun e=>by have:=hg hne;omega,fun hm=>by have:=hg hne;have:=hp2 g hm;omega⟩) hb hb2).mono fun e w' hp=> ?_
 rw[nL l t hb2] at hp
 exact eH.step (a.keep hk (by simp) (by simp)) b d (k.then hk (by simp)) hp
theorem eH.bytes {w0 w:World} {p:Nat} {l:List UInt8} (h:eH w0 w p l) (hb:l.length≤1000000000):
 Calls prog 60 #[.pointer (some ⟨p,0,none⟩)] w (iE w0 l):=by
 obtain⟨v,a,b,d,k⟩:=h
 refine (wu p v _ w a (show l.length≤_ by omega)).mono fun e w' hp=> ?_
 obtain⟨v',he,h1,h2,h3⟩:=hp
 have hl:(WS.mk l 0).bytes=l:=by simp[WS.bytes]
 rw[hl] at h1
 obtain⟨A3,c3,e3,h31,h32,h33,h34⟩:=h1.form
 subst e3
 obtain⟨g3,hg3⟩:=dA (.slice A3 l.length c3)
 have hks:=k.size
 refine⟨_,aP (.slice A3 l.length c3),he,⟨A3,c3,g3,rfl,h31,h32,eG.seenB (h34 g3 hg3),fun hne=> ?_⟩,fun y hy=>⟨by have:=h2 y hy;omega,h33 y hy⟩,k.then h3 (by simp)⟩
 obtain⟨o,hA,_⟩:=(h34 g3 hg3).2 (List.length_pos_iff.2 hne)
 rw[hA];simp[bF]
theorem sW (F:List Nat) (r:RQ) (ev:Value) (w:World) (h:l5 w F r ev) (hok:r.ok=false):
 Calls prog 15 #[.agg (bE r ev).toArray] w fun e w'=>e= .returned (.tuple #[.slice none 0 0,.int .i64 2])∧ag [] w w':=by
 have hsz:(bE r ev).length=37:=bB h.1
 have k1:=(ag.refl [] w).alloc (.cells (bE r ev).toArray 26)
 have r1:=aC.new w 26 (bE r ev).toArray
 obtain⟨w1,hw1⟩:∃ w1,w.alloc (.cells (bE r ev).toArray 26)=w1:=⟨_,rfl⟩
 rw[hw1] at k1 r1
 have h1:l5 w1 F r ev:=⟨h.1,h.2.keep k1 (by simp)⟩
 have hI:(prog.info? 26).map (·.size)=some (bE r ev).length:=by rw[hsz];exact bN
 have HS:=aa (ah r1.rangeAll (ah hI (ah k1 h1)))
 have HW:=aa hw1
 clear hsz k1 r1 hw1 h1 hI h
 go_enter func15,ntmps15
 go_upto_region 1 with (with_reducible refine aJ _ rfl 26 (.tmp 0) rfl _ rfl ?_)
 rw[HW.o]
 go_upto_region 2 with (first
  |(refine wpList_load_mid rfl 26 (.tmp 1) rfl w.heap.size 0 rfl (bE r ev) _ HS.o.1 underlying26 rfl HS.o.2.1 ?_)
  |(go_at_call 80;refine (lV F r ev _ HS.o.2.2.2).mono ?_;rintro e w2 ⟨rfl,kk⟩;rw[hok];have K2:=aa (HS.o.2.2.1.then kk (by simp));clear kk))
 go_wp2_with fail
 go_ret2
 exact⟨rfl,K2.o⟩
theorem mf (F:List Nat) (r:RQ) (ev:Value) (w:World) (h:l5 w F r ev) (hok:r.ok=true):
 Calls prog 15 #[.agg (bE r ev).toArray] w (iE w (iL r)):=by
 have hsz:(bE r ev).length=37:=bB h.1
 have hf:=r.ok_facts hok
 have hnl:=h.1
 have k1:=(ag.refl [] w).alloc (.cells (bE r ev).toArray 26)
 have r1:=aC.new w 26 (bE r ev).toArray
 obtain⟨w1,hw1⟩:∃ w1,w.alloc (.cells (bE r ev).toArray 26)=w1:=⟨_,rfl⟩
 rw[hw1] at k1 r1
 have h1:l5 w1 F r ev:=⟨h.1,h.2.keep k1 (by simp)⟩
 have hI:(prog.info? 26).map (·.size)=some (bE r ev).length:=by rw[hsz];exact bN
 have HS:=aa (ah r1.rangeAll (ah hI (ah k1 h1)))
 have HW:=aa hw1
 have HR1:=aa r1
 clear hsz k1 r1 hw1 h1 hI
 obtain⟨_,A,c,g,rfl,_,_,hsn,_⟩:=h
 have HF:=aa hf
 have HN:=aa hnl
 have HSN:=aa hsn
 clear hf hnl hsn
 go_enter func15,ntmps15
 go_upto_region 1 with (with_reducible refine aJ _ rfl 26 (.tmp 0) rfl _ rfl ?_)
 rw[HW.o]
 go_upto_region 2 with (first
  |(refine wpList_load_mid rfl 26 (.tmp 1) rfl w.heap.size 0 rfl (bE r _) _ HS.o.1 underlying26 rfl HS.o.2.1 ?_)
  |(go_at_call 80;refine (lV F r _ _ HS.o.2.2.2).mono ?_;rintro e w2 ⟨rfl,kk⟩;rw[hok];have r2:=kk.row HR1.o (by simp);have K2:=aa (HS.o.2.2.1.then kk (by simp));clear kk))
 obtain⟨tb,htb⟩:∃ tb,w.heap.size=tb:=⟨_,rfl⟩
 have hsn2:dI w2 A g r.env:=HSN.o.keep K2.o (by simp)
 have hsnn:dI w2.drew (some ⟨tb,4,none⟩) tb r.name:=fun hne=>⟨4,rfl,by rw[←htb];exact r2.lt,fun j b hb=>by
  refine (r2.cell' htb (4+j)).trans ?_
  exact je r _ j (bv b) (by unfold aT;rw[List.getElem?_map,hb];rfl)⟩
 rw[htb] at r2 ⊢
 have z0:w2.drew.cell? ⟨tb,0,none⟩=some (.int .i64 r.client):=r2.cell 0
 have z1:w2.drew.cell? ⟨tb,1,none⟩=some (.int .i64 r.num):=r2.cell 1
 have z2:w2.drew.cell? ⟨tb,2,none⟩=some (.int .i64 r.kind):=r2.cell 2
 have z3:w2.drew.cell? ⟨tb,3,none⟩=some (.int .i64 r.version):=r2.cell 3
 have ze:w2.drew.cell? ⟨tb,36,none⟩=some (.slice A r.env.length c):=(r2.cell 36).trans (gq HN.o)
 have Z:aH (∀ w',ag [] w2.drew w'→(w'.cell? ⟨tb,0,none⟩=some (.int .i64 r.client)∧w'.cell? ⟨tb,1,none⟩=some (.int .i64 r.num)∧w'.cell? ⟨tb,2,none⟩=some (.int .i64 r.kind)∧w'.cell? ⟨tb,3,none⟩=some (.int .i64 r.version)∧w'.cell? ⟨tb,36,none⟩=some (.slice A r.env.length c))):=aa (fun w' k=>⟨(k.cell (p:=⟨tb,0,none⟩) r2.lt (by simp)).trans z0,(k.cell (p:=⟨tb,1,none⟩) r2.lt (by simp)).trans z1,(k.cell (p:=⟨tb,2,none⟩) r2.lt (by simp)).trans z2,(k.cell (p:=⟨tb,3,none⟩) r2.lt (by simp)).trans z3,(k.cell (p:=⟨tb,36,none⟩) r2.lt (by simp)).trans ze⟩)
 have Z0:=Z.o _ (ag.refl [] w2.drew)
 have HSE:=aa (ah (show dI w2.drew A g r.env from hsn2) hsnn)
 have KD:=aa (K2.o.then ((ag.refl [] w2).drew) (by simp))
 clear hsn2 hsnn r2 z0 z1 z2 z3 ze
 have HC:=aa (ah (mQ (n:=r.num) (by have:=HF.o;omega)) (ah (mQ (n:=r.version) (by have:=HF.o;omega)) (mQ (n:=(r.env.length:Int)) (by have:=HF.o;omega))))
 have HL1:aH (([]:List UInt8).length≤1000000000):=aa (by have h1:=HC.o;have h2:=HF.o;have h3:=HN.o;simp only[List.length_append,jq,List.length_nil,Int.toNat_natCast] at h1 ⊢;omega)
 have HL2:aH ((([]:List UInt8)++aQ 1 r.client.toNat).length≤1000000000):=aa (by have h1:=HC.o;have h2:=HF.o;have h3:=HN.o;simp only[List.length_append,jq,List.length_nil,Int.toNat_natCast] at h1 ⊢;omega)
 have HL3:aH (((([]:List UInt8)++aQ 1 r.client.toNat)++cb r.num.toNat).length≤1000000000):=aa (by have h1:=HC.o;have h2:=HF.o;have h3:=HN.o;simp only[List.length_append,jq,List.length_nil,Int.toNat_natCast] at h1 ⊢;omega)
 have HL4:aH ((((([]:List UInt8)++aQ 1 r.client.toNat)++cb r.num.toNat)++aQ 1 r.kind.toNat).length≤1000000000):=aa (by have h1:=HC.o;have h2:=HF.o;have h3:=HN.o;simp only[List.length_append,jq,List.length_nil,Int.toNat_natCast] at h1 ⊢;omega)
 have HL5:aH (((((([]:List UInt8)++aQ 1 r.client.toNat)++cb r.num.toNat)++aQ 1 r.kind.toNat)++cb r.version.toNat).length≤1000000000):=aa (by have h1:=HC.o;have h2:=HF.o;have h3:=HN.o;simp only[List.length_append,jq,List.length_nil,Int.toNat_natCast] at h1 ⊢;omega)
 have HL6:aH ((((((([]:List UInt8)++aQ 1 r.client.toNat)++cb r.num.toNat)++aQ 1 r.kind.toNat)++cb r.version.toNat)++r.name).length≤1000000000):=aa (by have h1:=HC.o;have h2:=HF.o;have h3:=HN.o;simp only[List.length_append,jq,List.length_nil,Int.toNat_natCast] at h1 ⊢;omega)
 have HL7:aH ((((((((([]:List UInt8)++aQ 1 r.client.toNat)++cb r.num.toNat)++aQ 1 r.kind.toNat)++cb r.version.toNat)++r.name)++cb r.env.length)++r.env).length≤1000000000):=aa (by have h1:=HC.o;have h2:=HF.o;have h3:=HN.o;simp only[List.length_append,jq,List.length_nil,Int.toNat_natCast] at h1 ⊢;omega)
 go_upto_region 4 with fail
 go_region_held3 (fun w'=>w'.cell? ⟨tb,0,none⟩=some (.int .i64 r.client)∧w'.cell? ⟨tb,1,none⟩=some (.int .i64 r.num)∧w'.cell? ⟨tb,2,none⟩=some (.int .i64 r.kind)∧w'.cell? ⟨tb,3,none⟩=some (.int .i64 r.version)∧w'.cell? ⟨tb,36,none⟩=some (.slice A r.env.length c)) (first|exact Z0|exact Y0|exact Y1|exact Y2|exact Y3|exact Y4|exact Y5|exact Y6|exact YZ)
  (first
    |(go_at_call 51;refine eH.start.mono ?_;rintro e v0 ⟨p,rfl,o0⟩;have O0:=aa o0;have Y0:=Z.o _ o0.kept;clear o0)
    |(go_at_call 52;(with_reducible refine (O0.o.num r.client (by have:=HF.o;omega) (by have:=HF.o;omega) HL1.o).mono ?_);rintro e v1 ⟨rfl,o1⟩;have O1:=aa o1;have Y1:=Z.o _ o1.kept;clear o1)
    |(go_at_call 54;(with_reducible refine (O1.o.count r.num (by have:=HF.o;omega) (by have:=HF.o;omega) HL2.o).mono ?_);rintro e v2 ⟨rfl,o2⟩;have O2:=aa o2;have Y2:=Z.o _ o2.kept;clear o2)
    |(go_at_call 52;(with_reducible refine (O2.o.num r.kind (by have:=HF.o;omega) (by have:=HF.o;omega) HL3.o).mono ?_);rintro e v3 ⟨rfl,o3⟩;have O3:=aa o3;have Y3:=Z.o _ o3.kept;clear o3)
    |(go_at_call 54;(with_reducible refine (O3.o.count r.version (by have:=HF.o;omega) (by have:=HF.o;omega) HL4.o).mono ?_);rintro e v4 ⟨rfl,o4⟩;have O4:=aa o4;have Y4:=Z.o _ o4.kept;clear o4)
    |(go_at_call 81;(with_reducible refine (O4.o.raw _ tb 32 32 r.name HN.o (HSE.o.2.keep O4.o.kept (by simp)) HL5.o (by rw[HN.o];omega)).mono ?_);rintro e v5 ⟨rfl,o5⟩;have O5:=aa o5;have Y5:=Z.o _ o5.kept;clear o5)
    |(go_at_call 58;(with_reducible refine (O5.o.text A g r.env.length c r.env rfl HSE.o.1 HL6.o (by have:=HF.o;omega)).mono ?_);rintro e v6 ⟨rfl,o6⟩;have O6:=aa o6;have Y6:=Z.o _ o6.kept;clear o6)
    |(go_at_call 60;(with_reducible refine (O6.o.bytes HL7.o).mono ?_);rintro e vz ⟨u,G,rfl,ub,un,uk⟩;have OZ:=aa (ah ub (ah un uk));have YZ:=Z.o _ uk;clear ub un uk))
 go_wp2_with fail
 go_ret2
 exact⟨_,G,rfl,OZ.o.1,fun y hy=>⟨by have h1:=(OZ.o.2.1 y hy).1;have h2:=KD.o.size;omega,(OZ.o.2.1 y hy).2⟩,KD.o.then OZ.o.2.2 (by simp)⟩
theorem sU (F:List Nat) (r:AN) (ev:Value) (w:World) (h:mM w F r ev) (hok:r.ok=false):
 Calls prog 17 #[.agg (bK r ev).toArray] w fun e w'=>e= .returned (.tuple #[.slice none 0 0,.int .i64 2])∧ag [] w w':=by
 have hsz:(bK r ev).length=38:=bL h.1
 have k1:=(ag.refl [] w).alloc (.cells (bK r ev).toArray 28)
 have r1:=aC.new w 28 (bK r ev).toArray
 obtain⟨w1,hw1⟩:∃ w1,w.alloc (.cells (bK r ev).toArray 28)=w1:=⟨_,rfl⟩
 rw[hw1] at k1 r1
 have h1:mM w1 F r ev:=⟨h.1,h.2.keep k1 (by simp)⟩
 have hI:(prog.info? 28).map (·.size)=some (bK r ev).length:=by rw[hsz];exact bR
 have HS:=aa (ah r1.rangeAll (ah hI (ah k1 h1)))
 have HW:=aa hw1
 clear hsz k1 r1 hw1 h1 hI h
 go_enter func17,ntmps17
 go_upto_region 1 with (with_reducible refine aJ _ rfl 28 (.tmp 0) rfl _ rfl ?_)
 rw[HW.o]
 go_upto_region 2 with (first
  |(refine wpList_load_mid rfl 28 (.tmp 1) rfl w.heap.size 0 rfl (bK r ev) _ HS.o.1 underlying28 rfl HS.o.2.1 ?_)
  |(go_at_call 82;refine (lU F r ev _ HS.o.2.2.2).mono ?_;rintro e w2 ⟨rfl,kk⟩;rw[hok];have K2:=aa (HS.o.2.2.1.then kk (by simp));clear kk))
 go_wp2_with fail
 go_ret2
 exact⟨rfl,K2.o⟩
theorem ma (F:List Nat) (r:AN) (ev:Value) (w:World) (h:mM w F r ev) (hok:r.ok=true):
 Calls prog 17 #[.agg (bK r ev).toArray] w (iE w (iH r)):=by
 have hsz:(bK r ev).length=38:=bL h.1
 have hf:=r.ok_facts hok
 have hnl:=h.1
 have k1:=(ag.refl [] w).alloc (.cells (bK r ev).toArray 28)
 have r1:=aC.new w 28 (bK r ev).toArray
 obtain⟨w1,hw1⟩:∃ w1,w.alloc (.cells (bK r ev).toArray 28)=w1:=⟨_,rfl⟩
 rw[hw1] at k1 r1
 have h1:mM w1 F r ev:=⟨h.1,h.2.keep k1 (by simp)⟩
 have hI:(prog.info? 28).map (·.size)=some (bK r ev).length:=by rw[hsz];exact bR
 have HS:=aa (ah r1.rangeAll (ah hI (ah k1 h1)))
 have HW:=aa hw1
 have HR1:=aa r1
 clear hsz k1 r1 hw1 h1 hI
 obtain⟨_,A,c,g,rfl,_,_,hsn,_⟩:=h
 have HF:=aa hf
 have HN:=aa hnl
 have HSN:=aa hsn
 clear hf hnl hsn
 go_enter func17,ntmps17
 go_upto_region 1 with (with_reducible refine aJ _ rfl 28 (.tmp 0) rfl _ rfl ?_)
 rw[HW.o]
 go_upto_region 2 with (first
  |(refine wpList_load_mid rfl 28 (.tmp 1) rfl w.heap.size 0 rfl (bK r _) _ HS.o.1 underlying28 rfl HS.o.2.1 ?_)
  |(go_at_call 82;refine (lU F r _ _ HS.o.2.2.2).mono ?_;rintro e w2 ⟨rfl,kk⟩;rw[hok];have r2:=kk.row HR1.o (by simp);have K2:=aa (HS.o.2.2.1.then kk (by simp));clear kk))
 obtain⟨tb,htb⟩:∃ tb,w.heap.size=tb:=⟨_,rfl⟩
 have hsn2:dI w2 A g r.env:=HSN.o.keep K2.o (by simp)
 have hsnn:dI w2.drew (some ⟨tb,5,none⟩) tb r.name:=fun hne=>⟨5,rfl,by rw[←htb];exact r2.lt,fun j b hb=>by
  refine (r2.cell' htb (5+j)).trans ?_
  exact kg r _ j (bv b) (by unfold aT;rw[List.getElem?_map,hb];rfl)⟩
 rw[htb] at r2 ⊢
 have z0:w2.drew.cell? ⟨tb,0,none⟩=some (.int .i64 r.client):=r2.cell 0
 have z1:w2.drew.cell? ⟨tb,1,none⟩=some (.int .i64 r.num):=r2.cell 1
 have z2:w2.drew.cell? ⟨tb,2,none⟩=some (.int .i64 r.code):=r2.cell 2
 have z3:w2.drew.cell? ⟨tb,3,none⟩=some (.int .i64 r.version):=r2.cell 3
 have z4:w2.drew.cell? ⟨tb,4,none⟩=some (.int .i64 r.epoch):=r2.cell 4
 have ze:w2.drew.cell? ⟨tb,37,none⟩=some (.slice A r.env.length c):=(r2.cell 37).trans (gp HN.o)
 have Z:aH (∀ w',ag [] w2.drew w'→(w'.cell? ⟨tb,0,none⟩=some (.int .i64 r.client)∧w'.cell? ⟨tb,1,none⟩=some (.int .i64 r.num)∧w'.cell? ⟨tb,2,none⟩=some (.int .i64 r.code)∧w'.cell? ⟨tb,3,none⟩=some (.int .i64 r.version)∧w'.cell? ⟨tb,4,none⟩=some (.int .i64 r.epoch)∧w'.cell? ⟨tb,37,none⟩=some (.slice A r.env.length c))):=aa (fun w' k=>⟨(k.cell (p:=⟨tb,0,none⟩) r2.lt (by simp)).trans z0,(k.cell (p:=⟨tb,1,none⟩) r2.lt (by simp)).trans z1,(k.cell (p:=⟨tb,2,none⟩) r2.lt (by simp)).trans z2,(k.cell (p:=⟨tb,3,none⟩) r2.lt (by simp)).trans z3,(k.cell (p:=⟨tb,4,none⟩) r2.lt (by simp)).trans z4,(k.cell (p:=⟨tb,37,none⟩) r2.lt (by simp)).trans ze⟩)
 have Z0:=Z.o _ (ag.refl [] w2.drew)
 have HSE:=aa (ah (show dI w2.drew A g r.env from hsn2) hsnn)
 have KD:=aa (K2.o.then ((ag.refl [] w2).drew) (by simp))
 clear hsn2 hsnn r2 z0 z1 z2 z3 z4 ze
 have HC:=aa (ah (mQ (n:=r.num) (by have:=HF.o;omega)) (ah (mQ (n:=r.version) (by have:=HF.o;omega)) (mQ (n:=(r.env.length:Int)) (by have:=HF.o;omega))))
 have HL1:aH (([]:List UInt8).length≤1000000000):=aa (by have h1:=HC.o;have h2:=HF.o;have h3:=HN.o;simp only[List.length_append,jq,List.length_nil,Int.toNat_natCast] at h1 ⊢;omega)
 have HL2:aH ((([]:List UInt8)++aQ 1 r.client.toNat).length≤1000000000):=aa (by have h1:=HC.o;have h2:=HF.o;have h3:=HN.o;simp only[List.length_append,jq,List.length_nil,Int.toNat_natCast] at h1 ⊢;omega)
 have HL3:aH (((([]:List UInt8)++aQ 1 r.client.toNat)++cb r.num.toNat).length≤1000000000):=aa (by have h1:=HC.o;have h2:=HF.o;have h3:=HN.o;simp only[List.length_append,jq,List.length_nil,Int.toNat_natCast] at h1 ⊢;omega)
 have HL4:aH ((((([]:List UInt8)++aQ 1 r.client.toNat)++cb r.num.toNat)++aQ 1 r.code.toNat).length≤1000000000):=aa (by have h1:=HC.o;have h2:=HF.o;have h3:=HN.o;simp only[List.length_append,jq,List.length_nil,Int.toNat_natCast] at h1 ⊢;omega)
 have HL5:aH (((((([]:List UInt8)++aQ 1 r.client.toNat)++cb r.num.toNat)++aQ 1 r.code.toNat)++cb r.version.toNat).length≤1000000000):=aa (by have h1:=HC.o;have h2:=HF.o;have h3:=HN.o;simp only[List.length_append,jq,List.length_nil,Int.toNat_natCast] at h1 ⊢;omega)
 have HL6:aH ((((((([]:List UInt8)++aQ 1 r.client.toNat)++cb r.num.toNat)++aQ 1 r.code.toNat)++cb r.version.toNat)++aQ 1 r.epoch.toNat).length≤1000000000):=aa (by have h1:=HC.o;have h2:=HF.o;have h3:=HN.o;simp only[List.length_append,jq,List.length_nil,Int.toNat_natCast] at h1 ⊢;omega)
 have HL7:aH (((((((([]:List UInt8)++aQ 1 r.client.toNat)++cb r.num.toNat)++aQ 1 r.code.toNat)++cb r.version.toNat)++aQ 1 r.epoch.toNat)++r.name).length≤1000000000):=aa (by have h1:=HC.o;have h2:=HF.o;have h3:=HN.o;simp only[List.length_append,jq,List.length_nil,Int.toNat_natCast] at h1 ⊢;omega)
 have HL8:aH (((((((((([]:List UInt8)++aQ 1 r.client.toNat)++cb r.num.toNat)++aQ 1 r.code.toNat)++cb r.version.toNat)++aQ 1 r.epoch.toNat)++r.name)++cb r.env.length)++r.env).length≤1000000000):=aa (by have h1:=HC.o;have h2:=HF.o;have h3:=HN.o;simp only[List.length_append,jq,List.length_nil,Int.toNat_natCast] at h1 ⊢;omega)
 go_upto_region 4 with fail
 go_region_held3 (fun w'=>w'.cell? ⟨tb,0,none⟩=some (.int .i64 r.client)∧w'.cell? ⟨tb,1,none⟩=some (.int .i64 r.num)∧w'.cell? ⟨tb,2,none⟩=some (.int .i64 r.code)∧w'.cell? ⟨tb,3,none⟩=some (.int .i64 r.version)∧w'.cell? ⟨tb,4,none⟩=some (.int .i64 r.epoch)∧w'.cell? ⟨tb,37,none⟩=some (.slice A r.env.length c)) (first|exact Z0|exact Y0|exact Y1|exact Y2|exact Y3|exact Y4|exact Y5|exact Y6|exact Y7|exact YZ)
  (first
    |(go_at_call 51;refine eH.start.mono ?_;rintro e v0 ⟨p,rfl,o0⟩;have O0:=aa o0;have Y0:=Z.o _ o0.kept;clear o0)
    |(go_at_call 52;(with_reducible refine (O0.o.num r.client (by have:=HF.o;omega) (by have:=HF.o;omega) HL1.o).mono ?_);rintro e v1 ⟨rfl,o1⟩;have O1:=aa o1;have Y1:=Z.o _ o1.kept;clear o1)
    |(go_at_call 54;(with_reducible refine (O1.o.count r.num (by have:=HF.o;omega) (by have:=HF.o;omega) HL2.o).mono ?_);rintro e v2 ⟨rfl,o2⟩;have O2:=aa o2;have Y2:=Z.o _ o2.kept;clear o2)
    |(go_at_call 52;(with_reducible refine (O2.o.num r.code (by have:=HF.o;omega) (by have:=HF.o;omega) HL3.o).mono ?_);rintro e v3 ⟨rfl,o3⟩;have O3:=aa o3;have Y3:=Z.o _ o3.kept;clear o3)
    |(go_at_call 54;(with_reducible refine (O3.o.count r.version (by have:=HF.o;omega) (by have:=HF.o;omega) HL4.o).mono ?_);rintro e v4 ⟨rfl,o4⟩;have O4:=aa o4;have Y4:=Z.o _ o4.kept;clear o4)
    |(go_at_call 52;(with_reducible refine (O4.o.num r.epoch (by have:=HF.o;omega) (by have:=HF.o;omega) HL5.o).mono ?_);rintro e v5 ⟨rfl,o5⟩;have O5:=aa o5;have Y5:=Z.o _ o5.kept;clear o5)
    |(go_at_call 81;(with_reducible refine (O5.o.raw _ tb 32 32 r.name HN.o (HSE.o.2.keep O5.o.kept (by simp)) HL6.o (by rw[HN.o];omega)).mono ?_);rintro e v6 ⟨rfl,o6⟩;have O6:=aa o6;have Y6:=Z.o _ o6.kept;clear o6)
    |(go_at_call 58;(with_reducible refine (O6.o.text A g r.env.length c r.env rfl HSE.o.1 HL7.o (by have:=HF.o;omega)).mono ?_);rintro e v7 ⟨rfl,o7⟩;have O7:=aa o7;have Y7:=Z.o _ o7.kept;clear o7)
    |(go_at_call 60;(with_reducible refine (O7.o.bytes HL8.o).mono ?_);rintro e vz ⟨u,G,rfl,ub,un,uk⟩;have OZ:=aa (ah ub (ah un uk));have YZ:=Z.o _ uk;clear ub un uk))
 go_wp2_with fail
 go_ret2
 exact⟨_,G,rfl,OZ.o.1,fun y hy=>⟨by have h1:=(OZ.o.2.1 y hy).1;have h2:=KD.o.size;omega,(OZ.o.2.1 y hy).2⟩,KD.o.then OZ.o.2.2 (by simp)⟩
theorem qV (F:List Nat) (r:CF) (cv:Value) (w:World) (h:bq w F cv r.chain) (hok:r.ok=false):
 Calls prog 19 #[.agg (bZ r cv).toArray] w fun e w'=>e= .returned (.tuple #[.slice none 0 0,.int .i64 2])∧ag [] w w':=by
 have k1:=(ag.refl [] w).alloc (.cells (bZ r cv).toArray 31)
 have r1:=aC.new w 31 (bZ r cv).toArray
 obtain⟨w1,hw1⟩:∃ w1,w.alloc (.cells (bZ r cv).toArray 31)=w1:=⟨_,rfl⟩
 rw[hw1] at k1 r1
 have HS:=aa (ah r1.rangeAll (ah k1 (h.keep k1 (by simp))))
 have HW:=aa hw1
 clear k1 r1 hw1 h
 go_enter func19,ntmps19
 go_upto_region 1 with (with_reducible refine aJ _ rfl 31 (.tmp 0) rfl _ rfl ?_)
 rw[HW.o]
 go_upto_region 2 with (first
  |(refine wpList_load_mid rfl 31 (.tmp 1) rfl w.heap.size 0 rfl (bZ r cv) _ HS.o.1 underlying31 rfl bS ?_)
  |(go_at_call 83;refine (jD F r cv _ HS.o.2.2).mono ?_;rintro e w2 ⟨rfl,kk⟩;rw[hok];have K2:=aa (HS.o.2.1.then kk (by simp));clear kk))
 go_wp2_with fail
 go_ret2
 exact⟨rfl,K2.o⟩
theorem jC (F:List Nat) (r:CF) (cv:Value) (w:World) (h:bq w F cv r.chain) (hok:r.ok=true):
 Calls prog 19 #[.agg (bZ r cv).toArray] w (iE w (jv r)):=by
 have hf:=r.ok_facts hok
 have k1:=(ag.refl [] w).alloc (.cells (bZ r cv).toArray 31)
 have r1:=aC.new w 31 (bZ r cv).toArray
 obtain⟨w1,hw1⟩:∃ w1,w.alloc (.cells (bZ r cv).toArray 31)=w1:=⟨_,rfl⟩
 rw[hw1] at k1 r1
 have HS:=aa (ah r1.rangeAll (ah k1 (h.keep k1 (by simp))))
 have HW:=aa hw1
 have HR1:=aa r1
 obtain⟨A,c,g,rfl,_,hcm,hA,_⟩:=h
 have HF:=aa hf
 have HA:=aa hA
 clear k1 r1 hw1 hf hA
 go_enter func19,ntmps19
 go_upto_region 1 with (with_reducible refine aJ _ rfl 31 (.tmp 0) rfl _ rfl ?_)
 rw[HW.o]
 go_upto_region 2 with (first
  |(refine wpList_load_mid rfl 31 (.tmp 1) rfl w.heap.size 0 rfl (bZ r (.slice A r.chain.length c)) _ HS.o.1 underlying31 rfl bS ?_)
  |(go_at_call 83;refine (jD F r _ _ HS.o.2.2).mono ?_;rintro e w2 ⟨rfl,kk⟩;rw[hok];have r2:=kk.row HR1.o (by simp);have K2:=aa (HS.o.2.1.then kk (by simp));clear kk))
 obtain⟨L,hL⟩:∃ L,r.chain.length=L:=⟨_,rfl⟩
 obtain⟨tb,htb⟩:∃ tb,w.heap.size=tb:=⟨_,rfl⟩
 rw[htb] at r2 ⊢
 rw[hL] at r2 ⊢
 have hf4:L≤4:=by have:=HF.o.2.1;omega
 have hf1:1≤L:=by have:=HF.o.2.1;omega
 have z0:w2.drew.cell? ⟨tb,0,none⟩=some (.int .i64 r.num):=r2.cell 0
 have z1:w2.drew.cell? ⟨tb,1,none⟩=some (.int .i64 r.full):=r2.cell 1
 have z2:w2.drew.cell? ⟨tb,2,none⟩=some (.slice A L c):=(r2.cell 2).trans (by rw[←hL];rfl)
 have Z:aH (∀ w',ag [] w2.drew w'→(w'.cell? ⟨tb,0,none⟩=some (.int .i64 r.num)∧w'.cell? ⟨tb,1,none⟩=some (.int .i64 r.full)∧w'.cell? ⟨tb,2,none⟩=some (.slice A L c))):=aa (fun w' k=>⟨(k.cell (p:=⟨tb,0,none⟩) r2.lt (by simp)).trans z0,(k.cell (p:=⟨tb,1,none⟩) r2.lt (by simp)).trans z1,(k.cell (p:=⟨tb,2,none⟩) r2.lt (by simp)).trans z2⟩)
 have Z0:=Z.o _ (ag.refl [] w2.drew)
 have KD:=aa (K2.o.then ((ag.refl [] w2).drew) (by simp))
 have HL:=aa hL
 clear r2 z0 z1 z2 hL
 have HC:=aa (mQ (n:=r.num) (by have:=HF.o.1;omega))
 have HL1:aH (([]:List UInt8).length≤1000000000):=aa (by simp)
 have HL2:aH ((([]:List UInt8)++cb r.num.toNat).length≤1000000000):=aa (by have:=HC.o;simp only[List.length_append,List.length_nil];omega)
 have HL3:aH (((([]:List UInt8)++cb r.num.toNat)++aQ 1 r.full.toNat).length≤1000000000):=aa (by have:=HC.o;simp only[List.length_append,List.length_nil,jq];omega)
 go_upto_region 4 with fail
 go_region_held3 (fun w'=>w'.cell? ⟨tb,0,none⟩=some (.int .i64 r.num)∧w'.cell? ⟨tb,1,none⟩=some (.int .i64 r.full)∧w'.cell? ⟨tb,2,none⟩=some (.slice A L c)) (first|exact Z0|exact Y0|exact Y1|exact Y2|exact Y3)
  (first
    |(go_at_call 51;refine eH.start.mono ?_;rintro e v0 ⟨p,rfl,o0⟩;have O0:=aa o0;have Y0:=Z.o _ o0.kept;clear o0)
    |(go_at_call 54;(with_reducible refine (O0.o.count r.num (by have:=HF.o.1;omega) (by have:=HF.o.1;omega) HL1.o).mono ?_);rintro e v1 ⟨rfl,o1⟩;have O1:=aa o1;have Y1:=Z.o _ o1.kept;clear o1)
    |(go_at_call 52;(with_reducible refine (O1.o.num r.full (by have:=HF.o.2.2.1;omega) (by have:=HF.o.2.1;have:=HF.o.2.2.1;omega) HL2.o).mono ?_);rintro e v2 ⟨rfl,o2⟩;have O2:=aa o2;have Y2:=Z.o _ o2.kept;clear o2)
    |(go_at_call 52;(with_reducible refine (O2.o.num (L:Int) (by omega) (by omega) HL3.o).mono ?_);rintro e v3 ⟨rfl,o3⟩;have O3:=aa o3;have Y3:=Z.o _ o3.kept;clear o3))
 obtain⟨B,hB⟩:∃ B,((([]:List UInt8)++cb r.num.toNat)++aQ 1 r.full.toNat)++aQ 1 (L:Int).toNat=B:=⟨_,rfl⟩
 have hBl:B.length≤10:=by have:=HC.o;rw[←hB];simp only[List.length_append,List.length_nil,jq];omega
 have HB:=aa (show jv r=B++qU r.chain by rw[←hB];unfold jv;rw[HL.o,Int.toNat_natCast])
 have O4:aH (eH w2.drew v3 p B):=by rw[←hB];exact O3
 clear hB O3 Y0 Y1 Y2 Z0 Y3
 go_upto_region 6 with fail
 go_loopw [5,6] (fun v5 v27 wx=>∃ i:Nat,i≤L∧v5= .pointer (some ⟨p,0,none⟩)∧v27= .int .i64 (i:Int)∧eH w2.drew wx p (B++qU (r.chain.take i))) (fun _ v27 _=>L-(intOf v27).toNat)
 case atStart=>exact⟨0,by omega,rfl,rfl,by simpa[qU] using O4.o⟩
 case round=>
  obtain⟨i,hi,rfl,rfl,ho⟩:=hrel
  have x2:=(Z.o wr ho.kept).2.2
  have HO:=aa ho
  clear ho
  by_cases hlt:i<L
  ·have hlt':(i:Int)<(L:Int):=by omega
   have hn0:(0:Int)≤(i:Int):=by omega
   have hw1:IntKind.i64.wrap ((i:Int)+1)=(i:Int)+1:=bH _ (by omega) (by omega)
   obtain⟨a,ha⟩:∃ a,r.chain[i]? =some a:=⟨_,List.getElem?_eq_getElem (by have:=HL.o;omega)⟩
   obtain⟨o,rfl,hgl,hcA⟩:=HA.o.2 (by have:=HL.o;omega)
   have hkk:=KD.o.then HO.o.kept (by simp)
   have y0:wr.cell? ⟨g,o+i,none⟩=some (.int .i64 a):=(hkk.cell (p:=⟨g,o+i,none⟩) hgl (by simp)).trans (hcA i (.int .i64 a) (by rw[List.getElem?_map,ha];rfl))
   have ham:=HF.o.2.2.2 a (List.mem_of_getElem? ha)
   have HT:=aa (uD ha)
   have hll:(B++qU (r.chain.take i)).length≤1000000000:=by rw[List.length_append,lT,List.length_take];omega
   have HLL:=aa hll
   clear ha hcA hkk hll
   go_wp2_with (first
    |(go_at_call 52;(with_reducible refine (HO.o.num a (by omega) (by omega) HLL.o).mono ?_);rintro e v4 ⟨rfl,o4⟩;have HO4:=aa o4;clear o4))
   go_roundw
   case rel=>exact⟨i+1,by omega,rfl,by go_num,by rw[HT.o,←List.append_assoc];exact HO4.o⟩
   case measure=>simp[intOf];omega
  ·obtain rfl:i=L:=by omega
   have HE:=aa (show B++qU (r.chain.take i)=jv r by rw[HB.o,←HL.o,List.take_length])
   rw[HE.o] at HO
   have hll:(jv r).length≤1000000000:=by rw[HB.o,List.length_append,lT,HL.o];omega
   have HLL:=aa hll
   clear hll
   go_wp2_with (first
    |(go_at_call 60;(with_reducible refine (HO.o.bytes HLL.o).mono ?_);rintro e vz ⟨u,G,rfl,ub,un,uk⟩;have OZ:=aa (ah ub (ah un uk));clear ub un uk))
   go_ret2
   exact⟨_,G,rfl,OZ.o.1,fun y hy=>⟨by have h1:=(OZ.o.2.1 y hy).1;have h2:=KD.o.size;omega,(OZ.o.2.1 y hy).2⟩,KD.o.then OZ.o.2.2 (by simp)⟩
def wo (w0 w:World) (p:Nat) (l:List UInt8) (g:Nat):Prop:=∃ v,iq w p v ⟨l,0⟩∧w0.heap.size≤p∧(∀ x∈aP v,w0.heap.size≤x)∧ag [] w0 w∧g≠p∧g∉aP v
theorem eH.apart {w0 wr wb:World} {p:Nat} {l:List UInt8} (h:eH w0 wr p l) (hk:ag [] wr wb) (g:Nat) (hg:wr.heap.size≤g):wo w0 wb p l g:=by
 obtain⟨v,a,b,d,k⟩:=h
 have hp1:=a.1.lt
 have hp2:=a.2.lt
 exact⟨v,a.keep hk (by simp) (by simp),b,d,k.then hk (by simp),by omega,fun hm=>by have:=hp2 g hm;omega⟩
theorem wo.kept {w0 w:World} {p:Nat} {l:List UInt8} {g:Nat} (h:wo w0 w p l g):ag [] w0 w:=by obtain⟨v,_,_,_,h,_⟩:=h;exact h
theorem wo.count {w0 w:World} {p g:Nat} {l:List UInt8} (h:wo w0 w p l g) (n:Int) (h0:0≤n) (h1:n≤9007199254740991) (hb:l.length≤1000000000) (hg:g<w.heap.size):
 Calls prog 54 #[.pointer (some ⟨p,0,none⟩),.int .i64 n] w fun e w'=>e= .returned (.pointer (some ⟨p,0,none⟩))∧wo w0 w' p (l++cb n.toNat) g∧∀ A t,dI w A g t→dI w' A g t:=by
 obtain⟨v,a,b,c,d,e1,e2⟩:=h
 refine (lK p v _ n w a hb).mono fun e w' hp=> ?_
 rw[lN l h0 h1] at hp
 obtain⟨he,v',hw,hk,hh⟩:=hp
 have hs:=d.size
 refine⟨he,⟨v',hw,b,fun x hx=> ?_,d.then hk (fun x hx=> .inr ?_),e1,fun hm=> ?_⟩,fun A t hsn=>hsn.keep hk (fun _ hm=> ?_)⟩
 ·rcases hh x hx with q|q
  ·exact c x q
  ·omega
 ·rcases List.mem_cons.1 hx with rfl|hx
  ·exact b
  ·exact c x hx
 ·rcases hh g hm with q|q
  ·exact e2 q
  ·omega
 ·rcases List.mem_cons.1 hm with q|q
  ·exact e1 q
  ·exact e2 q
theorem wo.text {w0 w:World} {p g:Nat} {l:List UInt8} (h:wo w0 w p l g) (A:Option Addr) (n c:Nat) (t:List UInt8) (hn:t.length=n) (hs:dI w A g t) (hb:l.length≤1000000000) (hb2:t.length≤1000000000):
 Calls prog 58 #[.pointer (some ⟨p,0,none⟩),.slice A n c] w (lW w0 p ((l++cb t.length)++t)):=by
 subst hn
 obtain⟨v,a,b,d,k,e1,e2⟩:=h
 refine (mK p v _ A g c t w a hs (fun _=>⟨e1,e2⟩) hb hb2).mono fun e w' hp=> ?_
 rw[nL l t hb2] at hp
 exact eH.step a b d k hp
theorem A8 {k:Int} (h:1≤k∧k≤14):l8.contains k=(aN (aL k) 1 !=0)∧l9.contains k=(aN (aL k) 2 !=0)∧fH.contains k=(aN (aL k) 4 !=0)∧(k==8)=(aN (aL k) 8 !=0)∧kG.contains k=(aN (aL k) 16 !=0)∧(k==2)=(aN (aL k) 32 !=0)∧gm.contains k=(aN (aL k) 64 !=0)∧(k==11)=(aN (aL k) 128 !=0)∧(k==6)=(aN (aL k) 256 !=0):=by
 obtain rfl|rfl|rfl|rfl|rfl|rfl|rfl|rfl|rfl|rfl|rfl|rfl|rfl|rfl:k=1∨k=2∨k=3∨k=4∨k=5∨k=6∨k=7∨k=8∨k=9∨k=10∨k=11∨k=12∨k=13∨k=14:=by omega
 all_goals exact⟨by kernel_rfl,by kernel_rfl,by kernel_rfl,by kernel_rfl,by kernel_rfl,by kernel_rfl,by kernel_rfl,by kernel_rfl,by kernel_rfl⟩
theorem Ac {p:PK} {h:Int} (hc:p.same (p.cut h)=true) (hb:aN h 128=0):p.votes=[]:=by
 have e:=(PK.same_iff _ _).1 hc
 have:=congrArg PK.votes e
 rw[this]
 show oV (aN h 128) [] p.votes=_
 unfold oV
 rw[if_pos hb]
theorem cfB_ne (c:CF):jv c≠[]:=fun e=>by
 have:=congrArg List.length e
 unfold jv at this
 simp only[List.length_append,jq,List.length_nil] at this
 omega
theorem yR (F:List Nat) (p:PK) (ev av cv vv bw:Value) (w:World) (h:gX w F p ev av cv vv bw) (hf:p.fits) (hok:p.ok=false):
 Calls prog 8 #[.agg (bz p ev av cv vv bw).toArray] w fun e w'=>e= .returned (.tuple #[.slice none 0 0,.int .i64 2])∧ag [] w w':=by
 have k1:=(ag.refl [] w).alloc (.cells (bz p ev av cv vv bw).toArray 34)
 have r1:=aC.new w 34 (bz p ev av cv vv bw).toArray
 obtain⟨w1,hw1⟩:∃ w1,w.alloc (.cells (bz p ev av cv vv bw).toArray 34)=w1:=⟨_,rfl⟩
 rw[hw1] at k1 r1
 have hI:(prog.info? 34).map (·.size)=some (bz p ev av cv vv bw).length:=by rw[bA h.rn h.an];exact aF
 have HS:=aa (ah r1.rangeAll (ah hI (ah k1 (ah (h.keep k1 (by simp)) hf))))
 have HW:=aa hw1
 clear k1 r1 hw1 h hI hf
 go_enter func8,ntmps8
 go_upto_region 1 with (with_reducible refine aJ _ rfl 34 (.tmp 0) rfl _ rfl ?_)
 rw[HW.o]
 go_upto_region 2 with (first
  |(refine wpList_load_mid rfl 34 (.tmp 1) rfl w.heap.size 0 rfl (bz p ev av cv vv bw) _ HS.o.1 underlying34 rfl HS.o.2.1 ?_)
  |(go_at_call 10;refine (wP F p ev av cv vv bw _ HS.o.2.2.2.1 HS.o.2.2.2.2).mono ?_;rintro e w2 ⟨rfl,kk⟩;rw[mG,hok];have K2:=aa (HS.o.2.2.1.then kk (by simp));clear kk))
 go_wp2_with fail
 go_ret2
 exact⟨rfl,K2.o⟩
theorem wK (F:List Nat) (p:PK) (ev av cv vv bw:Value) (w:World) (h:gX w F p ev av cv vv bw) (hok:p.ok=true):
 Calls prog 8 #[.agg (bz p ev av cv vv bw).toArray] w (iE w (mH p)):=by
 have hf:=p.ok_facts hok
 have k1:=(ag.refl [] w).alloc (.cells (bz p ev av cv vv bw).toArray 34)
 have r1:=aC.new w 34 (bz p ev av cv vv bw).toArray
 obtain⟨w1,hw1⟩:∃ w1,w.alloc (.cells (bz p ev av cv vv bw).toArray 34)=w1:=⟨_,rfl⟩
 rw[hw1] at k1 r1
 have hI:(prog.info? 34).map (·.size)=some (bz p ev av cv vv bw).length:=by rw[bA h.rn h.an];exact aF
 have HS:=aa (ah r1.rangeAll (ah hI (ah k1 (ah (h.keep k1 (by simp)) (PK.ok_fits hok)))))
 have HW:=aa hw1
 have HR1:=aa r1
 have HF:=aa hf
 have HP:=aa h
 have hrn:=h.rn
 have han:=h.an
 clear k1 r1 hw1 h hI hf
 obtain⟨A0,c0,g0,rfl,_⟩:=id HP.o.re
 obtain⟨A1,c1,g1,rfl,_⟩:=id HP.o.ae
 obtain⟨A2,c2,g2,rfl,_⟩:=id HP.o.cc
 obtain⟨A3,c3,g3,T3,rfl,_⟩:=id HP.o.vs
 obtain⟨A4,c4,g4,rfl,_,_,hs4,_⟩:=id HP.o.bs
 have HS4:=aa hs4
 clear hs4
 go_enter func8,ntmps8
 go_upto_region 1 with (with_reducible refine aJ _ rfl 34 (.tmp 0) rfl _ rfl ?_)
 rw[HW.o]
 go_upto_region 2 with (first
  |(refine wpList_load_mid rfl 34 (.tmp 1) rfl w.heap.size 0 rfl (bz p _ _ _ _ _) _ HS.o.1 underlying34 rfl HS.o.2.1 ?_)
  |(go_at_call 10;refine (wP F p _ _ _ _ _ _ HS.o.2.2.2.1 HS.o.2.2.2.2).mono ?_;rintro e w2 ⟨rfl,kk⟩;rw[mG,hok];have r2:=kk.row HR1.o (by simp);have K2:=aa (HS.o.2.2.1.then kk (by simp));clear kk))
 obtain⟨tb,htb⟩:∃ tb,w.heap.size=tb:=⟨_,rfl⟩
 have HP2:=aa (HP.o.keep K2.o (by simp))
 rw[htb] at r2 ⊢
 have HTB:=aa htb
 have x0:w2.cell? ⟨tb,0,none⟩=some (.int .i64 p.kind):=(r2.cell 0).trans rfl
 clear htb
 go_upto_region 5 with fail
 have z0:w2.drew.cell? ⟨tb,0,none⟩=some (.int .i64 p.kind):=x0
 have z1:w2.drew.cell? ⟨tb,1,none⟩=some (.int .i64 p.frm):=(r2.cell 1).trans rfl
 have z2:w2.drew.cell? ⟨tb,2,none⟩=some (.int .i64 p.dst):=(r2.cell 2).trans rfl
 have r2d:aC w2.drew tb 34 _:=r2
 have PA:aH (∀ wx,ag [] w2.drew wx→vM wx tb p (.slice A0 p.req.env.length c0) (.slice A1 p.ans.env.length c1) (.slice A2 p.conf.chain.length c2) (.slice A3 p.votes.length c3) (.slice A4 p.bytes.length c4)):=aa (fun wx k=>(k.row r2d (by simp)).pk hrn han)
 have Z0:w2.drew.cell? ⟨tb,0,none⟩=some (.int .i64 p.kind)∧w2.drew.cell? ⟨tb,1,none⟩=some (.int .i64 p.frm)∧w2.drew.cell? ⟨tb,2,none⟩=some (.int .i64 p.dst):=⟨z0,z1,z2⟩
 have KD:=aa (K2.o.then ((ag.refl [] w2).drew) (by simp))
 have HPD:=aa (HP2.o.keep ((ag.refl [] w2).drew) (by simp))
 have HLS:=aa (tX hok hrn han)
 have HKD:=aa (ah (ng HF.o.1) (ah (jW HF.o.2.1) (jW HF.o.2.2.1)))
 have HBT:=aa (A8 HKD.o.1)
 clear r2 r2d x0 z0 z1 z2
 go_region_held3 (fun w'=>w'.cell? ⟨tb,0,none⟩=some (.int .i64 p.kind)∧w'.cell? ⟨tb,1,none⟩=some (.int .i64 p.frm)∧w'.cell? ⟨tb,2,none⟩=some (.int .i64 p.dst)) (first|exact Z0|exact Y0|exact Y1|exact Y2|exact Y3)
  (first
    |(go_at_call 51;refine eH.start.mono ?_;rintro e v0 ⟨q,rfl,o0⟩;have O0:=aa o0;have Y0:=ah (PA.o _ o0.kept).c0 (ah (PA.o _ o0.kept).c1 (PA.o _ o0.kept).c2);clear o0)
    |(go_at_call 52;(with_reducible refine (O0.o.num p.kind (by have:=HKD.o;omega) (by have:=HKD.o;omega) (by simp)).mono ?_);rintro e v1 ⟨rfl,o1⟩;have O1:=aa o1;have Y1:=ah (PA.o _ o1.kept).c0 (ah (PA.o _ o1.kept).c1 (PA.o _ o1.kept).c2);clear o1)
    |(go_at_call 52;(with_reducible refine (O1.o.num p.frm (by have:=HKD.o;omega) (by have:=HKD.o;omega) (by simp only[List.length_append,jq,List.length_nil];omega)).mono ?_);rintro e v2 ⟨rfl,o2⟩;have O2:=aa o2;have Y2:=ah (PA.o _ o2.kept).c0 (ah (PA.o _ o2.kept).c1 (PA.o _ o2.kept).c2);clear o2)
    |(go_at_call 52;(with_reducible refine (O2.o.num p.dst (by have:=HKD.o;omega) (by have:=HKD.o;omega) (by simp only[List.length_append,jq,List.length_nil];omega)).mono ?_);rintro e v3 ⟨rfl,o3⟩;have O3:=aa o3;have Y3:=ah (PA.o _ o3.kept).c0 (ah (PA.o _ o3.kept).c1 (PA.o _ o3.kept).c2);clear o3))
 clear O0 O1 O2 Y0 Y1 Y2 Y3 Z0
 have P0:aH (eH w2.drew v3 q (zy p)):=O3
 clear O3
 obtain⟨f,hf⟩:∃ f,aL p.kind=f:=⟨_,rfl⟩
 rw[hf] at HF HLS HBT
 have HFF:=aa hf
 clear hf
 go_upto_if 34 with (go_at_call 53;refine (ni p.kind _).mono ?_;rintro e w' ⟨rfl,kk⟩;rw[HBT.o.1];have H0:=aa (P0.o.over kk);clear kk P0)
 go_cut [6] (fun v6 wx=>v6= .pointer (some ⟨q,0,none⟩)∧eH w2.drew wx q (xz p f))
 case first=>
  by_cases hb:aN f 1=0
  ·have hbb:(aN f 1 !=0)=false:=by simp[hb]
   have E:=aa (fK (zy p) (cb p.num.toNat) hb)
   clear hb
   go_wp2_with fail
   go_meet
   exact⟨rfl,by rw[show xz p f=_ from E.o];exact H0.o⟩
  ·have hbb:(aN f 1 !=0)=true:=by simp[hb]
   have E:=aa (gZ (zy p) (cb p.num.toNat) hb)
   have y:=(PA.o _ H0.o.kept).c3
   go_wp2_with (first
    |(go_at_call 54;refine (H0.o.count p.num HF.o.2.2.2.2.1.1 HF.o.2.2.2.2.1.2 (by have:=HLS.o;omega)).mono ?_;rintro e wx ⟨rfl,ox⟩))
   go_meet
   exact⟨rfl,by rw[show xz p f=_ from E.o];exact ox⟩
 obtain⟨rfl,ho⟩:=hcut
 have P1:=aa ho
 clear ho
 go_upto_if 40 with (go_at_call 55;refine (nk p.kind _).mono ?_;rintro e w' ⟨rfl,kk⟩;rw[HBT.o.2.1];have H1:=aa (P1.o.over kk);clear kk P1)
 go_cut [6] (fun v6 wx=>v6= .pointer (some ⟨q,0,none⟩)∧eH w2.drew wx q (xA p f))
 case first=>
  by_cases hb:aN f 2=0
  ·have hbb:(aN f 2 !=0)=false:=by simp[hb]
   have E:=aa (fK (xz p f) (cb (p.seq+1).toNat) hb)
   clear hb
   go_wp2_with fail
   go_meet
   exact⟨rfl,by rw[show xA p f=_ from E.o];exact H1.o⟩
  ·have hbb:(aN f 2 !=0)=true:=by simp[hb]
   have E:=aa (gZ (xz p f) (cb (p.seq+1).toNat) hb)
   have y:=(PA.o _ H1.o.kept).c4
   have hws:IntKind.i64.wrap (p.seq+1)=p.seq+1:=bH _ (by have:=fT HF.o.2.2.2.2.2.2.1;omega) (by have:=fT HF.o.2.2.2.2.2.2.1;omega)
   go_wp2_with (first
    |(go_at_call 54;refine (H1.o.count (p.seq+1) (by have:=fT HF.o.2.2.2.2.2.2.1;omega) (by have:=fT HF.o.2.2.2.2.2.2.1;omega) (by have:=HLS.o;omega)).mono ?_;rintro e wx ⟨rfl,ox⟩))
   go_meet
   exact⟨rfl,by rw[show xA p f=_ from E.o];exact ox⟩
 obtain⟨rfl,ho⟩:=hcut
 have P2:=aa ho
 clear ho
 go_upto_if 47 with (go_at_call 56;refine (jF p.kind _).mono ?_;rintro e w' ⟨rfl,kk⟩;rw[HBT.o.2.2.1];have H2:=aa (P2.o.over kk);clear kk P2)
 go_cut [6] (fun v6 wx=>v6= .pointer (some ⟨q,0,none⟩)∧eH w2.drew wx q (xB p f))
 case first=>
  by_cases hb:aN f 4=0
  ·have hbb:(aN f 4 !=0)=false:=by simp[hb]
   have E:=aa (fK (xA p f) (cb p.ballot.toNat) hb)
   clear hb
   go_wp2_with fail
   go_meet
   exact⟨rfl,by rw[show xB p f=_ from E.o];exact H2.o⟩
  ·have hbb:(aN f 4 !=0)=true:=by simp[hb]
   have E:=aa (gZ (xA p f) (cb p.ballot.toNat) hb)
   have y:=(PA.o _ H2.o.kept).c5
   go_wp2_with (first
    |(go_at_call 54;refine (H2.o.count p.ballot HF.o.2.2.2.2.2.1.1 HF.o.2.2.2.2.2.1.2 (by have:=HLS.o;omega)).mono ?_;rintro e wx ⟨rfl,ox⟩))
   go_meet
   exact⟨rfl,by rw[show xB p f=_ from E.o];exact ox⟩
 obtain⟨rfl,ho⟩:=hcut
 have P3:=aa ho
 clear ho
 go_upto_if 53 with fail
 have H3:=P3
 clear P3
 go_cut [6] (fun v6 wx=>v6= .pointer (some ⟨q,0,none⟩)∧eH w2.drew wx q (xC p f))
 case first=>
  by_cases hb:aN f 8=0
  ·have hbb:(p.kind==8)=false:=by rw[HBT.o.2.2.2.1];simp[hb]
   have E:=aa (fK (xB p f) (aQ 1 (if p.ready then 1 else 0)) hb)
   clear hb
   go_wp2_with fail
   go_meet
   exact⟨rfl,by rw[show xC p f=_ from E.o];exact H3.o⟩
  ·have hbb:(p.kind==8)=true:=by rw[HBT.o.2.2.2.1];simp[hb]
   have E:=aa (gZ (xB p f) (aQ 1 (if p.ready then 1 else 0)) hb)
   have y:=(PA.o _ H3.o.kept).c6
   obtain⟨rd,hrd⟩:∃ r,p.ready=r:=⟨_,rfl⟩
   rw[hrd] at y
   have HRD:=aa hrd
   clear hrd
   cases rd
   all_goals (go_wp2_with (first
    |(go_at_call 52;refine (H3.o.num _ (by omega) (by omega) (by have:=HLS.o;omega)).mono ?_;rintro e wx ⟨rfl,ox⟩)))
   all_goals go_meet
   all_goals exact⟨rfl,by rw[show xC p f=_ from E.o,HRD.o];exact ox⟩
 obtain⟨rfl,ho⟩:=hcut
 have P4:=aa ho
 clear ho
 go_upto_if 60 with (go_at_call 57;refine (iD p.kind _).mono ?_;rintro e w' ⟨rfl,kk⟩;rw[HBT.o.2.2.2.2.1];have H4:=aa (P4.o.over kk);clear kk P4)
 go_cut [6] (fun v6 wx=>v6= .pointer (some ⟨q,0,none⟩)∧eH w2.drew wx q (xD p f))
 case first=>
  by_cases hb:aN f 16=0
  ·have hbb:(aN f 16 !=0)=false:=by simp[hb]
   have E:=aa (fK (xC p f) (cb (iL p.req).length++iL p.req) hb)
   clear hb
   go_wp2_with fail
   go_meet
   exact⟨rfl,by rw[show xD p f=_ from E.o];exact H4.o⟩
  ·have hbb:(aN f 16 !=0)=true:=by simp[hb]
   have E:=aa (gZ (xC p f) (cb (iL p.req).length++iL p.req) hb)
   have y:=aa (PA.o _ H4.o.kept).rq
   have hI:aH ((prog.info? 26).map (·.size)=some (bE p.req (.slice A0 p.req.env.length c0)).length):=aa (by rw[bB hrn];exact bN)
   go_wp2_with (first
    |(refine wpList_load_mid rfl 26 (.tmp 62) rfl tb 7 rfl (bE p.req (.slice A0 p.req.env.length c0)) _ y.o underlying26 rfl hI.o ?_)
    |(go_at_call 15;refine (mf F p.req _ _ ⟨hrn,HPD.o.re.keep H4.o.kept (by simp)⟩ (HF.o.2.2.2.2.2.2.2.2.1.resolve_left hb)).mono ?_;rintro e wb ⟨u,G,rfl,ub,un,uk⟩;obtain⟨Ab,cbb,gb,rfl,_,_,sb,mb⟩:=ub;have QB:=aa (ah sb (ah (fun hne:iL p.req≠[]=>(un gb (mb hne)).1) uk));clear sb mb un uk)
    |(go_at_call 58;refine (H4.o.textNew QB.o.2.2 Ab gb _ cbb (iL p.req) rfl QB.o.1 QB.o.2.1 (by have:=HLS.o;omega) (by have:=qC (HF.o.2.2.2.2.2.2.2.2.1.resolve_left hb) hrn;omega)).mono ?_;rintro e wx ⟨rfl,ox⟩))
   go_meet
   exact⟨rfl,by rw[show xD p f=_ from E.o];rw[←List.append_assoc];exact ox⟩
 obtain⟨rfl,ho⟩:=hcut
 have P5:=aa ho
 clear ho
 go_upto_if 71 with fail
 have H5:=P5
 clear P5
 go_cut [6] (fun v6 wx=>v6= .pointer (some ⟨q,0,none⟩)∧eH w2.drew wx q (xE p f))
 case first=>
  by_cases hb:aN f 32=0
  ·have hbb:(p.kind==2)=false:=by rw[HBT.o.2.2.2.2.2.1];simp[hb]
   have E:=aa (fK (xD p f) (cb (iH p.ans).length++iH p.ans) hb)
   clear hb
   go_wp2_with fail
   go_meet
   exact⟨rfl,by rw[show xE p f=_ from E.o];exact H5.o⟩
  ·have hbb:(p.kind==2)=true:=by rw[HBT.o.2.2.2.2.2.1];simp[hb]
   have E:=aa (gZ (xD p f) (cb (iH p.ans).length++iH p.ans) hb)
   have y:=aa (PA.o _ H5.o.kept).an
   have hI:aH ((prog.info? 28).map (·.size)=some (bK p.ans (.slice A1 p.ans.env.length c1)).length):=aa (by rw[bL han];exact bR)
   go_wp2_with (first
    |(refine wpList_load_mid rfl 28 (.tmp 73) rfl tb 44 rfl (bK p.ans (.slice A1 p.ans.env.length c1)) _ y.o underlying28 rfl hI.o ?_)
    |(go_at_call 17;refine (ma F p.ans _ _ ⟨han,HPD.o.ae.keep H5.o.kept (by simp)⟩ (HF.o.2.2.2.2.2.2.2.2.2.1.resolve_left hb)).mono ?_;rintro e wb ⟨u,G,rfl,ub,un,uk⟩;obtain⟨Ab,cbb,gb,rfl,_,_,sb,mb⟩:=ub;have QB:=aa (ah sb (ah (fun hne:iH p.ans≠[]=>(un gb (mb hne)).1) uk));clear sb mb un uk)
    |(go_at_call 58;refine (H5.o.textNew QB.o.2.2 Ab gb _ cbb (iH p.ans) rfl QB.o.1 QB.o.2.1 (by have:=HLS.o;omega) (by have:=pO (HF.o.2.2.2.2.2.2.2.2.2.1.resolve_left hb) han;omega)).mono ?_;rintro e wx ⟨rfl,ox⟩))
   go_meet
   exact⟨rfl,by rw[show xE p f=_ from E.o];rw[←List.append_assoc];exact ox⟩
 obtain⟨rfl,ho⟩:=hcut
 have P6:=aa ho
 clear ho
 go_upto_if 82 with (go_at_call 59;refine (kr p.kind _).mono ?_;rintro e w' ⟨rfl,kk⟩;rw[HBT.o.2.2.2.2.2.2.1];have H6:=aa (P6.o.over kk);clear kk P6)
 go_cut [6] (fun v6 wx=>v6= .pointer (some ⟨q,0,none⟩)∧eH w2.drew wx q (q9 p f))
 case first=>
  by_cases hb:aN f 64=0
  ·have hbb:(aN f 64 !=0)=false:=by simp[hb]
   have E:=aa (fK (xE p f) (cb (jv p.conf).length++jv p.conf) hb)
   clear hb
   go_wp2_with fail
   go_meet
   exact⟨rfl,by rw[show q9 p f=_ from E.o];exact H6.o⟩
  ·have hbb:(aN f 64 !=0)=true:=by simp[hb]
   have E:=aa (gZ (xE p f) (cb (jv p.conf).length++jv p.conf) hb)
   have y0:=(PA.o _ H6.o.kept).d0
   have y1:=(PA.o _ H6.o.kept).d1
   have y2:=(PA.o _ H6.o.kept).d2
   go_wp2_with (first
    |(go_at_call 19;refine (jC F p.conf _ _ (HPD.o.cc.keep H6.o.kept (by simp)) (HF.o.2.2.2.2.2.2.2.2.2.2.1.resolve_left hb)).mono ?_;rintro e wb ⟨u,G,rfl,ub,un,uk⟩;obtain⟨Ab,cbb,gb,rfl,_,_,sb,mb⟩:=ub;have QB:=aa (ah sb (ah (fun hne:jv p.conf≠[]=>(un gb (mb hne)).1) uk));clear sb mb un uk)
    |(go_at_call 58;refine (H6.o.textNew QB.o.2.2 Ab gb _ cbb (jv p.conf) rfl QB.o.1 QB.o.2.1 (by have:=HLS.o;omega) (by have:=lS (HF.o.2.2.2.2.2.2.2.2.2.2.1.resolve_left hb);omega)).mono ?_;rintro e wx ⟨rfl,ox⟩))
   go_meet
   exact⟨rfl,by rw[show q9 p f=_ from E.o];rw[←List.append_assoc];exact ox⟩
 obtain⟨rfl,ho⟩:=hcut
 have P7:=aa ho
 clear ho
 have HVS:=aa (ah HPD.o.vs (ah HF.o.2.2.2.2.2.2.2.2.2.2.2 (fun hb=>Ac HF.o.2.2.2.1 hb)))
 obtain⟨L,hL⟩:∃ L,p.votes.length=L:=⟨_,rfl⟩
 have hL8:L≤8:=by
  have:=HVS.o.2.1
  unfold eD at this
  rw[Bool.and_eq_true,decide_eq_true_eq] at this
  omega
 have HL:=aa hL
 rw[hL] at PA HVS
 clear hL
 go_upto_if 93 with fail
 have H7:=P7
 clear P7
 go_cut [6] (fun v6 wx=>v6= .pointer (some ⟨q,0,none⟩)∧eH w2.drew wx q (aI (aN f 128) (q9 p f) (aQ 1 L)))
 case first=>
  by_cases hb:aN f 128=0
  ·have hbb:(p.kind==11)=false:=by rw[HBT.o.2.2.2.2.2.2.2.1];simp[hb]
   have E:=aa (fK (q9 p f) (aQ 1 L) hb)
   clear hb
   go_wp2_with fail
   go_meet
   exact⟨rfl,by rw[show aI (aN f 128) (q9 p f) (aQ 1 L)=_ from E.o];exact H7.o⟩
  ·have hbb:(p.kind==11)=true:=by rw[HBT.o.2.2.2.2.2.2.2.1];simp[hb]
   have E:=aa (gZ (q9 p f) (aQ 1 L) hb)
   have y:=(PA.o _ H7.o.kept).d3
   go_wp2_with (first
    |(go_at_call 52;refine (H7.o.num (L:Int) (by omega) (by omega) (by have:=HLS.o;omega)).mono ?_;rintro e wx ⟨rfl,ox⟩))
   go_meet
   exact⟨rfl,by rw[show aI (aN f 128) (q9 p f) (aQ 1 L)=_ from E.o];rw[Int.toNat_natCast] at ox;exact ox⟩
 obtain⟨rfl,ho⟩:=hcut
 have P8:=aa ho
 clear ho
 obtain⟨B,hB⟩:∃ B,aI (aN f 128) (q9 p f) (aQ 1 L)=B:=⟨_,rfl⟩
 have hBl:B.length≤10001:=by
  have:=HLS.o
  rw[←hB]
  unfold aI
  split
  ·omega
  ·rw[List.length_append,jq];omega
 rw[hB] at P8
 have HB8:aH (B++gY p.votes=wD p f):=aa (by
  rw[←hB]
  by_cases hb:aN f 128=0
  ·rw[HVS.o.2.2 hb,fK _ _ hb,show wD p f=aI (aN f 128) (q9 p f) (aQ 1 p.votes.length++gY p.votes) from rfl,fK _ _ hb]
   simp[gY]
  ·rw[gZ _ _ hb,show wD p f=aI (aN f 128) (q9 p f) (aQ 1 p.votes.length++gY p.votes) from rfl,gZ _ _ hb,HL.o,List.append_assoc])
 have HOK:aH (iM p.votes=true):=aa (by
  have:=HVS.o.2.1
  unfold eD at this
  rw[Bool.and_eq_true] at this
  exact this.2)
 clear hB
 go_upto_region 29 with fail
 go_loopw [6,14] (fun v6 v14 wx=>∃ i:Nat,i≤L∧v6= .pointer (some ⟨q,0,none⟩)∧v14= .int .i64 (i:Int)∧eH w2.drew wx q (B++gY (p.votes.take i))) (fun _ v14 _=>L-(intOf v14).toNat)
 case atStart=>exact⟨0,by omega,rfl,rfl,by simpa[gY] using P8.o⟩
 case round=>
  obtain⟨i,hi,rfl,rfl,ho⟩:=hrel
  have HO3:=aa ho
  have y3:=(PA.o _ ho.kept).d3
  clear ho
  by_cases hlt:i<L
  ·have hlt':(i:Int)<(L:Int):=by omega
   have hn0:(0:Int)≤(i:Int):=by omega
   have hw1:IntKind.i64.wrap ((i:Int)+1)=(i:Int)+1:=bH _ (by omega) (by omega)
   obtain⟨a,ha⟩:∃ a,p.votes[i]? =some a:=⟨_,List.getElem?_eq_getElem (by have:=HL.o;omega)⟩
   obtain⟨g,o,cv,rfl,hgl,_,hcv,x0,x1,x2,x3⟩:=HVS.o.1.at ha
   have e:=fun z=>HO3.o.kept.cell (p:=⟨g,z,none⟩) hgl (by simp)
   rw[←e] at x0 x1 x2 x3
   clear e
   have hok:=ui HOK.o ha
   have HT:=aa (sK ha)
   have hll:(B++gY (p.votes.take i)).length≤20000:=by
    have h1:=nJ _ (sJ HOK.o i)
    have h2:(p.votes.take i).length≤8:=by rw[List.length_take];omega
    rw[List.length_append];omega
   obtain⟨Bi,hBi⟩:∃ Bi,B++gY (p.votes.take i)=Bi:=⟨_,rfl⟩
   rw[hBi] at hll HO3
   have HBi:=aa hBi
   obtain⟨ab,an,af,al⟩:=a
   have hfb:1≤ab∧ab≤9007199254740991:=by
    unfold VT.ok at hok
    rw[Bool.and_eq_true,fI] at hok
    exact hok.1
   have hcok:CF.ok ⟨an,af,al⟩=true:=by unfold VT.ok at hok;rw[Bool.and_eq_true] at hok;exact hok.2
   have hcl:(jv ⟨an,af,al⟩).length≤14:=lS hcok
   have hc8:=mQ (n:=ab) hfb.2
   have HK:=aa (ah hcok (ah hcl hc8))
   dsimp only at x0 x1 x2 x3 hcv
   obtain⟨CA,cc,cg,rfl,_⟩:=id hcv
   have HCV:=aa (hcv.keep HO3.o.kept (by simp))
   have HX0:=aa (ah x0 (ah y3 (Nat.lt_of_lt_of_le hgl HO3.o.kept.size)))
   clear hcv ha hok hcl hc8 hBi hcok
   go_upto_region 32 with (first
    |(go_at_call 19;refine (jC F ⟨an,af,al⟩ _ _ HCV.o HK.o.1).mono ?_;rintro e wb ⟨u,G,rfl,ub,un,uk⟩;obtain⟨Ab,cbb,gb,rfl,_,_,sb,mb⟩:=ub;have QB:=aa (ah sb (ah (un gb (mb (cfB_ne _))) uk));clear sb mb un uk))
   have z0:=(QB.o.2.2.cell (p:=⟨g,_,none⟩) HX0.o.2.2 (by simp)).trans HX0.o.1
   have z3:=(PA.o _ (HO3.o.kept.then QB.o.2.2 (by simp))).d3
   have HA:=aa (HO3.o.apart QB.o.2.2 gb QB.o.2.1.1)
   clear x0 x1 x2 x3 y3
   go_wp2_with (first
    |(go_at_call 54;(with_reducible refine (HA.o.count ab (by omega) (by omega) (by omega) QB.o.2.1.2).mono ?_);rintro e w5 ⟨rfl,o5,s5⟩;have O5:=aa (ah o5 (s5 Ab _ QB.o.1));clear o5 s5)
    |(go_at_call 58;(with_reducible refine (O5.o.1.text Ab _ cbb (jv ⟨an,af,al⟩) rfl O5.o.2 (by rw[List.length_append];have:=HK.o;omega) (by have:=HK.o;omega)).mono ?_);rintro e w6 ⟨rfl,o6⟩;have O6:=aa o6;clear o6))
   go_roundw
   case rel=>exact⟨i+1,by omega,rfl,by go_num,by rw[HT.o,←List.append_assoc,HBi.o];unfold vtB;simpa only[List.append_assoc] using O6.o⟩
   case measure=>simp[intOf];omega
  ·obtain rfl:i=L:=by omega
   have h9:eH w2.drew wr q (wD p f):=by
    have:=HO3.o
    rw[show p.votes.take i=p.votes by rw[←HL.o,List.take_length],HB8.o] at this
    exact this
   have P9:=aa h9
   clear h9
   go_upto_if 127 with fail
   have H9:=P9
   clear P9
   go_cut [6] (fun v6 wx=>v6= .pointer (some ⟨q,0,none⟩)∧eH w2.drew wx q (wE p f))
   case first=>
    by_cases hb:aN f 256=0
    ·have hbb:(p.kind==6)=false:=by rw[HBT.o.2.2.2.2.2.2.2.2];simp[hb]
     have E:=aa (fK (wD p f) (cb p.bytes.length++p.bytes) hb)
     clear hb
     go_wp2_with fail
     go_meet
     exact⟨rfl,by rw[show wE p f=_ from E.o];exact H9.o⟩
    ·have hbb:(p.kind==6)=true:=by rw[HBT.o.2.2.2.2.2.2.2.2];simp[hb]
     have E:=aa (gZ (wD p f) (cb p.bytes.length++p.bytes) hb)
     have y:=(PA.o _ H9.o.kept).d4
     have HB4:aH (dI w2.drew A4 g4 p.bytes):=aa (HS4.o.keep KD.o (by simp))
     go_wp2_with (first
      |(go_at_call 58;refine (H9.o.text A4 g4 _ c4 p.bytes rfl HB4.o (by have:=HLS.o;omega) (by have:=HF.o.2.2.2.2.2.2.2.1;omega)).mono ?_;rintro e wx ⟨rfl,ox⟩))
     go_meet
     exact⟨rfl,by rw[show wE p f=_ from E.o];rw[←List.append_assoc];exact ox⟩
   obtain⟨rfl,ho⟩:=hcut
   have P10:=aa ho
   clear ho
   have HE:=aa (show mH p=wE p f by unfold mH;rw[HFF.o])
   have hll:(wE p f).length≤1000000000:=by have:=HLS.o;omega
   have HLL:=aa hll
   clear hll
   go_wp2_with (first
    |(go_at_call 60;refine (P10.o.bytes HLL.o).mono ?_;rintro e vz ⟨u,G,rfl,ub,un,uk⟩;have OZ:=aa (ah ub (ah un uk));clear ub un uk))
   go_ret2
   exact⟨_,G,rfl,by rw[HE.o];exact OZ.o.1,fun y hy=>⟨by have h1:=(OZ.o.2.1 y hy).1;have h2:=KD.o.size;omega,(OZ.o.2.1 y hy).2⟩,KD.o.then OZ.o.2.2 (by simp)⟩
end Go.Proofs.YthfdkonhjpdflaaGreatDoor
