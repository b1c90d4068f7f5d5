import Derived.Test.YthfdkonhjpdflaaGreatDoorRWide
import Derived.Test.YthfdkonhjpdflaaGreatDoorPk33
namespace Go.Proofs.YthfdkonhjpdflaaGreatDoor
open Go.RowKit Go.Proofs.Tryz
set_option linter.unusedVariables false
set_option maxHeartbeats 4000000
set_option maxRecDepth 100000
set_option linter.unusedSimpArgs false
def dL (w:World) (p g:Nat) (r:RS):Prop:=
 (∃ A c,aC w p 150 #[.slice A r.l.length c,.int .i64 r.e]∧r.l.length≤c∧c≤maxLen∧dI w A g r.l∧(r.l≠[]→g≠p))∧r.okay
theorem dL.keep {S:List Nat} {w w':World} {p g:Nat} {r:RS} (h:dL w p g r) (hk:ag S w w') (hp:p∉S) (hg:r.l≠[]→g∉S):dL w' p g r:=by
 obtain⟨⟨A,c,h1,h2,h3,h4,h5⟩,h6⟩:=h
 exact⟨⟨A,c,hk.row h1 hp,h2,h3,h4.keep hk hg,h5⟩,h6⟩
theorem dL.lt {w:World} {p g:Nat} {r:RS} (h:dL w p g r):p<w.heap.size:=by
 obtain⟨⟨A,c,h1,_⟩,_⟩:=h;exact h1.lt
def za (p g:Nat) (r:RS) (x:Int) (w:World) (e:Ending) (w':World):Prop:=
 e= .returned (.tuple #[])∧dL w' p g (r.fail x)∧ag [p] w w'
theorem ig (p g:Nat) (r:RS) (x:Int) (w:World) (h:dL w p g r):
 Calls prog 151 #[.pointer (some ⟨p,0,none⟩),.int .i64 x] w (za p g r x w):=by
 obtain⟨⟨A,c,h1,h2,h3,h4,h5⟩,h6⟩:=h
 have hc0:w.cell? ⟨p,0,none⟩=some (.slice A r.l.length c):=h1.cell 0
 have hc1:w.cell? ⟨p,1,none⟩=some (.int .i64 r.e):=h1.cell 1
 have hf0:=h1.free 0
 have hf1:=h1.free 1
 by_cases he:r.e=0
 ·have he':(r.e==0)=true:=by simp[he]
  have HF:=aa (show r.fail x=⟨[],x⟩ from by simp[RS.fail,he])
  clear he
  go_enter func151,ntmps151
  go_wp2
  go_end0
  refine⟨rfl,?_,((ag.refl _ _).setCell _ _ (by simp)).setCell _ _ (by simp)⟩
  rw[HF.o]
  exact⟨⟨none,0,(h1.set 1 _).set 0 _,Nat.le_refl _,by simp[maxLen],dI.nil _ _ _,fun h=>absurd rfl h⟩,fun _=>rfl⟩
 ·have he':(r.e==0)=false:=by simp[he]
  have hl:r.l=[]:=h6 he
  have HF:=aa (show r.fail x=⟨[],r.e⟩ from by cases r;simp only at he hl;subst hl;simp[RS.fail,he])
  clear he hl
  go_enter func151,ntmps151
  go_wp2
  go_end0
  refine⟨rfl,?_,(ag.refl _ _).setCell _ _ (by simp)⟩
  rw[HF.o]
  exact⟨⟨none,0,h1.set 0 _,Nat.le_refl _,by simp[maxLen],dI.nil _ _ _,fun h=>absurd rfl h⟩,fun _=>rfl⟩
def BD (p g:Nat) (r:RS) (n:Int) (w:World) (e:Ending) (w':World):Prop:=
 ∃ v,e= .returned v∧mE w w' v (r.raw n).1∧dL w' p g (r.raw n).2∧ag [p] w w'
theorem lG (p g:Nat) (r:RS) (n:Int) (w:World) (h:dL w p g r) (hb:r.l.length≤140737488355328):
 Calls prog 152 #[.pointer (some ⟨p,0,none⟩),.int .i64 n] w (BD p g r n w):=by
 obtain⟨⟨A,c,h1,h2,h3,h4,h5⟩,h6⟩:=id h
 have hc0:w.cell? ⟨p,0,none⟩=some (.slice A r.l.length c):=h1.cell 0
 have hc1:w.cell? ⟨p,1,none⟩=some (.int .i64 r.e):=h1.cell 1
 have hf0:=h1.free 0
 unfold maxLen at h3
 by_cases he:r.e=0
 ·have he':(r.e==0)=true:=by simp[he]
  by_cases hn:n<0
  ·have HF:=aa (show r.raw n=([],⟨[],2⟩) from by simp[RS.raw,hn,RS.fail,he])
   have HX:=aa (show r.fail 2=⟨[],2⟩ from by simp[RS.fail,he])
   clear he
   go_enter func152,ntmps152
   go_wp2_with fail
   refine (ig p g r _ _ h).mono ?_;rintro e w1 ⟨rfl,hr1,hk1⟩
   rw[HX.o] at hr1
   obtain⟨⟨A1,c1,a1,a2,a3,a4,a5⟩,a6⟩:=id hr1
   have hd1:w1.cell? ⟨p,1,none⟩=some (.int .i64 2):=a1.cell 1
   have hd0:w1.cell? ⟨p,0,none⟩=some (.slice A1 0 c1):=a1.cell 0
   go_wp2
   go_ret
   exact⟨_,rfl,by rw[HF.o];exact⟨cZ.nil _ _ _,by simp[aP,Value.ownBlock]⟩,by rw[HF.o];exact hr1,hk1⟩
  ·obtain⟨m,rfl⟩:∃ m:Nat,n=(m:Int):=⟨n.toNat,by omega⟩
   by_cases hm:m≤r.l.length
   ·have HF:=aa (show r.raw (m:Int)=(r.l.take m,⟨r.l.drop m,0⟩) from by
     unfold RS.raw;rw[if_neg hn,Int.toNat_natCast];simp[RS.take,RS.past,he,hm])
    have HE:=aa he
    clear he
    have hml:(r.l.take m).length=m:=by rw[List.length_take];omega
    have HML:=aa hml
    clear hml
    have d1: ¬(r.l.length:Int)<(m:Int):=by omega
    go_enter func152,ntmps152
    go_wp2_with fail
    refine (mV A g _ m (r.l.take m) _ HML.o (h4.take m) (by omega)).mono ?_;rintro e w1 ⟨v1,rfl,ho1,hf1,hk1⟩
    have hr1:=hk1.row h1 (by simp)
    have hd0:w1.cell? ⟨p,0,none⟩=some (.slice A r.l.length c):=hr1.cell 0
    have hd1:w1.cell? ⟨p,1,none⟩=some (.int .i64 r.e):=hr1.cell 1
    have hg0:=hr1.free 0
    have hs1:=h4.keep hk1 (by simp)
    have HH:=aa (ah ho1 hf1)
    have hpf:=cZ.apart ho1 hr1 (by decide)
    clear ho1 hf1
    go_wp2
    all_goals
     go_ret
     have hks:∀ u,ag [p] w1 (w1.setCell ⟨p,0,none⟩ u):=fun u=>(ag.refl [p] w1).setCell _ _ (.inl (by simp))
     refine⟨v1,rfl,?_,?_,(hk1.more (T:=[p]) (by simp)).then (hks _) (fun x hx=> .inl hx)⟩
     ·rw[HF.o]
      refine⟨?_,HH.o.2⟩
      have:=HH.o.1.keep (hks (.slice none 0 0)) (fun x hx hxp=>hpf (by simp at hxp;rw[←hxp];exact hx))
      exact HH.o.1.keep (hks _) (fun x hx hxp=>hpf (by simp at hxp;rw[←hxp];exact hx))
     ·rw[HF.o]
      first
       |(have hd:r.l.drop m=[]:=List.drop_eq_nil_of_le (by omega)
         refine⟨⟨A,0,?_,by simp[hd],by simp[maxLen],by rw[hd];exact dI.nil _ _ _,fun hne=>absurd hd hne⟩,fun hne=>absurd rfl hne⟩
         have:=hr1.set 0 (.slice A (r.l.length-m) 0)
         simpa[HE.o] using this)
       |(refine⟨⟨_,c-m,?_,by simp;omega,by unfold maxLen;omega,(hs1.drop m).keep (hks _) (fun hne=>by simpa using h5 (by rintro h0;apply hne;rw[h0];simp)),fun hne=>h5 (by rintro h0;apply hne;rw[h0];simp)⟩,fun hne=>absurd rfl hne⟩
         have:=hr1.set 0 (.slice (Option.map (fun x=>x.add m) A) (r.l.length-m) (c-m))
         simpa[HE.o] using this)
   ·have HF:=aa (show r.raw (m:Int)=([],⟨[],3⟩) from by
     unfold RS.raw;rw[if_neg hn,Int.toNat_natCast];simp[RS.take,RS.past,he,hm])
    have HX:=aa (show r.fail 3=⟨[],3⟩ from by simp[RS.fail,he])
    have d1:(r.l.length:Int)<(m:Int):=by omega
    clear he
    go_enter func152,ntmps152
    go_wp2_with fail
    refine (ig p g r _ _ h).mono ?_;rintro e w1 ⟨rfl,hr1,hk1⟩
    rw[HX.o] at hr1
    obtain⟨⟨A1,c1,a1,a2,a3,a4,a5⟩,a6⟩:=id hr1
    have hd1:w1.cell? ⟨p,1,none⟩=some (.int .i64 3):=a1.cell 1
    go_wp2
    go_ret
    exact⟨_,rfl,by rw[HF.o];exact⟨cZ.nil _ _ _,by simp[aP,Value.ownBlock]⟩,by rw[HF.o];exact hr1,hk1⟩
 ·have he':(r.e==0)=false:=by simp[he]
  have he2:(r.e !=0)=true:=by simp[he]
  have HF:=aa (show r.raw n=([],r) from by
   unfold RS.raw;split
   ·simp[RS.fail,he]
   ·simp[RS.take,RS.past,he])
  clear he
  go_enter func152,ntmps152
  go_wp2
  go_ret
  exact⟨_,rfl,by rw[HF.o];exact⟨cZ.nil _ _ _,by simp[aP,Value.ownBlock]⟩,by rw[HF.o];exact h,ag.refl _ _⟩
def eX (p g:Nat) (r:RS) (n:Int) (w:World) (e:Ending) (w':World):Prop:=
 e= .returned (.int .i64 (r.num n).1)∧dL w' p g (r.num n).2∧ag [p] w w'
theorem BQ (x b:Nat) (hx:x<2^56) (hb:b<256):IntKind.u64.wrap (IntKind.u64.wrap (256*(x:Int))+IntKind.u64.wrap (b:Int))=((x*256+b:Nat):Int):=by
 rw[jA (256*(x:Int)) (by omega) (by omega),jA (b:Int) (by omega) (by omega),jA _ (by omega) (by omega)]
 omega
def RS.pre (r:RS) (n:Int):RS:=if nX n=true then r else r.fail 2
theorem Dg (r:RS) (n:Int):r.num n=if ku<be ((r.pre n).raw n).1 then (0,((r.pre n).raw n).2.fail 9) else (((be ((r.pre n).raw n).1:Nat):Int),((r.pre n).raw n).2):=by
 by_cases hw:nX n=true
 ·obtain⟨m,rfl⟩:∃ m:Nat,n=(m:Int):=⟨n.toNat,by rcases fo hw with h|h|h|h<;>omega⟩
  have hraw:r.raw (m:Int)=(r.take m,r.past m):=by unfold RS.raw;rw[if_neg (by omega)];rfl
  unfold RS.pre RS.num
  rw[if_pos hw,if_pos hw,hraw,Int.toNat_natCast]
  by_cases ht:r.took m=true
  ·rw[if_pos ht]
  ·rw[if_neg ht]
   have:r.take m=[]:=by rw[RS.took_iff] at ht;rw[RS.take,if_neg ht]
   simp[this,be,ku]
 ·have hp:(r.pre n).raw n=([],r.fail 2):=by
   unfold RS.pre;rw[if_neg hw]
   have he:(r.fail 2).e≠0:=by unfold RS.fail;split<;>simp_all
   generalize r.fail 2=s at he
   unfold RS.raw;split
   ·simp[RS.fail,he]
   ·simp[RS.take,RS.past,he]
  rw[hp]
  unfold RS.num;rw[if_neg hw];simp[be,ku]
theorem Dx (r:RS) (n:Int):((r.pre n).raw n).1.length≤8:=by
 by_cases hw:nX n=true
 ·unfold RS.pre RS.raw RS.take
  rw[if_pos hw]
  rcases fo hw with h|h|h|h<;>subst h<;>simp<;>split<;>simp<;>omega
 ·unfold RS.pre RS.raw RS.take
  rw[if_neg hw]
  have he:(r.fail 2).e≠0:=by unfold RS.fail;split<;>simp_all
  simp[he]
  split<;>exact Nat.zero_le _
theorem zH (r:RS) (n:Int):(r.e=0∧nX n=true∧r.pre n=r)∨(r.e=0∧nX n=false∧r.pre n=r.fail 2)∨(r.e≠0∧r.pre n=r):=by
 unfold RS.pre RS.fail
 by_cases he:r.e=0<;>cases hw:nX n<;>simp[he]
theorem pre_le (r:RS) (n:Int):(r.pre n).l.length≤r.l.length:=by
 unfold RS.pre RS.fail
 split
 ·exact Nat.le_refl _
 ·split
  ·exact Nat.zero_le _
  ·exact Nat.le_refl _
theorem fu (p g:Nat) (r:RS) (n:Int) (w:World) (h:dL w p g r) (hb:r.l.length≤140737488355328):
 Calls prog 106 #[.pointer (some ⟨p,0,none⟩),.int .i64 n] w (eX p g r n w):=by
 obtain⟨⟨A,c,h1,h2,h3,h4,h5⟩,h6⟩:=id h
 have hc1:w.cell? ⟨p,1,none⟩=some (.int .i64 r.e):=h1.cell 1
 have HR:=aa (Dg r n)
 have HL:=Dx r n
 have hb':=Nat.le_trans (pre_le r n) hb
 rcases zH r n with⟨he,hw,hp⟩|⟨he,hw,hp⟩|⟨he,hp⟩
 case' inl=>
  have he':(r.e==0)=true:=by simp[he]
  have HW:=aa hw
  have hi0:dL w p g (r.pre n):=by rw[hp];exact h
  have hk0:ag [p] w w:=ag.refl _ _
  clear hw hp he
  go_enter func106,ntmps106
  go_wp2_with fail
  refine (lL _ _).mono ?_;rintro e w' ⟨rfl,rfl⟩
  rw[HW.o]
  go_wp2_with fail
 case' inr.inl=>
  have he':(r.e==0)=true:=by simp[he]
  have HW:=aa hw
  have HP:=aa hp
  clear hw hp he
  go_enter func106,ntmps106
  go_wp2_with fail
  refine (lL _ _).mono ?_;rintro e w' ⟨rfl,rfl⟩
  rw[HW.o]
  go_wp2_with fail
  refine (ig p g r _ _ h).mono ?_;rintro e w1 ⟨rfl,hi0,hk0⟩
  rw[←HP.o] at hi0
  go_wp2_with fail
 case' inr.inr=>
  have he':(r.e==0)=false:=by simp[he]
  have hi0:dL w p g (r.pre n):=by rw[hp];exact h
  have hk0:ag [p] w w:=ag.refl _ _
  clear hp he
  go_enter func106,ntmps106
  go_wp2_with fail
 all_goals
  refine (lG p g _ _ _ hi0 hb').mono ?_;rintro e w2 ⟨v1,rfl,hf1,hr1,hk1⟩
  obtain⟨A1,c1,g1,rfl,_,_,hs1,_⟩:=hf1.1.seen
  clear hf1
  have hk2:=hk0.then hk1 (by simp)
  clear hk0 hk1 hi0
  generalize (r.pre n).raw n=Q at*
  obtain⟨l,r2⟩:=Q
  simp only at hs1 hr1 HL HR
  go_wp2_with fail
  go_loop [6,7] (fun n i=>∃ k:Nat,k≤l.length∧i= .int .i64 k∧n= .int .u64 (be (l.take k))) (fun _ i=>l.length-(intOf i).toNat)
  case atStart=>exact⟨0,Nat.zero_le _,rfl,rfl⟩
  case round=>
   obtain⟨k,hkm,rfl,rfl⟩:=hrel
   by_cases hlt2:k<l.length
   ·obtain⟨b,hb⟩:∃ b,l[k]? =some b:=⟨l[k]'hlt2,by simp⟩
    obtain⟨o,rfl,hlt,hc⟩:=hs1 (by rintro rfl;simp at hlt2)
    have hcell:=hc k b hb
    unfold bv at hcell
    have HB:=aa (xQ l k b hb)
    have HO:=aa (BQ (be (l.take k)) b.toNat (pR l k (by omega)) b.toNat_lt)
    clear hc hb hs1
    go_wp2
    go_round
    case rel=>exact⟨k+1,by omega,by go_num,by rw[HB.o];first|exact congrArg _ HO.o|(rw[←HO.o];go_num)⟩
    case measure=>simp[intOf];omega
   ·obtain rfl:k=l.length:=by omega
    have hbl:=xP l HL
    rw[List.take_length]
    clear hs1
    by_cases hmx:ku<be l
    ·have hmx':(9007199254740991:Int)<(be l:Int):=by unfold ku at hmx;omega
     have HX:=aa (HR.o.trans (if_pos hmx))
     clear hmx HR
     go_wp2_with fail
     refine (ig p g r2 _ _ hr1).mono ?_;rintro e w3 ⟨rfl,hi3,hk3⟩
     go_wp2
     go_ret
     exact⟨by rw[HX.o];rfl,by rw[HX.o];exact hi3,hk2.then hk3 (by simp)⟩
    ·have hmx': ¬(9007199254740991:Int)<(be l:Int):=by unfold ku at hmx;omega
     have HX:=aa (HR.o.trans (if_neg hmx))
     clear hmx HR
     go_wp2
     go_ret
     exact⟨by rw[HX.o];go_num,by rw[HX.o];exact hr1,hk2⟩
def dU (p g:Nat) (r:RS) (most:Int) (w:World) (e:Ending) (w':World):Prop:=
 e= .returned (.int .i64 (r.count most).1)∧dL w' p g (r.count most).2∧ag [p] w w'
def AQ (p g:Nat) (l:List UInt8) (most:Int) (w:World) (e:Ending) (w':World):Prop:=
 e= .returned (.int .i64 (kL most l 0 0).1)∧dL w' p g (kL most l 0 0).2∧ag [p] w w'
def Cs (p g:Nat) (l:List UInt8) (most:Int) (w:World) (n i:Value) (wr:World):Prop:=
 ∃ (k m:Nat) (t:List UInt8),i= .int .i64 k∧n= .int .i64 m∧dL wr p g ⟨t,0⟩∧t.length≤l.length∧ag [p] w wr∧
  ((k≤7∧m<128^k∧kL most t k m=kL most l 0 0)∨(k=8∧kL most l 0 0=(0,⟨[],4⟩)))
theorem BF (p g:Nat) (w:World) (h:dL w p g ⟨[],0⟩):
 Calls prog 152 #[.pointer (some ⟨p,0,none⟩),.int .i64 1] w fun e w'=>∃ A c,e= .returned (.slice A 0 c)∧dL w' p g ⟨[],3⟩∧ag [p] w w':=by
 refine (lG p g _ 1 _ h (by simp)).mono ?_
 rintro e w1 ⟨v,rfl,hf,hr,hk⟩
 have:RS.raw ⟨[],0⟩ 1=([],⟨[],3⟩):=by simp[RS.raw,RS.take,RS.past]
 rw[this] at hf hr
 obtain⟨A1,c1,g1,rfl,_⟩:=hf.1.seen
 exact⟨A1,c1,rfl,hr,hk⟩
theorem zI (p g:Nat) (b:UInt8) (t:List UInt8) (w:World) (h:dL w p g ⟨b::t,0⟩) (hb:t.length<140737488355328):
 Calls prog 152 #[.pointer (some ⟨p,0,none⟩),.int .i64 1] w fun e w'=>∃ A c,e= .returned (.slice (some A) 1 c)∧w'.cell? A=some (.int .u8 (b.toNat:Int))∧dL w' p g ⟨t,0⟩∧ag [p] w w':=by
 refine (lG p g _ 1 _ h (by simp;omega)).mono ?_
 rintro e w1 ⟨v,rfl,hf,hr,hk⟩
 have hq:RS.raw ⟨b::t,0⟩ 1=([b],⟨t,0⟩):=by simp[RS.raw,RS.take,RS.past]
 rw[hq] at hf hr
 obtain⟨A1,c1,g1,rfl,_,_,hs,_⟩:=hf.1.seen
 obtain⟨o,rfl,_,hc⟩:=hs (by simp)
 exact⟨⟨g1,o,none⟩,c1,rfl,hc 0 b rfl,hr,hk⟩
theorem uL (p g:Nat) (l:List UInt8) (most:Int) (w:World) (h:dL w p g ⟨l,0⟩) (hb:l.length≤140737488355328):
 Calls prog 107 #[.pointer (some ⟨p,0,none⟩),.int .i64 most] w (AQ p g l most w):=by
 go_enter func107,ntmps107
 go_wp2
 go_loopw [5,6] (fun n i wr=>Cs p g l most w n i wr) (fun _ i _=>9-(intOf i).toNat)
 case atStart=>exact⟨0,0,l,rfl,rfl,h,Nat.le_refl _,ag.refl _ _,.inl ⟨by omega,by simp,rfl⟩⟩
 case round=>
  obtain⟨k,m,t,rfl,rfl,hr,htl,hkb,hd⟩:=hrel
  obtain⟨⟨A,c,h1,h2,h3,h4,h5⟩,h6⟩:=id hr
  have hc1:wr.cell? ⟨p,1,none⟩=some (.int .i64 0):=h1.cell 1
  clear h1 h2 h3 h4 h5 h6
  rcases hd with⟨hk,hm,hc⟩|⟨rfl,hc⟩
  ·have hm7:=vQ k m hk hm
   have HC:=aa hc
   clear hc
   rcases t with _|⟨b,t⟩
   ·go_wp2_with fail
    refine (BF p g _ hr).mono ?_;rintro e w1 ⟨A1,c1,rfl,hi,hkb1⟩
    go_wp2
    go_ret
    have hn:=sZ most k m
    rw[HC.o] at hn
    exact⟨by rw[hn];rfl,by rw[hn];exact hi,hkb.then hkb1 (by simp)⟩
   ·have htl':t.length<l.length:=by simp at htl;omega
    obtain⟨x,hx⟩:∃ x:Nat,x=m*128+b.toNat % 128:=⟨_,rfl⟩
    have hb256:=b.toNat_lt
    have hxb:x<72057594037927936:=by omega
    have HX:=aa hx
    clear hx htl
    go_wp2_with fail
    refine (zI p g b t _ hr (by omega)).mono ?_;rintro e w1 ⟨A1,c1,rfl,hcell,hi,hkb1⟩
    have hkb2:=hkb.then hkb1 (by simp)
    clear hkb hkb1 hr
    by_cases h0:k=0∧b.toNat=128
    ·obtain⟨rfl,hb2⟩:=h0
     have hn:=xV most t m b hb2
     rw[HC.o] at hn
     have HN:=aa hn
     rw[hb2] at hcell
     clear hn
     go_wp2_with fail
     refine (ig p g _ _ _ hi).mono ?_;rintro e w3 ⟨rfl,hi3,hk3⟩
     go_wp2
     go_ret
     exact⟨by rw[HN.o];rfl,by rw[HN.o];exact hi3,hkb2.then hk3 (by simp)⟩
    ·have hx2:(128*(m:Int)+(b.toNat:Int) % 128)=(x:Int):=by rw[HX.o];omega
     by_cases hb8:b.toNat<128
     ·have d1: ¬(128:Int)≤(b.toNat:Int):=by omega
      have hlast:=uF most t k m b hb8
      rw[←HX.o,HC.o] at hlast
      unfold iA ku at hlast
      by_cases hmx:(9007199254740991:Int)<(x:Int)
      ·rw[if_pos (by omega)] at hlast
       have HL:=aa hlast
       have d2:(9007199254740991:Int)<128*(m:Int)+(b.toNat:Int) % 128:=by rw[hx2];exact hmx
       clear hlast hmx hx2 HC HX
       go_wp2_with fail
       all_goals
        refine (ig p g _ _ _ hi).mono ?_;rintro e w3 ⟨rfl,hi3,hk3⟩
        go_wp2
        go_ret
        exact⟨by rw[HL.o];rfl,by rw[HL.o];exact hi3,hkb2.then hk3 (by simp)⟩
      ·rw[if_neg (by omega)] at hlast
       have d2: ¬(9007199254740991:Int)<128*(m:Int)+(b.toNat:Int) % 128:=by rw[hx2];exact hmx
       by_cases hmo:most<(x:Int)
       ·rw[if_pos hmo] at hlast
        have HL:=aa hlast
        have d3:most<128*(m:Int)+(b.toNat:Int) % 128:=by rw[hx2];exact hmo
        clear hlast hmx hx2 hmo HC HX
        go_wp2_with fail
        all_goals
         refine (ig p g _ _ _ hi).mono ?_;rintro e w3 ⟨rfl,hi3,hk3⟩
         go_wp2
         go_ret
         exact⟨by rw[HL.o];rfl,by rw[HL.o];exact hi3,hkb2.then hk3 (by simp)⟩
       ·rw[if_neg hmo] at hlast
        have HL:=aa hlast
        have d3: ¬most<128*(m:Int)+(b.toNat:Int) % 128:=by rw[hx2];exact hmo
        have HX2:=aa hx2
        clear hlast hmx hx2 hmo HC HX
        go_wp2_with fail
        all_goals
         go_ret
         exact⟨by rw[HL.o,HX2.o];rfl,by rw[HL.o];exact hi,hkb2⟩
     ·have d1:(128:Int)≤(b.toNat:Int):=by omega
      have hx128:x<128^(k+1):=by rw[Nat.pow_succ,HX.o];have:=b.toNat_lt;omega
      have hon:k=7∧kL most l 0 0=(0,⟨[],4⟩)∨k≤6∧kL most t (k+1) x=kL most l 0 0:=by
       by_cases h7:k=7
       ·subst h7;exact .inl ⟨rfl,by rw[←HC.o,uG most t m b hb8]⟩
       ·exact .inr ⟨by omega,by rw[←HC.o,AU most t k m b h0 hb8 h7,HX.o]⟩
      have HON:=aa hon
      have HX2:=aa hx2
      clear hon HC HX hx2
      go_wp2_with fail
      all_goals
       go_round
       case rel=>
        refine⟨k+1,x,t,by go_num,by rw[HX2.o],hi,by omega,hkb2,?_⟩
        rcases HON.o with⟨h7,hc⟩|⟨h6,hc⟩
        ·exact .inr ⟨by omega,hc⟩
        ·exact .inl ⟨by omega,hx128,hc⟩
       case measure=>simp[intOf];omega
  ·have HC:=aa hc
   clear hc
   go_wp2_with fail
   refine (ig p g _ _ _ hr).mono ?_;rintro e w3 ⟨rfl,hi3,hk3⟩
   go_wp2
   go_ret
   exact⟨by rw[HC.o];rfl,by rw[HC.o];exact hi3,hkb.then hk3 (by simp)⟩
theorem uM (p g:Nat) (r:RS) (most:Int) (w:World) (h:dL w p g r) (he:r.e≠0):
 Calls prog 107 #[.pointer (some ⟨p,0,none⟩),.int .i64 most] w (dU p g r most w):=by
 obtain⟨⟨A,c,h1,h2,h3,h4,h5⟩,h6⟩:=id h
 have hc1:w.cell? ⟨p,1,none⟩=some (.int .i64 r.e):=h1.cell 1
 have he':(r.e==0)=false:=by simp[he]
 have HF:=aa (show r.count most=(0,r) from by unfold RS.count;rw[if_neg he])
 clear he
 go_enter func107,ntmps107
 go_wp2
 refine wp_loop_rounds 1 ?_
 rw[rounds_succ]
 go_wp2
 go_ret
 exact⟨by rw[HF.o];rfl,by rw[HF.o];exact h,ag.refl _ _⟩
theorem dX (p g:Nat) (r:RS) (most:Int) (w:World) (h:dL w p g r) (hb:r.l.length≤140737488355328):
 Calls prog 107 #[.pointer (some ⟨p,0,none⟩),.int .i64 most] w (dU p g r most w):=by
 by_cases he:r.e=0
 ·obtain⟨l,e⟩:=r
  simp only at he
  subst he
  have hcnt:(RS.mk l 0).count most=kL most l 0 0:=by simp[RS.count]
  unfold dU
  rw[hcnt]
  exact uL p g l most w h hb
 ·exact uM p g r most w h he
def iy (p g:Nat) (r:RS) (n:Int) (w:World) (e:Ending) (w':World):Prop:=
 ∃ v,e= .returned v∧mE w w' v (r.text n).1∧dL w' p g (r.text n).2∧ag [p] w w'
theorem RS.text_stop (r:RS) (n:Int) (h:(r.count n).2.e≠0):r.text n=([],(r.count n).2):=by
 unfold RS.text
 generalize (r.count n).1=x
 generalize (r.count n).2=s at h
 unfold RS.raw
 split
 ·simp[RS.fail,h]
 ·simp[RS.take,RS.past,h]
theorem iV (p g:Nat) (r:RS) (n:Int) (w:World) (h:dL w p g r) (hb:r.l.length≤140737488355328):
 Calls prog 109 #[.pointer (some ⟨p,0,none⟩),.int .i64 n] w (iy p g r n w):=by
 have hb2:=RS.count_short r n
 by_cases he:(r.count n).2.e=0
 ·have he':((r.count n).2.e !=0)=false:=by simp[he]
  clear he
  go_enter func109,ntmps109
  go_wp2_with fail
  refine (dX p g r n _ h hb).mono ?_;rintro e w1 ⟨rfl,hi,hk⟩
  obtain⟨⟨A,c,h1,h2,h3,h4,h5⟩,h6⟩:=id hi
  have hc1:w1.cell? ⟨p,1,none⟩=some (.int .i64 (r.count n).2.e):=h1.cell 1
  go_wp2_with fail
  refine (lG p g _ _ _ hi (by omega)).mono ?_;rintro e w2 ⟨v,rfl,hf,hi2,hk2⟩
  go_wp2
  go_ret
  exact⟨_,rfl,⟨hf.1,fun x hx=>by have:=hf.2 x hx;have:=hk.size;omega⟩,hi2,hk.then hk2 (by simp)⟩
 ·have he':((r.count n).2.e !=0)=true:=by simp[he]
  have HT:=aa (RS.text_stop r n he)
  clear he
  go_enter func109,ntmps109
  go_wp2_with fail
  refine (dX p g r n _ h hb).mono ?_;rintro e w1 ⟨rfl,hi,hk⟩
  obtain⟨⟨A,c,h1,h2,h3,h4,h5⟩,h6⟩:=id hi
  have hc1:w1.cell? ⟨p,1,none⟩=some (.int .i64 (r.count n).2.e):=h1.cell 1
  go_wp2
  go_ret
  exact⟨_,rfl,by rw[HT.o];exact⟨cZ.nil _ _ _,by simp[aP,Value.ownBlock]⟩,by rw[HT.o];exact hi,hk⟩
theorem aZ (p g:Nat) (r:RS) (w:World) (h:dL w p g r):
 Calls prog 110 #[.pointer (some ⟨p,0,none⟩)] w fun e w'=>e= .returned (.int .i64 r.e)∧w=w':=by
 obtain⟨⟨A,c,h1,h2,h3,h4,h5⟩,h6⟩:=h
 have hc1:w.cell? ⟨p,1,none⟩=some (.int .i64 r.e):=h1.cell 1
 go_enter func110,ntmps110
 go_wp2
 go_ret
 exact⟨rfl,rfl⟩
theorem fV (p g:Nat) (r:RS) (w:World) (h:dL w p g r):
 Calls prog 101 #[.pointer (some ⟨p,0,none⟩)] w fun e w'=>e= .returned (.int .i64 r.end_)∧w=w':=by
 obtain⟨⟨A,c,h1,h2,h3,h4,h5⟩,h6⟩:=h
 have hc0:w.cell? ⟨p,0,none⟩=some (.slice A r.l.length c):=h1.cell 0
 have hc1:w.cell? ⟨p,1,none⟩=some (.int .i64 r.e):=h1.cell 1
 by_cases he:r.e=0
 ·have he':(r.e==0)=true:=by simp[he]
  by_cases hl:r.l=[]
  ·have HE:=aa (show r.end_=r.e from by unfold RS.end_;rw[if_pos he,if_pos hl,he])
   have d1: ¬(0:Int)<(r.l.length:Int):=by simp[hl]
   clear he hl
   go_enter func101,ntmps101
   go_wp2
   go_ret
   exact⟨by rw[HE.o];rfl,rfl⟩
  ·have HE:=aa (show r.end_=4 from by unfold RS.end_;rw[if_pos he,if_neg hl])
   have d1:(0:Int)<(r.l.length:Int):=by have:=List.length_pos_iff.2 hl;omega
   clear he hl
   go_enter func101,ntmps101
   go_wp2
   go_ret
   exact⟨by rw[HE.o];rfl,rfl⟩
 ·have he':(r.e==0)=false:=by simp[he]
  have HE:=aa (show r.end_=r.e from by unfold RS.end_;rw[if_neg he])
  clear he
  go_enter func101,ntmps101
  go_wp2
  go_ret
  exact⟨by rw[HE.o];rfl,rfl⟩
theorem lZ (A:Option Addr) (g c n:Nat) (l:List UInt8) (w:World) (hn:l.length=n) (h:dI w A g l) (hb:n≤140737488355328):
 Calls prog 98 #[.slice A n c] w fun e w'=>∃ p g',e= .returned (.pointer (some ⟨p,0,none⟩))∧dL w' p g' ⟨l,0⟩∧w.heap.size≤p∧(l≠[]→w.heap.size≤g')∧ag [] w w':=by
 go_enter func98,ntmps98
 go_wp2_with fail
 refine (mV A g c n l _ hn h hb).mono ?_;rintro e w1 ⟨v1,rfl,ho1,hf1,hk1⟩
 obtain⟨A3,c3,g3,rfl,h1,h2,h3,h4⟩:=ho1.seen
 have hlt:=ho1.lt
 clear ho1
 go_wp2
 go_ret
 have hkA:ag [] w1 (w1.alloc (.cells #[.slice A3 l.length c3,.int .i64 0] 150)):=(ag.refl [] w1).alloc _
 subst hn
 exact⟨w1.heap.size,g3,rfl,⟨⟨A3,c3,aC.new _ _ _,h1,h2,h3.keep hkA (by simp),fun hne=>by have:=hlt g3 (h4 hne);omega⟩,fun hne=>absurd rfl hne⟩,hk1.size,fun hne=>hf1 g3 (h4 hne),hk1.then hkA (by simp)⟩
theorem dL.gl {w:World} {p g:Nat} {r:RS} (h:dL w p g r) (hne:r.l≠[]):g<w.heap.size:=by
 obtain⟨⟨A,c,_,_,_,h4,_⟩,_⟩:=h
 obtain⟨o,_,h6,_⟩:=h4 hne
 exact h6
def Bf (wb:World) (b:Nat) (l:List UInt8) (w:World) (i:Nat):Prop:=
 aC w b 23 (aT (bG (l.take i))).toArray∧ag [b] wb w
theorem Bf.next {wb w:World} {b i:Nat} {l:List UInt8} (h:Bf wb b l w i) (hi:i<l.length) (hl:l.length≤32):Bf wb b l (w.setCell ⟨b,i,none⟩ (.int .u8 ((l[i]).toNat:Int))) (i+1):=by
 refine⟨?_,h.2.setCell ⟨b,i,none⟩ _ (.inl (by simp))⟩
 have h1:=h.1.set i (.int .u8 ((l[i]).toNat:Int))
 have h2:(aT (bG (l.take i))).toArray.setIfInBounds i (.int .u8 ((l[i]).toNat:Int))=(aT (bG (l.take (i+1)))).toArray:=by
  rw[aj]
  congr 1
  unfold aT bG
  apply List.ext_getElem?
  intro j
  simp only[List.getElem?_set,List.length_map,List.length_append,List.length_replicate,List.length_take,List.getElem?_map,List.getElem?_append,List.getElem?_take,List.getElem?_replicate]
  rw[show min (i+1) l.length=i+1 by omega,show min i l.length=i by omega]
  by_cases h3:i=j
  ·subst h3
   rw[if_pos rfl,if_pos (by omega),if_pos (by omega),if_pos (by omega),List.getElem?_eq_getElem hi]
   rfl
  ·rw[if_neg h3]
   by_cases h4:j<i
   ·rw[if_pos h4,if_pos h4,if_pos (by omega),if_pos (by omega)]
   ·have h5: ¬j<i+1:=by omega
    rw[if_neg h4,if_neg h5]
    by_cases h6:j<32
    ·rw[if_pos (by omega),if_pos (by omega)]
    ·rw[if_neg (by omega),if_neg (by omega)]
 rw[h2] at h1
 exact h1
theorem rU (p g:Nat) (r:RS) (w:World) (hr:dL w p g r) (hb:r.l.length≤140737488355328):
 Calls prog 108 #[.pointer (some ⟨p,0,none⟩)] w fun e w'=>e= .returned (.agg (aT (bG (r.raw 32).1)).toArray)∧dL w' p g (r.raw 32).2∧ag [p] w w':=by
 obtain⟨Z,hZ⟩:∃ Z,aT (List.replicate 32 0)=Z:=⟨_,rfl⟩
 have zl:Z.length=32:=by rw[←hZ,bi,List.length_replicate]
 have zv:=BZ
 have hsp:Z=aT (bG ((r.raw 32).1.take 0)):=by rw[←hZ];rfl
 rw[hZ] at zv
 obtain⟨wA,hwA⟩:∃ wA,w.alloc (.cells Z.toArray 23)=wA:=⟨_,rfl⟩
 obtain⟨wB,hwB⟩:∃ wB,wA.alloc (.cells Z.toArray 23)=wB:=⟨_,rfl⟩
 have rA:=aC.new w 23 Z.toArray
 have rB:=aC.new wA 23 Z.toArray
 have kA:=(ag.refl [] w).alloc (.cells Z.toArray 23)
 have kB:=(ag.refl [] wA).alloc (.cells Z.toArray 23)
 rw[hwA] at rA kA
 rw[hwB] at rB kB
 have rA3:=kB.row rA (by simp)
 have kk:=kA.then kB (by simp)
 have hlA:w.heap.size<wA.heap.size:=rA.lt
 have hpl:=hr.lt
 have HW:=aa (ah hwA (ah hwB zv))
 have HR:=aa (ah rA3 (ah rB (ah kk (ah (hr.keep kk (by simp) (by simp)) (ah hlA (ah zl hsp))))))
 have HL:=aa (ah hb (ah (iR r) (fun hne:r.l≠[]=>hr.gl hne)))
 clear hwA hwB zv rA rB kA kB rA3 kk hr hlA zl hsp hb hZ
 have hpA:wA.heap.size≠p:=by have:=HR.o.2.2.2.2.1;omega
 have hpw:w.heap.size≠p:=by omega
 go_enter func108,ntmps108
 go_upto_region 2 with (first
  |(with_reducible refine aD _ _ rfl 23 rfl _ HW.o.2.2 HW.o.1 ?_)
  |(with_reducible refine aD _ _ rfl 23 rfl _ HW.o.2.2 HW.o.2.1 ?_))
 go_wp2_with (first
  |(go_at_call 152;refine (lG p g r 32 _ HR.o.2.2.2.1 HL.o.1).mono ?_;rintro e w4 ⟨v,rfl,⟨ho,hh⟩,hr4,hk4⟩;obtain⟨A4,c4,rfl,h41,h42,h43,hrd4⟩:=ho.form;have H4:=aa (ah hr4 (ah hk4 (ah ho (ah hrd4 (ah hh h43)))));clear hr4 hk4 ho hrd4 hh))
 obtain⟨L,hL⟩:∃ L,(r.raw 32).1=L:=⟨_,rfl⟩
 obtain⟨g4,hg4⟩:=dA (.slice A4 (r.raw 32).1.length c4)
 have hse:dI w4 A4 g4 (r.raw 32).1:=eG.seenB (H4.o.2.2.2.1 g4 hg4)
 have hgA:(r.raw 32).1≠[]→g4≠wA.heap.size:=fun hne=>by
  obtain⟨o,hA,_⟩:=hse hne
  have h1:=H4.o.2.2.2.2.1 g4 (by rw[hA];simp[bF])
  have h2:=HR.o.2.1.lt
  omega
 have hN0:Bf w4 wA.heap.size (r.raw 32).1 w4 0:=⟨by rw[←HR.o.2.2.2.2.2.2];exact H4.o.2.1.row HR.o.2.1 (by simp[hpA]),ag.refl _ _⟩
 have hl32:=HL.o.2.1
 have hE:=H4.o.1
 have hK:=H4.o.2.1
 rw[hL] at hse hgA hN0 hl32
 have HF:=aa (ah hE (ah hK hL))
 rw[hL]
 have HN:=aa hN0
 have HSe:=aa (ah hse hgA)
 clear hse hgA hN0 hE hK hg4 H4 h41 h42 h43 hL
 go_loopw [5] (fun v wx=>∃ i:Nat,i≤L.length∧v= .int .i64 (i:Int)∧aH (Bf w4 wA.heap.size L wx i)) (fun v _=>33-(intOf v).toNat)
 case atStart=>exact⟨0,Nat.zero_le _,rfl,HN⟩
 case round=>
  obtain⟨i,hil,rfl,H5⟩:=hrel
  by_cases hlt:i<L.length
  ·obtain⟨o,rfl,hg1,hc1⟩:=HSe.o.1 (by intro e;rw[e] at hlt;simp at hlt)
   have hcl:wr.cell? ⟨g4,o+i,none⟩=some (.int .u8 ((L[i]).toNat:Int)):=(H5.o.2.cell (p:=⟨g4,o+i,none⟩) hg1 (by have:=HSe.o.2 (by intro e;rw[e] at hlt;simp at hlt);simpa using this)).trans (hc1 i _ (List.getElem?_eq_getElem hlt))
   have HX:=aa (H5.o.next hlt hl32)
   have hfr:=H5.o.1.free i
   obtain⟨z,hz⟩:∃ z,wr.cell? ⟨wA.heap.size,i,none⟩=some z:=⟨_,(H5.o.1.cell i).trans (by rw[List.getElem?_toArray];exact List.getElem?_eq_getElem (by rw[bi,gz (by rw[List.length_take];omega)];omega))⟩
   have hi2:(i:Int)<(L.length:Int):=by omega
   have hi3:(i:Int)<32:=by omega
   have hi0:(0:Int)≤(i:Int):=by omega
   have hwi:IntKind.i64.wrap ((i:Int)+1)=(i:Int)+1:=by rw[IntKind.wrap_i64];omega
   clear hc1
   go_wp2_with fail
   go_roundw
   case rel=>exact⟨i+1,by omega,by go_num,HX⟩
   case measure=>simp only[intOf];omega
  ·have hi2: ¬(i:Int)<(L.length:Int):=by omega
   have hie:i=L.length:=by omega
   subst hie
   have h5:=H5.o.1
   rw[List.take_of_length_le (Nat.le_refl _)] at h5
   have hnl:(aT (bG L)).length=32:=by rw[bi,gz hl32]
   have kD:ag [p] w wr:=((HR.o.2.2.1.more (by simp)).then HF.o.2.1 (by simp)).then H5.o.2 (fun x hx=> .inr (by simp at hx;have:=HR.o.2.2.2.2.1;omega))
   have rwr:=H5.o.2.row (HF.o.2.1.row HR.o.1 (by simp[hpw])) (by simp;have:=HR.o.2.2.2.2.1;omega)
   have hgl:(r.raw 32).2.l≠[]→g<w.heap.size:=fun hne=>HL.o.2.2 (jK hne)
   have hr5:=HF.o.1.keep H5.o.2 (by simp;exact fun e=>hpA e.symm) (fun hne=>by have:=hgl hne;have:=HR.o.2.2.2.2.1;simp;omega)
   have rs:=rwr.setL (vs:=aT (bG L)) (o:=0)
   rw[aR (by rw[hnl,az];exact HR.o.2.2.2.2.2.1.symm)] at rs
   have ks:=(ag.refl [w.heap.size] wr).setL (vs:=aT (bG L)) (g:=w.heap.size) (o:=0) (by simp)
   have kf:=kD.setL (vs:=aT (bG L)) (g:=w.heap.size) (o:=0) (.inr (Nat.le_refl _))
   have hr6:=hr5.keep ks (by simp;exact fun e=>hpw e.symm) (fun hne=>by have:=hgl hne;simp;omega)
   have ht:=rwr.there (o:=0) (n:=(aT (bG L)).toArray.size) (by simp only[az];have:=HR.o.2.2.2.2.2.1;omega)
   have hI:(prog.info? 23).map (·.size)=some (aT (bG L)).length:=by rw[hnl];exact dY
   have hJ:(prog.info? 23).map (·.size)=some (aT (bG L)).toArray.size:=by rw[az];exact hI
   have HS:=aa (ah h5.rangeAll (ah rs (ah ht (ah hI (ah hJ (ah hr6 kf))))))
   have HO:=aa (all_oneCell_toArray (gJ (bG L)))
   clear h5 rwr rs ks kf hr6 ht hI hJ hr5 kD hgl hnl
   go_wp2_with (first
    |(refine wpList_load_mid rfl 23 (.tmp 3) rfl wA.heap.size 0 rfl _ _ HS.o.1 underlying23 rfl HS.o.2.2.2.1 ?_)
    |(refine wpList_store_mid rfl 23 (.tmp 2) (.tmp 24) rfl w.heap.size 0 (aT (bG L)).toArray rfl rfl HS.o.2.2.1 HS.o.2.2.2.2.1 HO.o ?_))
   refine bodyPost_ret (results_cell_row rfl _ _ w.heap.size 23 _ (0,0) _ rfl HS.o.2.1 underlying23 rfl HS.o.2.2.2.2.1) rfl ?_
   exact⟨by rw[HF.o.2.2],HS.o.2.2.2.2.2.1,HS.o.2.2.2.2.2.2⟩
end Go.Proofs.YthfdkonhjpdflaaGreatDoor
