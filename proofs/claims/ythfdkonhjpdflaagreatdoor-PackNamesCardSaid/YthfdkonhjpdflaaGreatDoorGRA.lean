import Derived.Test.YthfdkonhjpdflaaGreatDoorRWide
import Derived.Test.YthfdkonhjpdflaaGreatDoorPk33
namespace Go.Proofs.YthfdkonhjpdflaaGreatDoor
open Go.RowKit Go.Proofs.Tryz
set_option linter.unusedVariables false
set_option maxHeartbeats 4000000
set_option maxRecDepth 100000
set_option linter.unusedSimpArgs false
def YA (w:World) (p g:Nat) (r:RS):Prop:=
 (∃ A c,l5 w p 150 #[.slice A r.l.length c,.int .i64 r.e]∧r.l.length≤c∧c≤maxLen∧QA w A g r.l∧(r.l≠[]→g≠p))∧r.okay
theorem YA.keep {S:List Nat} {w w':World} {p g:Nat} {r:RS} (h:YA w p g r) (hk:U1 S w w') (hp:p∉S) (hg:r.l≠[]→g∉S):YA w' p g r:=by
 obtain⟨⟨A,c,h1,h2,h3,h4,h5⟩,h6⟩:=h
 exact⟨⟨A,c,hk.row h1 hp,h2,h3,h4.keep hk hg,h5⟩,h6⟩
theorem YA.lt {w:World} {p g:Nat} {r:RS} (h:YA w p g r):p<w.heap.size:=by
 obtain⟨⟨A,c,h1,_⟩,_⟩:=h;exact h1.lt
def dR (p g:Nat) (r:RS) (x:Int) (w:World) (e:Ending) (w':World):Prop:=
 e= .returned (.tuple #[])∧YA w' p g (r.fail x)∧U1 [p] w w'
theorem BD (p g:Nat) (r:RS) (x:Int) (w:World) (h:YA w p g r):
 Calls prog 151 #[.pointer (some ⟨p,0,none⟩),.int .i64 x] w (dR p g r x w):=by
 obtain⟨⟨A,c,h1,h2,h3,h4,h5⟩,h6⟩:=h
 have hc0:w.cell? ⟨p,0,none⟩=some (.slice A r.l.length c):=h1.cell 0
 have hc1:w.cell? ⟨p,1,none⟩=some (.int .i64 r.e):=h1.cell 1
 have hf0:=h1.free 0
 have hf1:=h1.free 1
 by_cases he:r.e=0
 ·have he':(r.e==0)=true:=by simp[he]
  have HF:=U0 (show r.fail x=⟨[],x⟩ from by simp[RS.fail,he])
  clear he
  go_enter func151,ntmps151
  go_wp2
  go_end0
  refine⟨rfl,?_,((U1.refl _ _).setCell _ _ (by simp)).setCell _ _ (by simp)⟩
  rw[HF.o]
  exact⟨⟨none,0,(h1.set 1 _).set 0 _,Nat.le_refl _,by simp[maxLen],QA.nil _ _ _,fun h=>absurd rfl h⟩,fun _=>rfl⟩
 ·have he':(r.e==0)=false:=by simp[he]
  have hl:r.l=[]:=h6 he
  have HF:=U0 (show r.fail x=⟨[],r.e⟩ from by cases r;simp only at he hl;subst hl;simp[RS.fail,he])
  clear he hl
  go_enter func151,ntmps151
  go_wp2
  go_end0
  refine⟨rfl,?_,(U1.refl _ _).setCell _ _ (by simp)⟩
  rw[HF.o]
  exact⟨⟨none,0,h1.set 0 _,Nat.le_refl _,by simp[maxLen],QA.nil _ _ _,fun h=>absurd rfl h⟩,fun _=>rfl⟩
def xU (p g:Nat) (r:RS) (n:Int) (w:World) (e:Ending) (w':World):Prop:=
 ∃ v,e= .returned v∧tH w w' v (r.raw n).1∧YA w' p g (r.raw n).2∧U1 [p] w w'
theorem LG (p g:Nat) (r:RS) (n:Int) (w:World) (h:YA w p g r) (hb:r.l.length≤140737488355328):
 Calls prog 152 #[.pointer (some ⟨p,0,none⟩),.int .i64 n] w (xU p g r n w):=by
 obtain⟨⟨A,c,h1,h2,h3,h4,h5⟩,h6⟩:=id h
 have hc0:w.cell? ⟨p,0,none⟩=some (.slice A r.l.length c):=h1.cell 0
 have hc1:w.cell? ⟨p,1,none⟩=some (.int .i64 r.e):=h1.cell 1
 have hf0:=h1.free 0
 unfold maxLen at h3
 by_cases he:r.e=0
 ·have he':(r.e==0)=true:=by simp[he]
  by_cases hn:n<0
  ·have HF:=U0 (show r.raw n=([],⟨[],2⟩) from by simp[RS.raw,hn,RS.fail,he])
   have HX:=U0 (show r.fail 2=⟨[],2⟩ from by simp[RS.fail,he])
   clear he
   go_enter func152,ntmps152
   go_wp2_with fail
   refine (BD p g r _ _ h).mono ?_;rintro e w1 ⟨rfl,hr1,hk1⟩
   rw[HX.o] at hr1
   obtain⟨⟨A1,c1,a1,a2,a3,a4,a5⟩,a6⟩:=id hr1
   have hd1:w1.cell? ⟨p,1,none⟩=some (.int .i64 2):=a1.cell 1
   have hd0:w1.cell? ⟨p,0,none⟩=some (.slice A1 0 c1):=a1.cell 0
   go_wp2
   go_ret
   exact⟨_,rfl,by rw[HF.o];exact⟨qA.nil _ _ _,by simp[Z6,Value.ownBlock]⟩,by rw[HF.o];exact hr1,hk1⟩
  ·obtain⟨m,rfl⟩:∃ m:Nat,n=(m:Int):=⟨n.toNat,by omega⟩
   by_cases hm:m≤r.l.length
   ·have HF:=U0 (show r.raw (m:Int)=(r.l.take m,⟨r.l.drop m,0⟩) from by
     unfold RS.raw;rw[if_neg hn,Int.toNat_natCast];simp[RS.take,RS.past,he,hm])
    have HE:=U0 he
    clear he
    have hml:(r.l.take m).length=m:=by rw[List.length_take];omega
    have HML:=U0 hml
    clear hml
    have d1: ¬(r.l.length:Int)<(m:Int):=by omega
    go_enter func152,ntmps152
    go_wp2_with fail
    refine (LH A g _ m (r.l.take m) _ HML.o (h4.take m) (by omega)).mono ?_;rintro e w1 ⟨v1,rfl,ho1,hf1,hk1⟩
    have hr1:=hk1.row h1 (by simp)
    have hd0:w1.cell? ⟨p,0,none⟩=some (.slice A r.l.length c):=hr1.cell 0
    have hd1:w1.cell? ⟨p,1,none⟩=some (.int .i64 r.e):=hr1.cell 1
    have hg0:=hr1.free 0
    have hs1:=h4.keep hk1 (by simp)
    have HH:=U0 (U2 ho1 hf1)
    have hpf:=qA.apart ho1 hr1 (by decide)
    clear ho1 hf1
    go_wp2
    all_goals
     go_ret
     have hks:∀ u,U1 [p] w1 (w1.setCell ⟨p,0,none⟩ u):=fun u=>(U1.refl [p] w1).setCell _ _ (.inl (by simp))
     refine⟨v1,rfl,?_,?_,(hk1.more (T:=[p]) (by simp)).then (hks _) (fun x hx=> .inl hx)⟩
     ·rw[HF.o]
      refine⟨?_,HH.o.2⟩
      have:=HH.o.1.keep (hks (.slice none 0 0)) (fun x hx hxp=>hpf (by simp at hxp;rw[←hxp];exact hx))
      exact HH.o.1.keep (hks _) (fun x hx hxp=>hpf (by simp at hxp;rw[←hxp];exact hx))
     ·rw[HF.o]
      first
       |(have hd:r.l.drop m=[]:=List.drop_eq_nil_of_le (by omega)
         refine⟨⟨A,0,?_,by simp[hd],by simp[maxLen],by rw[hd];exact QA.nil _ _ _,fun hne=>absurd hd hne⟩,fun hne=>absurd rfl hne⟩
         have:=hr1.set 0 (.slice A (r.l.length-m) 0)
         simpa[HE.o] using this)
       |(refine⟨⟨_,c-m,?_,by simp;omega,by unfold maxLen;omega,(hs1.drop m).keep (hks _) (fun hne=>by simpa using h5 (by rintro h0;apply hne;rw[h0];simp)),fun hne=>h5 (by rintro h0;apply hne;rw[h0];simp)⟩,fun hne=>absurd rfl hne⟩
         have:=hr1.set 0 (.slice (Option.map (fun x=>x.add m) A) (r.l.length-m) (c-m))
         simpa[HE.o] using this)
   ·have HF:=U0 (show r.raw (m:Int)=([],⟨[],3⟩) from by
     unfold RS.raw;rw[if_neg hn,Int.toNat_natCast];simp[RS.take,RS.past,he,hm])
    have HX:=U0 (show r.fail 3=⟨[],3⟩ from by simp[RS.fail,he])
    have d1:(r.l.length:Int)<(m:Int):=by omega
    clear he
    go_enter func152,ntmps152
    go_wp2_with fail
    refine (BD p g r _ _ h).mono ?_;rintro e w1 ⟨rfl,hr1,hk1⟩
    rw[HX.o] at hr1
    obtain⟨⟨A1,c1,a1,a2,a3,a4,a5⟩,a6⟩:=id hr1
    have hd1:w1.cell? ⟨p,1,none⟩=some (.int .i64 3):=a1.cell 1
    go_wp2
    go_ret
    exact⟨_,rfl,by rw[HF.o];exact⟨qA.nil _ _ _,by simp[Z6,Value.ownBlock]⟩,by rw[HF.o];exact hr1,hk1⟩
 ·have he':(r.e==0)=false:=by simp[he]
  have he2:(r.e !=0)=true:=by simp[he]
  have HF:=U0 (show r.raw n=([],r) from by
   unfold RS.raw;split
   ·simp[RS.fail,he]
   ·simp[RS.take,RS.past,he])
  clear he
  go_enter func152,ntmps152
  go_wp2
  go_ret
  exact⟨_,rfl,by rw[HF.o];exact⟨qA.nil _ _ _,by simp[Z6,Value.ownBlock]⟩,by rw[HF.o];exact h,U1.refl _ _⟩
def ZB (p g:Nat) (r:RS) (n:Int) (w:World) (e:Ending) (w':World):Prop:=
 e= .returned (.int .i64 (r.num n).1)∧YA w' p g (r.num n).2∧U1 [p] w w'
theorem KU (x b:Nat) (hx:x<2^56) (hb:b<256):IntKind.u64.wrap (IntKind.u64.wrap (256*(x:Int))+IntKind.u64.wrap (b:Int))=((x*256+b:Nat):Int):=by
 rw[aF (256*(x:Int)) (by omega) (by omega),aF (b:Int) (by omega) (by omega),aF _ (by omega) (by omega)]
 omega
def RS.pre (r:RS) (n:Int):RS:=if FI n=true then r else r.fail 2
theorem bW (r:RS) (n:Int):r.num n=if YF<be ((r.pre n).raw n).1 then (0,((r.pre n).raw n).2.fail 9) else (((be ((r.pre n).raw n).1:Nat):Int),((r.pre n).raw n).2):=by
 by_cases hw:FI n=true
 ·obtain⟨m,rfl⟩:∃ m:Nat,n=(m:Int):=⟨n.toNat,by rcases fC hw with h|h|h|h<;>omega⟩
  have hraw:r.raw (m:Int)=(r.take m,r.past m):=by unfold RS.raw;rw[if_neg (by omega)];rfl
  unfold RS.pre RS.num
  rw[if_pos hw,if_pos hw,hraw,Int.toNat_natCast]
  by_cases ht:r.took m=true
  ·rw[if_pos ht]
  ·rw[if_neg ht]
   have:r.take m=[]:=by rw[RS.took_iff] at ht;rw[RS.take,if_neg ht]
   simp[this,be,YF]
 ·have hp:(r.pre n).raw n=([],r.fail 2):=by
   unfold RS.pre;rw[if_neg hw]
   have he:(r.fail 2).e≠0:=by unfold RS.fail;split<;>simp_all
   generalize r.fail 2=s at he
   unfold RS.raw;split
   ·simp[RS.fail,he]
   ·simp[RS.take,RS.past,he]
  rw[hp]
  unfold RS.num;rw[if_neg hw];simp[be,YF]
theorem CW (r:RS) (n:Int):((r.pre n).raw n).1.length≤8:=by
 by_cases hw:FI n=true
 ·unfold RS.pre RS.raw RS.take
  rw[if_pos hw]
  rcases fC hw with h|h|h|h<;>subst h<;>simp<;>split<;>simp<;>omega
 ·unfold RS.pre RS.raw RS.take
  rw[if_neg hw]
  have he:(r.fail 2).e≠0:=by unfold RS.fail;split<;>simp_all
  simp[he]
  split<;>exact Nat.zero_le _
theorem ER (r:RS) (n:Int):(r.e=0∧FI n=true∧r.pre n=r)∨(r.e=0∧FI n=false∧r.pre n=r.fail 2)∨(r.e≠0∧r.pre n=r):=by
 unfold RS.pre RS.fail
 by_cases he:r.e=0<;>cases hw:FI n<;>simp[he]
theorem pre_le (r:RS) (n:Int):(r.pre n).l.length≤r.l.length:=by
 unfold RS.pre RS.fail
 split
 ·exact Nat.le_refl _
 ·split
  ·exact Nat.zero_le _
  ·exact Nat.le_refl _
theorem jC (p g:Nat) (r:RS) (n:Int) (w:World) (h:YA w p g r) (hb:r.l.length≤140737488355328):
 Calls prog 106 #[.pointer (some ⟨p,0,none⟩),.int .i64 n] w (ZB p g r n w):=by
 obtain⟨⟨A,c,h1,h2,h3,h4,h5⟩,h6⟩:=id h
 have hc1:w.cell? ⟨p,1,none⟩=some (.int .i64 r.e):=h1.cell 1
 have HR:=U0 (bW r n)
 have HL:=CW r n
 have hb':=Nat.le_trans (pre_le r n) hb
 rcases ER r n with⟨he,hw,hp⟩|⟨he,hw,hp⟩|⟨he,hp⟩
 case' inl=>
  have he':(r.e==0)=true:=by simp[he]
  have HW:=U0 hw
  have hi0:YA w p g (r.pre n):=by rw[hp];exact h
  have hk0:U1 [p] w w:=U1.refl _ _
  clear hw hp he
  go_enter func106,ntmps106
  go_wp2_with fail
  refine (QG _ _).mono ?_;rintro e w' ⟨rfl,rfl⟩
  rw[HW.o]
  go_wp2_with fail
 case' inr.inl=>
  have he':(r.e==0)=true:=by simp[he]
  have HW:=U0 hw
  have HP:=U0 hp
  clear hw hp he
  go_enter func106,ntmps106
  go_wp2_with fail
  refine (QG _ _).mono ?_;rintro e w' ⟨rfl,rfl⟩
  rw[HW.o]
  go_wp2_with fail
  refine (BD p g r _ _ h).mono ?_;rintro e w1 ⟨rfl,hi0,hk0⟩
  rw[←HP.o] at hi0
  go_wp2_with fail
 case' inr.inr=>
  have he':(r.e==0)=false:=by simp[he]
  have hi0:YA w p g (r.pre n):=by rw[hp];exact h
  have hk0:U1 [p] w w:=U1.refl _ _
  clear hp he
  go_enter func106,ntmps106
  go_wp2_with fail
 all_goals
  refine (LG p g _ _ _ hi0 hb').mono ?_;rintro e w2 ⟨v1,rfl,hf1,hr1,hk1⟩
  obtain⟨A1,c1,g1,rfl,_,_,hs1,_⟩:=hf1.1.seen
  clear hf1
  have hk2:=hk0.then hk1 (by simp)
  clear hk0 hk1 hi0
  generalize (r.pre n).raw n=Q at*
  obtain⟨l,r2⟩:=Q
  simp only at hs1 hr1 HL HR
  go_wp2_with fail
  go_loop [6,7] (fun n i=>∃ k:Nat,k≤l.length∧i= .int .i64 k∧n= .int .u64 (be (l.take k))) (fun _ i=>l.length-(intOf i).toNat)
  case atStart=>exact⟨0,Nat.zero_le _,rfl,rfl⟩
  case round=>
   obtain⟨k,hkm,rfl,rfl⟩:=hrel
   by_cases hlt2:k<l.length
   ·obtain⟨b,hb⟩:∃ b,l[k]? =some b:=⟨l[k]'hlt2,by simp⟩
    obtain⟨o,rfl,hlt,hc⟩:=hs1 (by rintro rfl;simp at hlt2)
    have hcell:=hc k b hb
    unfold bv at hcell
    have HB:=U0 (XP l k b hb)
    have HO:=U0 (KU (be (l.take k)) b.toNat (zJ l k (by omega)) b.toNat_lt)
    clear hc hb hs1
    go_wp2
    go_round
    case rel=>exact⟨k+1,by omega,by go_num,by rw[HB.o];first|exact congrArg _ HO.o|(rw[←HO.o];go_num)⟩
    case measure=>simp[intOf];omega
   ·obtain rfl:k=l.length:=by omega
    have hbl:=VP l HL
    rw[List.take_length]
    clear hs1
    by_cases hmx:YF<be l
    ·have hmx':(9007199254740991:Int)<(be l:Int):=by unfold YF at hmx;omega
     have HX:=U0 (HR.o.trans (if_pos hmx))
     clear hmx HR
     go_wp2_with fail
     refine (BD p g r2 _ _ hr1).mono ?_;rintro e w3 ⟨rfl,hi3,hk3⟩
     go_wp2
     go_ret
     exact⟨by rw[HX.o];rfl,by rw[HX.o];exact hi3,hk2.then hk3 (by simp)⟩
    ·have hmx': ¬(9007199254740991:Int)<(be l:Int):=by unfold YF at hmx;omega
     have HX:=U0 (HR.o.trans (if_neg hmx))
     clear hmx HR
     go_wp2
     go_ret
     exact⟨by rw[HX.o];go_num,by rw[HX.o];exact hr1,hk2⟩
def jB (p g:Nat) (r:RS) (most:Int) (w:World) (e:Ending) (w':World):Prop:=
 e= .returned (.int .i64 (r.count most).1)∧YA w' p g (r.count most).2∧U1 [p] w w'
def NT (p g:Nat) (l:List UInt8) (most:Int) (w:World) (e:Ending) (w':World):Prop:=
 e= .returned (.int .i64 (iG most l 0 0).1)∧YA w' p g (iG most l 0 0).2∧U1 [p] w w'
def qV (p g:Nat) (l:List UInt8) (most:Int) (w:World) (n i:Value) (wr:World):Prop:=
 ∃ (k m:Nat) (t:List UInt8),i= .int .i64 k∧n= .int .i64 m∧YA wr p g ⟨t,0⟩∧t.length≤l.length∧U1 [p] w wr∧
  ((k≤7∧m<128^k∧iG most t k m=iG most l 0 0)∨(k=8∧iG most l 0 0=(0,⟨[],4⟩)))
theorem yU (p g:Nat) (w:World) (h:YA w p g ⟨[],0⟩):
 Calls prog 152 #[.pointer (some ⟨p,0,none⟩),.int .i64 1] w fun e w'=>∃ A c,e= .returned (.slice A 0 c)∧YA w' p g ⟨[],3⟩∧U1 [p] w w':=by
 refine (LG p g _ 1 _ h (by simp)).mono ?_
 rintro e w1 ⟨v,rfl,hf,hr,hk⟩
 have:RS.raw ⟨[],0⟩ 1=([],⟨[],3⟩):=by simp[RS.raw,RS.take,RS.past]
 rw[this] at hf hr
 obtain⟨A1,c1,g1,rfl,_⟩:=hf.1.seen
 exact⟨A1,c1,rfl,hr,hk⟩
theorem FR (p g:Nat) (b:UInt8) (t:List UInt8) (w:World) (h:YA w p g ⟨b::t,0⟩) (hb:t.length<140737488355328):
 Calls prog 152 #[.pointer (some ⟨p,0,none⟩),.int .i64 1] w fun e w'=>∃ A c,e= .returned (.slice (some A) 1 c)∧w'.cell? A=some (.int .u8 (b.toNat:Int))∧YA w' p g ⟨t,0⟩∧U1 [p] w w':=by
 refine (LG p g _ 1 _ h (by simp;omega)).mono ?_
 rintro e w1 ⟨v,rfl,hf,hr,hk⟩
 have hq:RS.raw ⟨b::t,0⟩ 1=([b],⟨t,0⟩):=by simp[RS.raw,RS.take,RS.past]
 rw[hq] at hf hr
 obtain⟨A1,c1,g1,rfl,_,_,hs,_⟩:=hf.1.seen
 obtain⟨o,rfl,_,hc⟩:=hs (by simp)
 exact⟨⟨g1,o,none⟩,c1,rfl,hc 0 b rfl,hr,hk⟩
theorem YM (p g:Nat) (l:List UInt8) (most:Int) (w:World) (h:YA w p g ⟨l,0⟩) (hb:l.length≤140737488355328):
 Calls prog 107 #[.pointer (some ⟨p,0,none⟩),.int .i64 most] w (NT p g l most w):=by
 go_enter func107,ntmps107
 go_wp2
 go_loopw [5,6] (fun n i wr=>qV p g l most w n i wr) (fun _ i _=>9-(intOf i).toNat)
 case atStart=>exact⟨0,0,l,rfl,rfl,h,Nat.le_refl _,U1.refl _ _,.inl ⟨by omega,by simp,rfl⟩⟩
 case round=>
  obtain⟨k,m,t,rfl,rfl,hr,htl,hkb,hd⟩:=hrel
  obtain⟨⟨A,c,h1,h2,h3,h4,h5⟩,h6⟩:=id hr
  have hc1:wr.cell? ⟨p,1,none⟩=some (.int .i64 0):=h1.cell 1
  clear h1 h2 h3 h4 h5 h6
  rcases hd with⟨hk,hm,hc⟩|⟨rfl,hc⟩
  ·have hm7:=XN k m hk hm
   have HC:=U0 hc
   clear hc
   rcases t with _|⟨b,t⟩
   ·go_wp2_with fail
    refine (yU p g _ hr).mono ?_;rintro e w1 ⟨A1,c1,rfl,hi,hkb1⟩
    go_wp2
    go_ret
    have hn:=TL most k m
    rw[HC.o] at hn
    exact⟨by rw[hn];rfl,by rw[hn];exact hi,hkb.then hkb1 (by simp)⟩
   ·have htl':t.length<l.length:=by simp at htl;omega
    obtain⟨x,hx⟩:∃ x:Nat,x=m*128+b.toNat % 128:=⟨_,rfl⟩
    have hb256:=b.toNat_lt
    have hxb:x<72057594037927936:=by omega
    have HX:=U0 hx
    clear hx htl
    go_wp2_with fail
    refine (FR p g b t _ hr (by omega)).mono ?_;rintro e w1 ⟨A1,c1,rfl,hcell,hi,hkb1⟩
    have hkb2:=hkb.then hkb1 (by simp)
    clear hkb hkb1 hr
    by_cases h0:k=0∧b.toNat=128
    ·obtain⟨rfl,hb2⟩:=h0
     have hn:=bQ most t m b hb2
     rw[HC.o] at hn
     have HN:=U0 hn
     rw[hb2] at hcell
     clear hn
     go_wp2_with fail
     refine (BD p g _ _ _ hi).mono ?_;rintro e w3 ⟨rfl,hi3,hk3⟩
     go_wp2
     go_ret
     exact⟨by rw[HN.o];rfl,by rw[HN.o];exact hi3,hkb2.then hk3 (by simp)⟩
    ·have hx2:(128*(m:Int)+(b.toNat:Int) % 128)=(x:Int):=by rw[HX.o];omega
     by_cases hb8:b.toNat<128
     ·have d1: ¬(128:Int)≤(b.toNat:Int):=by omega
      have hlast:=QM most t k m b hb8
      rw[←HX.o,HC.o] at hlast
      unfold JD YF at hlast
      by_cases hmx:(9007199254740991:Int)<(x:Int)
      ·rw[if_pos (by omega)] at hlast
       have HL:=U0 hlast
       have d2:(9007199254740991:Int)<128*(m:Int)+(b.toNat:Int) % 128:=by rw[hx2];exact hmx
       clear hlast hmx hx2 HC HX
       go_wp2_with fail
       all_goals
        refine (BD p g _ _ _ hi).mono ?_;rintro e w3 ⟨rfl,hi3,hk3⟩
        go_wp2
        go_ret
        exact⟨by rw[HL.o];rfl,by rw[HL.o];exact hi3,hkb2.then hk3 (by simp)⟩
      ·rw[if_neg (by omega)] at hlast
       have d2: ¬(9007199254740991:Int)<128*(m:Int)+(b.toNat:Int) % 128:=by rw[hx2];exact hmx
       by_cases hmo:most<(x:Int)
       ·rw[if_pos hmo] at hlast
        have HL:=U0 hlast
        have d3:most<128*(m:Int)+(b.toNat:Int) % 128:=by rw[hx2];exact hmo
        clear hlast hmx hx2 hmo HC HX
        go_wp2_with fail
        all_goals
         refine (BD p g _ _ _ hi).mono ?_;rintro e w3 ⟨rfl,hi3,hk3⟩
         go_wp2
         go_ret
         exact⟨by rw[HL.o];rfl,by rw[HL.o];exact hi3,hkb2.then hk3 (by simp)⟩
       ·rw[if_neg hmo] at hlast
        have HL:=U0 hlast
        have d3: ¬most<128*(m:Int)+(b.toNat:Int) % 128:=by rw[hx2];exact hmo
        have HX2:=U0 hx2
        clear hlast hmx hx2 hmo HC HX
        go_wp2_with fail
        all_goals
         go_ret
         exact⟨by rw[HL.o,HX2.o];rfl,by rw[HL.o];exact hi,hkb2⟩
     ·have d1:(128:Int)≤(b.toNat:Int):=by omega
      have hx128:x<128^(k+1):=by rw[Nat.pow_succ,HX.o];have:=b.toNat_lt;omega
      have hon:k=7∧iG most l 0 0=(0,⟨[],4⟩)∨k≤6∧iG most t (k+1) x=iG most l 0 0:=by
       by_cases h7:k=7
       ·subst h7;exact .inl ⟨rfl,by rw[←HC.o,TM most t m b hb8]⟩
       ·exact .inr ⟨by omega,by rw[←HC.o,PT most t k m b h0 hb8 h7,HX.o]⟩
      have HON:=U0 hon
      have HX2:=U0 hx2
      clear hon HC HX hx2
      go_wp2_with fail
      all_goals
       go_round
       case rel=>
        refine⟨k+1,x,t,by go_num,by rw[HX2.o],hi,by omega,hkb2,?_⟩
        rcases HON.o with⟨h7,hc⟩|⟨h6,hc⟩
        ·exact .inr ⟨by omega,hc⟩
        ·exact .inl ⟨by omega,hx128,hc⟩
       case measure=>simp[intOf];omega
  ·have HC:=U0 hc
   clear hc
   go_wp2_with fail
   refine (BD p g _ _ _ hr).mono ?_;rintro e w3 ⟨rfl,hi3,hk3⟩
   go_wp2
   go_ret
   exact⟨by rw[HC.o];rfl,by rw[HC.o];exact hi3,hkb.then hk3 (by simp)⟩
theorem ZM (p g:Nat) (r:RS) (most:Int) (w:World) (h:YA w p g r) (he:r.e≠0):
 Calls prog 107 #[.pointer (some ⟨p,0,none⟩),.int .i64 most] w (jB p g r most w):=by
 obtain⟨⟨A,c,h1,h2,h3,h4,h5⟩,h6⟩:=id h
 have hc1:w.cell? ⟨p,1,none⟩=some (.int .i64 r.e):=h1.cell 1
 have he':(r.e==0)=false:=by simp[he]
 have HF:=U0 (show r.count most=(0,r) from by unfold RS.count;rw[if_neg he])
 clear he
 go_enter func107,ntmps107
 go_wp2
 refine wp_loop_rounds 1 ?_
 rw[rounds_succ]
 go_wp2
 go_ret
 exact⟨by rw[HF.o];rfl,by rw[HF.o];exact h,U1.refl _ _⟩
theorem vB (p g:Nat) (r:RS) (most:Int) (w:World) (h:YA w p g r) (hb:r.l.length≤140737488355328):
 Calls prog 107 #[.pointer (some ⟨p,0,none⟩),.int .i64 most] w (jB p g r most w):=by
 by_cases he:r.e=0
 ·obtain⟨l,e⟩:=r
  simp only at he
  subst he
  have hcnt:(RS.mk l 0).count most=iG most l 0 0:=by simp[RS.count]
  unfold jB
  rw[hcnt]
  exact YM p g l most w h hb
 ·exact ZM p g r most w h he
def GD (p g:Nat) (r:RS) (n:Int) (w:World) (e:Ending) (w':World):Prop:=
 ∃ v,e= .returned v∧tH w w' v (r.text n).1∧YA w' p g (r.text n).2∧U1 [p] w w'
theorem RS.text_stop (r:RS) (n:Int) (h:(r.count n).2.e≠0):r.text n=([],(r.count n).2):=by
 unfold RS.text
 generalize (r.count n).1=x
 generalize (r.count n).2=s at h
 unfold RS.raw
 split
 ·simp[RS.fail,h]
 ·simp[RS.take,RS.past,h]
theorem uE (p g:Nat) (r:RS) (n:Int) (w:World) (h:YA w p g r) (hb:r.l.length≤140737488355328):
 Calls prog 109 #[.pointer (some ⟨p,0,none⟩),.int .i64 n] w (GD p g r n w):=by
 have hb2:=RS.count_short r n
 by_cases he:(r.count n).2.e=0
 ·have he':((r.count n).2.e !=0)=false:=by simp[he]
  clear he
  go_enter func109,ntmps109
  go_wp2_with fail
  refine (vB p g r n _ h hb).mono ?_;rintro e w1 ⟨rfl,hi,hk⟩
  obtain⟨⟨A,c,h1,h2,h3,h4,h5⟩,h6⟩:=id hi
  have hc1:w1.cell? ⟨p,1,none⟩=some (.int .i64 (r.count n).2.e):=h1.cell 1
  go_wp2_with fail
  refine (LG p g _ _ _ hi (by omega)).mono ?_;rintro e w2 ⟨v,rfl,hf,hi2,hk2⟩
  go_wp2
  go_ret
  exact⟨_,rfl,⟨hf.1,fun x hx=>by have:=hf.2 x hx;have:=hk.size;omega⟩,hi2,hk.then hk2 (by simp)⟩
 ·have he':((r.count n).2.e !=0)=true:=by simp[he]
  have HT:=U0 (RS.text_stop r n he)
  clear he
  go_enter func109,ntmps109
  go_wp2_with fail
  refine (vB p g r n _ h hb).mono ?_;rintro e w1 ⟨rfl,hi,hk⟩
  obtain⟨⟨A,c,h1,h2,h3,h4,h5⟩,h6⟩:=id hi
  have hc1:w1.cell? ⟨p,1,none⟩=some (.int .i64 (r.count n).2.e):=h1.cell 1
  go_wp2
  go_ret
  exact⟨_,rfl,by rw[HT.o];exact⟨qA.nil _ _ _,by simp[Z6,Value.ownBlock]⟩,by rw[HT.o];exact hi,hk⟩
theorem p8 (p g:Nat) (r:RS) (w:World) (h:YA w p g r):
 Calls prog 110 #[.pointer (some ⟨p,0,none⟩)] w fun e w'=>e= .returned (.int .i64 r.e)∧w=w':=by
 obtain⟨⟨A,c,h1,h2,h3,h4,h5⟩,h6⟩:=h
 have hc1:w.cell? ⟨p,1,none⟩=some (.int .i64 r.e):=h1.cell 1
 go_enter func110,ntmps110
 go_wp2
 go_ret
 exact⟨rfl,rfl⟩
theorem SC (p g:Nat) (r:RS) (w:World) (h:YA w p g r):
 Calls prog 101 #[.pointer (some ⟨p,0,none⟩)] w fun e w'=>e= .returned (.int .i64 r.end_)∧w=w':=by
 obtain⟨⟨A,c,h1,h2,h3,h4,h5⟩,h6⟩:=h
 have hc0:w.cell? ⟨p,0,none⟩=some (.slice A r.l.length c):=h1.cell 0
 have hc1:w.cell? ⟨p,1,none⟩=some (.int .i64 r.e):=h1.cell 1
 by_cases he:r.e=0
 ·have he':(r.e==0)=true:=by simp[he]
  by_cases hl:r.l=[]
  ·have HE:=U0 (show r.end_=r.e from by unfold RS.end_;rw[if_pos he,if_pos hl,he])
   have d1: ¬(0:Int)<(r.l.length:Int):=by simp[hl]
   clear he hl
   go_enter func101,ntmps101
   go_wp2
   go_ret
   exact⟨by rw[HE.o];rfl,rfl⟩
  ·have HE:=U0 (show r.end_=4 from by unfold RS.end_;rw[if_pos he,if_neg hl])
   have d1:(0:Int)<(r.l.length:Int):=by have:=List.length_pos_iff.2 hl;omega
   clear he hl
   go_enter func101,ntmps101
   go_wp2
   go_ret
   exact⟨by rw[HE.o];rfl,rfl⟩
 ·have he':(r.e==0)=false:=by simp[he]
  have HE:=U0 (show r.end_=r.e from by unfold RS.end_;rw[if_neg he])
  clear he
  go_enter func101,ntmps101
  go_wp2
  go_ret
  exact⟨by rw[HE.o];rfl,rfl⟩
theorem bH (A:Option Addr) (g c n:Nat) (l:List UInt8) (w:World) (hn:l.length=n) (h:QA w A g l) (hb:n≤140737488355328):
 Calls prog 98 #[.slice A n c] w fun e w'=>∃ p g',e= .returned (.pointer (some ⟨p,0,none⟩))∧YA w' p g' ⟨l,0⟩∧w.heap.size≤p∧(l≠[]→w.heap.size≤g')∧U1 [] w w':=by
 go_enter func98,ntmps98
 go_wp2_with fail
 refine (LH A g c n l _ hn h hb).mono ?_;rintro e w1 ⟨v1,rfl,ho1,hf1,hk1⟩
 obtain⟨A3,c3,g3,rfl,h1,h2,h3,h4⟩:=ho1.seen
 have hlt:=ho1.lt
 clear ho1
 go_wp2
 go_ret
 have hkA:U1 [] w1 (w1.alloc (.cells #[.slice A3 l.length c3,.int .i64 0] 150)):=(U1.refl [] w1).alloc _
 subst hn
 exact⟨w1.heap.size,g3,rfl,⟨⟨A3,c3,l5.new _ _ _,h1,h2,h3.keep hkA (by simp),fun hne=>by have:=hlt g3 (h4 hne);omega⟩,fun hne=>absurd rfl hne⟩,hk1.size,fun hne=>hf1 g3 (h4 hne),hk1.then hkA (by simp)⟩
theorem YA.gl {w:World} {p g:Nat} {r:RS} (h:YA w p g r) (hne:r.l≠[]):g<w.heap.size:=by
 obtain⟨⟨A,c,_,_,_,h4,_⟩,_⟩:=h
 obtain⟨o,_,h6,_⟩:=h4 hne
 exact h6
def fU (wb:World) (b:Nat) (l:List UInt8) (w:World) (i:Nat):Prop:=
 l5 w b 23 (U7 (X8 (l.take i))).toArray∧U1 [b] wb w
theorem fU.next {wb w:World} {b i:Nat} {l:List UInt8} (h:fU wb b l w i) (hi:i<l.length) (hl:l.length≤32):fU wb b l (w.setCell ⟨b,i,none⟩ (.int .u8 ((l[i]).toNat:Int))) (i+1):=by
 refine⟨?_,h.2.setCell ⟨b,i,none⟩ _ (.inl (by simp))⟩
 have h1:=h.1.set i (.int .u8 ((l[i]).toNat:Int))
 have h2:(U7 (X8 (l.take i))).toArray.setIfInBounds i (.int .u8 ((l[i]).toNat:Int))=(U7 (X8 (l.take (i+1)))).toArray:=by
  rw[F3]
  congr 1
  unfold U7 X8
  apply List.ext_getElem?
  intro j
  simp only[List.getElem?_set,List.length_map,List.length_append,List.length_replicate,List.length_take,List.getElem?_map,List.getElem?_append,List.getElem?_take,List.getElem?_replicate]
  rw[show min (i+1) l.length=i+1 by omega,show min i l.length=i by omega]
  by_cases h3:i=j
  ·subst h3
   rw[if_pos rfl,if_pos (by omega),if_pos (by omega),if_pos (by omega),List.getElem?_eq_getElem hi]
   rfl
  ·rw[if_neg h3]
   by_cases h4:j<i
   ·rw[if_pos h4,if_pos h4,if_pos (by omega),if_pos (by omega)]
   ·have h5: ¬j<i+1:=by omega
    rw[if_neg h4,if_neg h5]
    by_cases h6:j<32
    ·rw[if_pos (by omega),if_pos (by omega)]
    ·rw[if_neg (by omega),if_neg (by omega)]
 rw[h2] at h1
 exact h1
theorem aL (p g:Nat) (r:RS) (w:World) (hr:YA w p g r) (hb:r.l.length≤140737488355328):
 Calls prog 108 #[.pointer (some ⟨p,0,none⟩)] w fun e w'=>e= .returned (.agg (U7 (X8 (r.raw 32).1)).toArray)∧YA w' p g (r.raw 32).2∧U1 [p] w w':=by
 obtain⟨Z,hZ⟩:∃ Z,U7 (List.replicate 32 0)=Z:=⟨_,rfl⟩
 have zl:Z.length=32:=by rw[←hZ,A8,List.length_replicate]
 have zv:=TU
 have hsp:Z=U7 (X8 ((r.raw 32).1.take 0)):=by rw[←hZ];rfl
 rw[hZ] at zv
 obtain⟨wA,hwA⟩:∃ wA,w.alloc (.cells Z.toArray 23)=wA:=⟨_,rfl⟩
 obtain⟨wB,hwB⟩:∃ wB,wA.alloc (.cells Z.toArray 23)=wB:=⟨_,rfl⟩
 have rA:=l5.new w 23 Z.toArray
 have rB:=l5.new wA 23 Z.toArray
 have kA:=(U1.refl [] w).alloc (.cells Z.toArray 23)
 have kB:=(U1.refl [] wA).alloc (.cells Z.toArray 23)
 rw[hwA] at rA kA
 rw[hwB] at rB kB
 have rA3:=kB.row rA (by simp)
 have kk:=kA.then kB (by simp)
 have hlA:w.heap.size<wA.heap.size:=rA.lt
 have hpl:=hr.lt
 have HW:=U0 (U2 hwA (U2 hwB zv))
 have HR:=U0 (U2 rA3 (U2 rB (U2 kk (U2 (hr.keep kk (by simp) (by simp)) (U2 hlA (U2 zl hsp))))))
 have HL:=U0 (U2 hb (U2 (pE r) (fun hne:r.l≠[]=>hr.gl hne)))
 clear hwA hwB zv rA rB kA kB rA3 kk hr hlA zl hsp hb hZ
 have hpA:wA.heap.size≠p:=by have:=HR.o.2.2.2.2.1;omega
 have hpw:w.heap.size≠p:=by omega
 go_enter func108,ntmps108
 go_upto_region 2 with (first
  |(with_reducible refine F5 _ _ rfl 23 rfl _ HW.o.2.2 HW.o.1 ?_)
  |(with_reducible refine F5 _ _ rfl 23 rfl _ HW.o.2.2 HW.o.2.1 ?_))
 go_wp2_with (first
  |(go_at_call 152;refine (LG p g r 32 _ HR.o.2.2.2.1 HL.o.1).mono ?_;rintro e w4 ⟨v,rfl,⟨ho,hh⟩,hr4,hk4⟩;obtain⟨A4,c4,rfl,h41,h42,h43,hrd4⟩:=ho.form;have H4:=U0 (U2 hr4 (U2 hk4 (U2 ho (U2 hrd4 (U2 hh h43)))));clear hr4 hk4 ho hrd4 hh))
 obtain⟨L,hL⟩:∃ L,(r.raw 32).1=L:=⟨_,rfl⟩
 obtain⟨g4,hg4⟩:=EA (.slice A4 (r.raw 32).1.length c4)
 have hse:QA w4 A4 g4 (r.raw 32).1:=MB.seenB (H4.o.2.2.2.1 g4 hg4)
 have hgA:(r.raw 32).1≠[]→g4≠wA.heap.size:=fun hne=>by
  obtain⟨o,hA,_⟩:=hse hne
  have h1:=H4.o.2.2.2.2.1 g4 (by rw[hA];simp[V8])
  have h2:=HR.o.2.1.lt
  omega
 have hN0:fU w4 wA.heap.size (r.raw 32).1 w4 0:=⟨by rw[←HR.o.2.2.2.2.2.2];exact H4.o.2.1.row HR.o.2.1 (by simp[hpA]),U1.refl _ _⟩
 have hl32:=HL.o.2.1
 have hE:=H4.o.1
 have hK:=H4.o.2.1
 rw[hL] at hse hgA hN0 hl32
 have HF:=U0 (U2 hE (U2 hK hL))
 rw[hL]
 have HN:=U0 hN0
 have HSe:=U0 (U2 hse hgA)
 clear hse hgA hN0 hE hK hg4 H4 h41 h42 h43 hL
 go_loopw [5] (fun v wx=>∃ i:Nat,i≤L.length∧v= .int .i64 (i:Int)∧V5 (fU w4 wA.heap.size L wx i)) (fun v _=>33-(intOf v).toNat)
 case atStart=>exact⟨0,Nat.zero_le _,rfl,HN⟩
 case round=>
  obtain⟨i,hil,rfl,H5⟩:=hrel
  by_cases hlt:i<L.length
  ·obtain⟨o,rfl,hg1,hc1⟩:=HSe.o.1 (by intro e;rw[e] at hlt;simp at hlt)
   have hcl:wr.cell? ⟨g4,o+i,none⟩=some (.int .u8 ((L[i]).toNat:Int)):=(H5.o.2.cell (p:=⟨g4,o+i,none⟩) hg1 (by have:=HSe.o.2 (by intro e;rw[e] at hlt;simp at hlt);simpa using this)).trans (hc1 i _ (List.getElem?_eq_getElem hlt))
   have HX:=U0 (H5.o.next hlt hl32)
   have hfr:=H5.o.1.free i
   obtain⟨z,hz⟩:∃ z,wr.cell? ⟨wA.heap.size,i,none⟩=some z:=⟨_,(H5.o.1.cell i).trans (by rw[List.getElem?_toArray];exact List.getElem?_eq_getElem (by rw[A8,aD (by rw[List.length_take];omega)];omega))⟩
   have hi2:(i:Int)<(L.length:Int):=by omega
   have hi3:(i:Int)<32:=by omega
   have hi0:(0:Int)≤(i:Int):=by omega
   have hwi:IntKind.i64.wrap ((i:Int)+1)=(i:Int)+1:=by rw[IntKind.wrap_i64];omega
   clear hc1
   go_wp2_with fail
   go_roundw
   case rel=>exact⟨i+1,by omega,by go_num,HX⟩
   case measure=>simp only[intOf];omega
  ·have hi2: ¬(i:Int)<(L.length:Int):=by omega
   have hie:i=L.length:=by omega
   subst hie
   have h5:=H5.o.1
   rw[List.take_of_length_le (Nat.le_refl _)] at h5
   have hnl:(U7 (X8 L)).length=32:=by rw[A8,aD hl32]
   have kD:U1 [p] w wr:=((HR.o.2.2.1.more (by simp)).then HF.o.2.1 (by simp)).then H5.o.2 (fun x hx=> .inr (by simp at hx;have:=HR.o.2.2.2.2.1;omega))
   have rwr:=H5.o.2.row (HF.o.2.1.row HR.o.1 (by simp[hpw])) (by simp;have:=HR.o.2.2.2.2.1;omega)
   have hgl:(r.raw 32).2.l≠[]→g<w.heap.size:=fun hne=>HL.o.2.2 (qF hne)
   have hr5:=HF.o.1.keep H5.o.2 (by simp;exact fun e=>hpA e.symm) (fun hne=>by have:=hgl hne;have:=HR.o.2.2.2.2.1;simp;omega)
   have rs:=rwr.setL (vs:=U7 (X8 L)) (o:=0)
   rw[F7 (by rw[hnl,U4];exact HR.o.2.2.2.2.2.1.symm)] at rs
   have ks:=(U1.refl [w.heap.size] wr).setL (vs:=U7 (X8 L)) (g:=w.heap.size) (o:=0) (by simp)
   have kf:=kD.setL (vs:=U7 (X8 L)) (g:=w.heap.size) (o:=0) (.inr (Nat.le_refl _))
   have hr6:=hr5.keep ks (by simp;exact fun e=>hpw e.symm) (fun hne=>by have:=hgl hne;simp;omega)
   have ht:=rwr.there (o:=0) (n:=(U7 (X8 L)).toArray.size) (by simp only[U4];have:=HR.o.2.2.2.2.2.1;omega)
   have hI:(prog.info? 23).map (·.size)=some (U7 (X8 L)).length:=by rw[hnl];exact xB
   have hJ:(prog.info? 23).map (·.size)=some (U7 (X8 L)).toArray.size:=by rw[U4];exact hI
   have HS:=U0 (U2 h5.rangeAll (U2 rs (U2 ht (U2 hI (U2 hJ (U2 hr6 kf))))))
   have HO:=U0 (all_oneCell_toArray (jD (X8 L)))
   clear h5 rwr rs ks kf hr6 ht hI hJ hr5 kD hgl hnl
   go_wp2_with (first
    |(refine wpList_load_mid rfl 23 (.tmp 3) rfl wA.heap.size 0 rfl _ _ HS.o.1 underlying23 rfl HS.o.2.2.2.1 ?_)
    |(refine wpList_store_mid rfl 23 (.tmp 2) (.tmp 24) rfl w.heap.size 0 (U7 (X8 L)).toArray rfl rfl HS.o.2.2.1 HS.o.2.2.2.2.1 HO.o ?_))
   refine bodyPost_ret (results_cell_row rfl _ _ w.heap.size 23 _ (0,0) _ rfl HS.o.2.1 underlying23 rfl HS.o.2.2.2.2.1) rfl ?_
   exact⟨by rw[HF.o.2.2],HS.o.2.2.2.2.2.1,HS.o.2.2.2.2.2.2⟩
end Go.Proofs.YthfdkonhjpdflaaGreatDoor
