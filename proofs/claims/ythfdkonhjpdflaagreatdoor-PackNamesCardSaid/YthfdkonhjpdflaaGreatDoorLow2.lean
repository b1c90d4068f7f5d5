import Derived.Test.YthfdkonhjpdflaaGreatDoorLow1
import Derived.Handy
namespace Go.Proofs.YthfdkonhjpdflaaGreatDoor
open Go.RowKit Go.Proofs.Tryz
set_option linter.unusedVariables false
set_option maxHeartbeats 1000000
set_option maxRecDepth 100000
def jg (w:World) (p g:Nat) (r:RS):Prop:=
 ∃ A c,aC w p 139 #[.slice A r.l.length c,.int .i64 r.e]∧r.l.length≤c∧c≤maxLen∧dI w A g r.l∧(r.l≠[]→g≠p)
theorem jg.keep {S:List Nat} {w w':World} {p g:Nat} {r:RS} (h:jg w p g r) (hk:ag S w w') (hp:p∉S) (hg:r.l≠[]→g∉S):jg w' p g r:=by
 obtain⟨A,c,h1,h2,h3,h4,h5⟩:=h
 exact⟨A,c,hk.row h1 hp,h2,h3,h4.keep hk hg,h5⟩
theorem jg.lt {w:World} {p g:Nat} {r:RS} (h:jg w p g r):p<w.heap.size:=by
 obtain⟨A,c,h1,_⟩:=h;exact h1.lt
def AZ (p g:Nat) (r:RS) (x:Int) (w:World) (e:Ending) (w':World):Prop:=
 e= .returned (.tuple #[])∧jg w' p g (r.fail x)∧ag [p] w w'
theorem jb (p g:Nat) (r:RS) (x:Int) (w:World) (h:jg w p g r):
 Calls prog 139 #[.pointer (some ⟨p,0,none⟩),.int .i64 x] w (AZ p g r x w):=by
 obtain⟨A,c,h1,h2,h3,h4,h5⟩:=h
 have hc0:w.cell? ⟨p,0,none⟩=some (.slice A r.l.length c):=h1.cell 0
 have hc1:w.cell? ⟨p,1,none⟩=some (.int .i64 r.e):=h1.cell 1
 have hf0:=h1.free 0
 have hf1:=h1.free 1
 by_cases he:r.e=0
 ·have he':(r.e==0)=true:=by simp[he]
  have H:=aa he
  clear he
  go_enter func139,ntmps139
  go_wp2
  go_end0
  refine⟨rfl,⟨none,0,?_,?_,?_,?_,by simp only[RS.fail,if_pos H.o];exact fun h=>absurd rfl h⟩,((ag.refl _ _).setCell _ _ (by simp)).setCell _ _ (by simp)⟩
  ·simp only[RS.fail,if_pos H.o]
   exact (h1.set 1 _).set 0 _
  ·simp only[RS.fail,if_pos H.o]
   exact Nat.le_refl _
  ·simp[maxLen]
  ·simp only[RS.fail,if_pos H.o]
   exact dI.nil _ _ _
 ·have he':(r.e==0)=false:=by simp[he]
  go_enter func139,ntmps139
  go_wp2
  go_end0
  have hf:r.fail x=r:=by simp[RS.fail,he]
  exact⟨rfl,by rw[hf];exact⟨A,c,h1,h2,h3,h4,h5⟩,ag.refl _ _⟩
def BN (p g:Nat) (r:RS) (n:Nat) (w:World) (e:Ending) (w':World):Prop:=
 ∃ A c,e= .returned (.tuple #[.slice A (r.take n).length c,.bool (r.took n)])∧(r.take n).length≤c∧c≤maxLen∧dI w' A g (r.take n)∧jg w' p g (r.past n)∧ag [p] w w'
theorem jL (p g:Nat) (r:RS) (n:Nat) (w:World) (h:jg w p g r):
 Calls prog 140 #[.pointer (some ⟨p,0,none⟩),.int .i64 n] w (BN p g r n w):=by
 obtain⟨A,c,h1,h2,h3,h4,h5⟩:=id h
 have hc0:w.cell? ⟨p,0,none⟩=some (.slice A r.l.length c):=h1.cell 0
 have hc1:w.cell? ⟨p,1,none⟩=some (.int .i64 r.e):=h1.cell 1
 have hf0:=h1.free 0
 have hf1:=h1.free 1
 unfold maxLen at h3
 by_cases he:r.e=0
 ·have he':(r.e==0)=true:=by simp[he]
  have H:=aa he
  clear he
  by_cases hn:n≤r.l.length
  ·have T:r.take n=r.l.take n:=by simp[RS.take,H.o,hn]
   have P:r.past n=⟨r.l.drop n,0⟩:=by simp[RS.past,H.o,hn]
   have K:r.took n=true:=by simp[RS.took,H.o,hn]
   have L:(r.take n).length=n:=by rw[T,List.length_take];omega
   have HT:=aa T;have HP:=aa P;have HK:=aa K;have HL:=aa L
   clear T P K L
   go_enter func140,ntmps140
   go_wp2
   ·go_ret2
    refine⟨A,n,by rw[HK.o,HL.o];rfl,by rw[HL.o];omega,by unfold maxLen;omega,?_,?_,(ag.refl _ _).setCell _ _ (by simp)⟩
    ·rw[HT.o];exact (h4.take n).keep ((ag.refl [p] w).setCell _ _ (by simp)) (fun hne=>by simpa using h5 (by rintro h0;apply hne;rw[h0];simp))
    ·rw[HP.o]
     have hd:r.l.drop n=[]:=List.drop_eq_nil_of_le (by omega)
     refine⟨A,0,?_,by simp[hd],by simp[maxLen],by rw[hd];exact dI.nil _ _ _,fun hne=>absurd hd hne⟩
     have:=h1.set 0 (.slice A (r.l.length-n) 0)
     simpa[H.o] using this
   ·go_ret2
    refine⟨A,c,by rw[HK.o,HL.o];rfl,by rw[HL.o];omega,by unfold maxLen;omega,?_,?_,(ag.refl _ _).setCell _ _ (by simp)⟩
    ·rw[HT.o];exact (h4.take n).keep ((ag.refl [p] w).setCell _ _ (by simp)) (fun hne=>by simpa using h5 (by rintro h0;apply hne;rw[h0];simp))
    ·rw[HP.o]
     refine⟨_,c-n,?_,by simp;omega,by unfold maxLen;omega,(h4.drop n).keep ((ag.refl [p] w).setCell _ _ (by simp)) (fun hne=>by simpa using h5 (by rintro h0;apply hne;rw[h0];simp)),fun hne=>h5 (by rintro h0;apply hne;rw[h0];simp)⟩
     have:=h1.set 0 (.slice (Option.map (fun x=>x.add n) A) (r.l.length-n) (c-n))
     simpa[H.o] using this
  ·have T:r.take n=[]:=by simp[RS.take,H.o,hn]
   have P:r.past n=r.fail 3:=by simp[RS.past,RS.fail,H.o,hn]
   have K:r.took n=false:=by simp[RS.took,hn]
   have HT:=aa T;have HP:=aa P;have HK:=aa K
   clear T P K
   go_enter func140,ntmps140
   go_wp2_with (go_at_call 139;refine (jb p g r _ _ h).mono ?_;rintro e w' ⟨rfl,hi,hk⟩)
   go_ret2
   exact⟨none,0,by rw[HK.o,HT.o];rfl,by rw[HT.o];simp,by simp[maxLen],by rw[HT.o];exact dI.nil _ _ _,by rw[HP.o];exact hi,hk⟩
 ·have he':(r.e==0)=false:=by simp[he]
  have T:r.take n=[]:=by simp[RS.take,he]
  have P:r.past n=r:=by simp[RS.past,he]
  have K:r.took n=false:=by simp[RS.took,he]
  have HT:=aa T;have HP:=aa P;have HK:=aa K
  clear T P K
  go_enter func140,ntmps140
  go_wp2
  go_ret2
  exact⟨none,0,by rw[HK.o,HT.o];rfl,by rw[HT.o];simp,by simp[maxLen],by rw[HT.o];exact dI.nil _ _ _,by rw[HP.o];exact h,ag.refl _ _⟩
theorem xQ (l:List UInt8) (k:Nat) (b:UInt8) (h:l[k]? =some b):be (l.take (k+1))=be (l.take k)*256+b.toNat:=by
 rw[List.take_add_one,h]
 simp[be,List.foldl_append]
theorem Ao (l:List UInt8):be l<256^l.length:=by
 have key:∀ (l:List UInt8) (n m:Nat),n<256^m→l.foldl (fun n b=>n*256+b.toNat) n<256^(m+l.length):=by
  intro l
  induction l with
  |nil=>intro n m h;simpa using h
  |cons b t ih=>
   intro n m h
   have:=ih (n*256+b.toNat) (m+1) (by have:=b.toNat_lt;rw[Nat.pow_succ];omega)
   simp only[List.foldl_cons,List.length_cons]
   rw[show m+(t.length+1)=m+1+t.length by omega]
   exact this
 simpa[be] using key l 0 0 (by simp)
theorem pR (l:List UInt8) (k:Nat) (hk:k≤7):be (l.take k)<2^56:=by
 have h:=Ao (l.take k)
 have h2:256^(l.take k).length≤256^7:=Nat.pow_le_pow_right (by decide) (by have:=List.length_take_le k l;omega)
 have:(256:Nat)^7=2^56:=by decide
 omega
theorem xP (l:List UInt8) (hl:l.length≤8):be l<2^64:=by
 have h:=Ao l
 have h2:256^l.length≤256^8:=Nat.pow_le_pow_right (by decide) hl
 have:(256:Nat)^8=2^64:=by decide
 omega
theorem il (n:Int) (w:World):Calls prog 120 #[.int .i64 n] w fun e w'=>e= .returned (.bool (nX n))∧w=w':=by
 by_cases h1:n=1
 ·subst h1
  go_enter func120,ntmps120
  go_wp2
  go_ret
  exact⟨rfl,rfl⟩
 by_cases h2:n=2
 ·subst h2
  go_enter func120,ntmps120
  go_wp2
  go_ret
  exact⟨rfl,rfl⟩
 by_cases h4:n=4
 ·subst h4
  go_enter func120,ntmps120
  go_wp2
  go_ret
  exact⟨rfl,rfl⟩
 ·have e1:(n==1)=false:=by simp[h1]
  have e2:(n==2)=false:=by simp[h2]
  have e4:(n==4)=false:=by simp[h4]
  have hw:nX n=(n==8):=by simp[nX,h1,h2,h4]
  have HW:=aa hw
  clear hw
  go_enter func120,ntmps120
  go_wp2
  go_ret
  exact⟨by rw[HW.o];rfl,rfl⟩
theorem fo {n:Int} (h:nX n=true):n=1∨n=2∨n=4∨n=8:=by
 simpa[nX,or_assoc] using h
def fJ (p g:Nat) (r:RS) (n:Int) (w:World) (e:Ending) (w':World):Prop:=
 e= .returned (.int .i64 (r.num n).1)∧jg w' p g (r.num n).2∧ag [p] w w'
theorem fP (p g:Nat) (r:RS) (n:Int) (w:World) (h:jg w p g r):
 Calls prog 94 #[.pointer (some ⟨p,0,none⟩),.int .i64 n] w (fJ p g r n w):=by
 by_cases hw:nX n=true
 ·obtain⟨m,rfl⟩:∃ m:Nat,n=(m:Int):=⟨n.toNat,by rcases fo hw with h|h|h|h<;>omega⟩
  have hm:1≤m∧m≤8:=by rcases fo hw with h|h|h|h<;>omega
  by_cases ht:r.took m=true
  ·have hl:(r.take m).length=m:=by
    rw[RS.took_iff] at ht;rw[RS.take,if_pos ht,List.length_take];omega
   have HL:=aa hl
   have HT:=aa ht
   clear hl
   go_enter func94,ntmps94
   go_wp2_with (first|(go_at_call 120;refine (il _ _).mono ?_;rintro e w' ⟨rfl,rfl⟩)|(go_at_call 140;refine (jL p g r m _ h).mono ?_;rintro e w1 ⟨A,c,rfl,hk1,hk2,hs,hi,hk⟩))
   generalize hgl:r.take m=l at*
   obtain⟨o,rfl,hlt,hc⟩:=hs (by rintro rfl;have:=HL.o;simp at this;omega)
   go_loop [7,23] (fun n i=>∃ k:Nat,k≤m∧i= .int .i64 k∧n= .int .u64 (be (l.take k))) (fun _ i=>m-(intOf i).toNat)
   case atStart=>exact⟨0,Nat.zero_le _,rfl,rfl⟩
   case round=>
    obtain⟨k,hkm,rfl,rfl⟩:=hrel
    by_cases hlt2:k<m
    ·have hkl:k<l.length:=by rw[HL.o];exact hlt2
     have hb:∃ b,l[k]? =some b:=⟨l[k]'hkl,by simp⟩
     obtain⟨b,hb⟩:=hb
     have hcell:=hc k b hb
     unfold bv at hcell
     have HB:=aa (xQ l k b hb)
     have HO:=aa (vJ (be (l.take k)) b.toNat (pR l k (by omega)) b.toNat_lt)
     clear hc hb hs
     go_wp2
     go_round
     case rel=>exact⟨k+1,by omega,by go_num,by rw[HO.o,HB.o]⟩
     case measure=>simp[intOf];omega
    ·obtain rfl:k=m:=by omega
     have hlk:l.take k=l:=List.take_of_length_le (by rw[HL.o];exact Nat.le_refl _)
     have hbl:=xP l (by rw[HL.o];omega)
     rw[hlk]
     clear hlk hc hs
     have HG:=aa hgl
     clear hgl
     by_cases hmx:ku<be l
     ·have hmx':(9007199254740991:Int)<(be l:Int):=by unfold ku at hmx;omega
      go_wp2_with (go_at_call 139;refine (jb p g _ _ _ hi).mono ?_;rintro e w' ⟨rfl,hi',hk'⟩)
      go_ret
      have hn:r.num (k:Int)=(0,(r.past k).fail 9):=by
       unfold RS.num
       rw[if_pos hw,Int.toNat_natCast,if_pos HT.o,HG.o,if_pos hmx]
      exact⟨by rw[hn];rfl,by rw[hn];exact hi',hk.then hk' (by simp)⟩
     ·have hmx': ¬(9007199254740991:Int)<(be l:Int):=by unfold ku at hmx;omega
      go_wp2
      go_ret
      have hn:r.num (k:Int)=(((be l:Nat):Int),r.past k):=by
       unfold RS.num
       rw[if_pos hw,Int.toNat_natCast,if_pos HT.o,HG.o,if_neg hmx]
      exact⟨by rw[hn];go_num,by rw[hn];exact hi,hk⟩
  ·have HT:=aa ht
   have HF:r.took m=false:=by simpa using ht
   have HF':=aa HF
   clear HF ht
   go_enter func94,ntmps94
   go_wp2_with (first|(go_at_call 120;refine (il _ _).mono ?_;rintro e w' ⟨rfl,rfl⟩)|(go_at_call 140;refine (jL p g r m _ h).mono ?_;rintro e w1 ⟨A,c,rfl,hk1,hk2,hs,hi,hk⟩;rw[HF'.o]))
   go_ret
   have hn:r.num (m:Int)=(0,r.past m):=by
    unfold RS.num
    rw[if_pos hw,Int.toNat_natCast,if_neg HT.o]
   exact⟨by rw[hn];rfl,by rw[hn];exact hi,hk⟩
 ·have HW:=aa hw
  have hw':nX n=false:=by simpa using hw
  clear hw
  go_enter func94,ntmps94
  go_wp2_with (first|(go_at_call 120;refine (il _ _).mono ?_;rintro e w' ⟨rfl,rfl⟩)|(go_at_call 139;refine (jb p g _ _ _ h).mono ?_;rintro e w' ⟨rfl,hi',hk'⟩))
  go_ret
  have hn:r.num n=(0,r.fail 2):=by
   unfold RS.num
   rw[if_neg HW.o]
  exact⟨by rw[hn];rfl,by rw[hn];exact hi',hk'⟩
def iA (n most:Int) (r:RS):Int × RS:=if (ku:Int)<n then (0,r.fail 9) else if most<n then (0,r.fail 5) else (n,r)
def ut (p g:Nat) (r:RS) (n most:Int) (w:World) (e:Ending) (w':World):Prop:=
 e= .returned (.int .i64 (iA n most r).1)∧jg w' p g (iA n most r).2∧ag [p] w w'
theorem uu (p g:Nat) (r:RS) (n most:Int) (w:World) (h:jg w p g r):
 Calls prog 149 #[.pointer (some ⟨p,0,none⟩),.int .i64 n,.int .i64 most] w (ut p g r n most w):=by
 by_cases h1:(9007199254740991:Int)<n
 ·have hn:iA n most r=(0,r.fail 9):=by unfold iA ku;rw[if_pos (by omega)]
  have HN:=aa hn
  clear hn
  go_enter func149,ntmps149
  go_wp2_with (go_at_call 139;refine (jb p g _ _ _ h).mono ?_;rintro e w' ⟨rfl,hi',hk'⟩)
  go_ret
  exact⟨by rw[HN.o];rfl,by rw[HN.o];exact hi',hk'⟩
 ·by_cases h2:most<n
  ·have hn:iA n most r=(0,r.fail 5):=by unfold iA ku;rw[if_neg (by omega),if_pos h2]
   have HN:=aa hn
   clear hn
   go_enter func149,ntmps149
   go_wp2_with (go_at_call 139;refine (jb p g _ _ _ h).mono ?_;rintro e w' ⟨rfl,hi',hk'⟩)
   go_ret
   exact⟨by rw[HN.o];rfl,by rw[HN.o];exact hi',hk'⟩
  ·have hn:iA n most r=(n,r):=by unfold iA ku;rw[if_neg (by omega),if_neg h2]
   have HN:=aa hn
   clear hn
   go_enter func149,ntmps149
   go_wp2
   go_ret
   exact⟨by rw[HN.o];rfl,by rw[HN.o];exact h,ag.refl _ _⟩
def eZ (p g:Nat) (r:RS) (most:Int) (w:World) (e:Ending) (w':World):Prop:=
 e= .returned (.int .i64 (r.count most).1)∧jg w' p g (r.count most).2∧ag [p] w w'
theorem sZ (most:Int) (s n:Nat):kL most [] s n=(0,⟨[],3⟩):=by rw[kL]
theorem xV (most:Int) (t:List UInt8) (n:Nat) (b:UInt8) (hb:b.toNat=128):kL most (b::t) 0 n=(0,⟨[],4⟩):=by
 rw[kL,if_pos ⟨rfl,hb⟩]
theorem uF (most:Int) (t:List UInt8) (s n:Nat) (b:UInt8) (hb:b.toNat<128):
 kL most (b::t) s n=iA ((n*128+b.toNat % 128:Nat):Int) most ⟨t,0⟩:=by
 rw[kL,if_neg (by omega),if_pos hb]
 unfold iA RS.fail
 rw[if_pos rfl,if_pos rfl]
 generalize n*128+b.toNat % 128=m
 by_cases h1:ku<m
 ·rw[if_pos h1,if_pos (by omega)]
 ·rw[if_neg h1,if_neg (c:=(ku:Int)<m) (by omega)]
theorem uG (most:Int) (t:List UInt8) (n:Nat) (b:UInt8) (hb: ¬b.toNat<128):kL most (b::t) 7 n=(0,⟨[],4⟩):=by
 rw[kL,if_neg (by omega),if_neg hb,if_pos rfl]
theorem AU (most:Int) (t:List UInt8) (s n:Nat) (b:UInt8) (h0: ¬(s=0∧b.toNat=128)) (hb: ¬b.toNat<128) (hs:s≠7):
 kL most (b::t) s n=kL most t (s+1) (n*128+b.toNat % 128):=by
 rw[kL,if_neg h0,if_neg hb,if_neg hs]
def Ct (p g:Nat) (l:List UInt8) (k n:Nat) (most:Int) (w:World) (e:Ending) (w':World):Prop:=
 e= .returned (.int .i64 (kL most l k n).1)∧jg w' p g (kL most l k n).2∧ag [p] w w'
def cntRel (p g:Nat) (l:List UInt8) (most:Int) (w:World) (n i:Value) (wr:World):Prop:=
 ∃ (k m:Nat) (t:List UInt8),i= .int .i64 k∧n= .int .i64 m∧k≤7∧m<128^k∧jg wr p g ⟨t,0⟩∧ag [p] w wr∧kL most t k m=kL most l 0 0
theorem vQ (k m:Nat) (hk:k≤7) (h:m<128^k):m<562949953421312:=by
 have h2:128^k≤128^7:=Nat.pow_le_pow_right (by decide) hk
 have:(128:Nat)^7=562949953421312:=by decide
 omega
theorem wh (b:UInt8):IntKind.i64.wrap (bits .and .u8 (b.toNat:Int) 127)=((b.toNat % 128:Nat):Int):=by
 rw[mi _ b.toNat_lt,bH _ (by omega) (by omega)]
theorem zK (m:Nat) (b:UInt8) (hm:m<562949953421312):
 bits .or .i64 ((m:Int)*128) (wrap64 (bits .and .u8 (b.toNat:Int) 127))=((m*128+b.toNat % 128:Nat):Int):=by
 have:=wh b
 rw[show wrap64 (bits .and .u8 (b.toNat:Int) 127)=((b.toNat % 128:Nat):Int) from by rw[mi _ b.toNat_lt];unfold wrap64;omega]
 exact tN m _ (by omega) (by omega)
def oneNilPost (p g:Nat) (w:World) (e:Ending) (w':World):Prop:=
 e= .returned (.tuple #[.slice none 0 0,.bool false])∧jg w' p g ⟨[],3⟩∧ag [p] w w'
theorem zZ (p g:Nat) (w:World) (h:jg w p g ⟨[],0⟩):
 Calls prog 140 #[.pointer (some ⟨p,0,none⟩),.int .i64 1] w fun e w'=>∃ A c,e= .returned (.tuple #[.slice A 0 c,.bool false])∧jg w' p g ⟨[],3⟩∧ag [p] w w':=by
 refine (jL p g _ 1 _ h).mono ?_
 rintro e w1 ⟨A,c,rfl,hk1,hk2,hs,hi,hkb1⟩
 exact⟨A,c,rfl,hi,hkb1⟩
theorem kV (p g:Nat) (b:UInt8) (t:List UInt8) (w:World) (h:jg w p g ⟨b::t,0⟩):
 Calls prog 140 #[.pointer (some ⟨p,0,none⟩),.int .i64 1] w fun e w'=>∃ o c,e= .returned (.tuple #[.slice (some ⟨g,o,none⟩) 1 c,.bool true])∧w'.cell? ⟨g,o,none⟩=some (.int .u8 (b.toNat:Int))∧jg w' p g ⟨t,0⟩∧ag [p] w w':=by
 refine (jL p g _ 1 _ h).mono ?_
 rintro e w1 ⟨A,c,rfl,hk1,hk2,hs,hi,hkb1⟩
 have ht:RS.take ⟨b::t,0⟩ 1=[b]:=by simp[RS.take]
 have hp:RS.past ⟨b::t,0⟩ 1=⟨t,0⟩:=by simp[RS.past]
 have hq:RS.took ⟨b::t,0⟩ 1=true:=by simp[RS.took]
 rw[ht] at hs
 rw[hp] at hi
 obtain⟨o,rfl,hlt,hc⟩:=hs (by simp)
 exact⟨o,c,by rw[ht,hq];rfl,hc 0 b rfl,hi,hkb1⟩
theorem wT (p g:Nat) (l:List UInt8) (most:Int) (w:World) (h:jg w p g ⟨l,0⟩):
 Calls prog 102 #[.pointer (some ⟨p,0,none⟩),.int .i64 most] w (Ct p g l 0 0 most w):=by
 go_enter func102,ntmps102
 go_wp2
 go_step3
 go_wp2
 go_step3
 go_wp2
 go_loopw [5,6] (fun n i wr=>cntRel p g l most w n i wr) (fun _ i _=>8-(intOf i).toNat)
 case atStart=>exact⟨0,0,l,rfl,rfl,by omega,by simp,h,ag.refl _ _,rfl⟩
 case round=>
  obtain⟨k,m,t,rfl,rfl,hk,hm,hr,hkb,hc⟩:=hrel
  have hm7:=vQ k m hk hm
  have HC:=aa hc
  clear hc
  rcases t with _|⟨b,t⟩
  ·go_wp2_with (go_at_call 140;refine (zZ p g _ hr).mono ?_;rintro e w1 ⟨A,c,rfl,hi,hkb1⟩)
   rw[Exit.noGoto_ret]
   go_ret
   have hn:=sZ most k m
   rw[HC.o] at hn
   exact⟨by rw[hn];rfl,by rw[hn];exact hi,hkb.then hkb1 (by simp)⟩
  ·obtain⟨x,hx⟩:∃ x:Nat,x=m*128+b.toNat % 128:=⟨_,rfl⟩
   have hrn:=zK m b hm7
   rw[←hx] at hrn
   have hb256:=b.toNat_lt
   have hxb:x<72057594037927936:=by omega
   have HX:=aa hx
   clear hx
   by_cases hb:b.toNat<128
   ·have hz: ¬(k=0∧b.toNat=128):=by omega
    have hlast:=uF most t k m b hb
    rw[←HX.o,HC.o] at hlast
    have HL:=aa hlast
    clear hlast
    go_wp2_with (first|(go_at_call 140;refine (kV p g b t _ hr).mono ?_;rintro e w1 ⟨o,c,rfl,hcell,hi,hkb1⟩)|(go_at_call 149;refine (uu p g _ (x:Int) most _ (by assumption)).mono ?_;rintro e w2 ⟨rfl,hi2,hkb2⟩))
    all_goals
     rw[Exit.noGoto_ret]
     go_ret
     exact⟨by rw[HL.o];rfl,by rw[HL.o];assumption,(hkb.then (by assumption) (by simp)).then (by assumption) (by simp)⟩
   ·by_cases h0:k=0∧b.toNat=128
    ·obtain⟨rfl,hb2⟩:=h0
     have hn:=xV most t m b hb2
     rw[HC.o] at hn
     have HN:=aa hn
     clear hn
     go_wp2_with (first|(go_at_call 140;refine (kV p g b t _ hr).mono ?_;rintro e w1 ⟨o,c,rfl,hcell,hi,hkb1⟩)|(go_at_call 139;refine (jb p g _ _ _ (by assumption)).mono ?_;rintro e w2 ⟨rfl,hi2,hkb2⟩))
     all_goals
      rw[Exit.noGoto_ret]
      go_ret
      exact⟨by rw[HN.o];rfl,by rw[HN.o];assumption,(hkb.then (by assumption) (by simp)).then (by assumption) (by simp)⟩
    ·by_cases h7:k=7
     ·subst h7
      have hn:=uG most t m b hb
      rw[HC.o] at hn
      have HN:=aa hn
      clear hn
      go_wp2_with (first|(go_at_call 140;refine (kV p g b t _ hr).mono ?_;rintro e w1 ⟨o,c,rfl,hcell,hi,hkb1⟩)|(go_at_call 139;refine (jb p g _ _ _ (by assumption)).mono ?_;rintro e w2 ⟨rfl,hi2,hkb2⟩))
      all_goals
       rw[Exit.noGoto_ret]
       go_ret
       exact⟨by rw[HN.o];rfl,by rw[HN.o];assumption,(hkb.then (by assumption) (by simp)).then (by assumption) (by simp)⟩
     ·have hn:=AU most t k m b h0 hb h7
      rw[HC.o,←HX.o] at hn
      have HN:=aa hn
      clear hn
      go_wp2_with (first|(go_at_call 140;refine (kV p g b t _ hr).mono ?_;rintro e w1 ⟨o,c,rfl,hcell,hi,hkb1⟩))
      all_goals
       go_roundw
       case rel=>exact⟨k+1,x,t,by go_num,rfl,by omega,by have:=HX.o;rw[Nat.pow_succ];omega,by assumption,hkb.then (by assumption) (by simp),HN.o.symm⟩
       case measure=>simp[intOf];omega
theorem wU (p g:Nat) (r:RS) (most:Int) (w:World) (h:jg w p g r) (he:r.e≠0):
 Calls prog 102 #[.pointer (some ⟨p,0,none⟩),.int .i64 most] w (eZ p g r most w):=by
 have hn:r.count most=(0,r):=by simp[RS.count,he]
 have ht:∀ w,jg w p g r→Calls prog 140 #[.pointer (some ⟨p,0,none⟩),.int .i64 1] w fun e w'=>∃ A c,e= .returned (.tuple #[.slice A 0 c,.bool false])∧jg w' p g r∧ag [p] w w':=by
  intro w h
  refine (jL p g _ 1 _ h).mono ?_
  rintro e w1 ⟨A,c,rfl,hk1,hk2,hs,hi,hkb1⟩
  have h1:r.take 1=[]:=by simp[RS.take,he]
  have h2:r.took 1=false:=by simp[RS.took,he]
  have h3:r.past 1=r:=by simp[RS.past,he]
  rw[h1,h2]
  rw[h3] at hi
  exact⟨A,c,rfl,hi,hkb1⟩
 have HN:=aa hn
 have HT:=aa ht
 clear hn ht he
 go_enter func102,ntmps102
 go_wp2
 go_step3
 go_wp2
 go_step3
 go_wp2
 refine wp_loop_rounds 1 ?_
 rw[rounds_succ]
 go_wp2_with (go_at_call 140;refine (HT.o _ h).mono ?_;rintro e w1 ⟨A,c,rfl,hi,hkb1⟩)
 rw[Exit.noGoto_ret]
 go_ret
 exact⟨by rw[HN.o];rfl,by rw[HN.o];exact hi,hkb1⟩
theorem fZ (p g:Nat) (r:RS) (most:Int) (w:World) (h:jg w p g r):
 Calls prog 102 #[.pointer (some ⟨p,0,none⟩),.int .i64 most] w (eZ p g r most w):=by
 by_cases he:r.e=0
 ·obtain⟨l,e⟩:=r
  simp only at he
  subst he
  have hcnt:(RS.mk l 0).count most=kL most l 0 0:=by simp[RS.count]
  unfold eZ
  rw[hcnt]
  exact wT p g l most w h
 ·exact wU p g r most w h he
def mE (w w':World) (v:Value) (l:List UInt8):Prop:=
 cZ w' 5 1 v l.length (l.map bv)∧∀ x∈aP v,w.heap.size≤x
def Dy (p g:Nat) (r:RS) (n:Int) (w:World) (e:Ending) (w':World):Prop:=
 ∃ v,e= .returned v∧mE w w' v (r.raw n).1∧jg w' p g (r.raw n).2∧ag [p] w w'
theorem xq:(prog.info? 5).map (fun i=>(i.zero,i.size,i.bytes))=some (some (.int .u8 0),1,1):=by kernel_rfl
theorem jg.bound {w:World} {p g:Nat} {r:RS} (h:jg w p g r):r.l.length≤maxLen:=by
 obtain⟨A,c,_,h2,h3,_⟩:=h;omega
theorem ym (p g:Nat) (r:RS) (n:Int) (w:World) (h:jg w p g r) (hb:r.l.length≤140737488355328):
 Calls prog 150 #[.pointer (some ⟨p,0,none⟩),.int .i64 n] w (Dy p g r n w):=by
 by_cases hn:n<0
 ·have hr:r.raw n=([],r.fail 2):=by simp[RS.raw,hn]
  have HR:=aa hr
  clear hr
  go_enter func150,ntmps150
  go_wp2_with (go_at_call 139;refine (jb p g _ _ _ h).mono ?_;rintro e w' ⟨rfl,hi',hk'⟩)
  go_ret
  exact⟨_,rfl,by rw[HR.o];exact⟨cZ.nil _ _ _,by simp[aP,Value.ownBlock]⟩,by rw[HR.o];exact hi',hk'⟩
 ·obtain⟨m,rfl⟩:∃ m:Nat,n=(m:Int):=⟨n.toNat,by omega⟩
  have hr:r.raw (m:Int)=(r.take m,r.past m):=by unfold RS.raw;rw[if_neg hn];rfl
  have HR:=aa hr
  clear hr
  obtain⟨i0,hi0,hz0,hz1,hz2⟩:=info_parts xq
  by_cases ht:r.took m=true
  ·have HT:=aa ht
   have hlen:(r.take m).length≤r.l.length:=by
    unfold RS.take;split
    ·rw[List.length_take];omega
    ·simp
   go_enter func150,ntmps150
   go_wp2_with (first|(go_at_call 140;refine (jL p g r m _ h).mono ?_;rintro e w1 ⟨A,c,rfl,hk1,hk2,hs,hi,hk⟩)|(at_builtin;refine dH _ rfl _ _ 24 rfl 5 i0 (.int .u8 0) 1 1 underlying24 hi0 hz0 hz1 hz2 rfl (by decide) _ 0 [] rfl (cZ.nil _ _ _) _ g _ _ _ rfl (dI.reads (by assumption)) ?c1 ?c2 ?c3 ?_))
   case c1=>intro u hu;simp at hu;obtain⟨b,_,rfl⟩:=hu;rfl
   case c2=>omega
   case c3=>unfold maxLen at*;omega
   ·intro A' c' w2 hown hkb2 hloc
    go_wp2
    go_ret
    try simp only[Nat.zero_add,List.nil_append] at hown
    have hfr:mE w w2 (.slice A' (r.take m).length c') (r.take m):=by
     refine⟨by simpa using hown,fun x hx=> ?_⟩
     rcases hloc x (by simpa using hx) with h1|h1
     ·simp[bI] at h1
     ·have:=hk.size;omega
    exact⟨_,rfl,by rw[HR.o];exact hfr,by rw[HR.o];exact hi.keep hkb2 (by simp[bI]) (by simp[bI]),hk.then hkb2 (by simp[bI])⟩
  ·have HT:r.took m=false:=by simpa using ht
   have hnil:r.take m=[]:=by
    unfold RS.take;rw[if_neg (by rw[←RS.took_iff];exact ht)]
   have HT':=aa HT
   have HN:=aa hnil
   clear HT hnil ht
   go_enter func150,ntmps150
   go_wp2_with (go_at_call 140;refine (jL p g r m _ h).mono ?_;rintro e w1 ⟨A,c,rfl,hk1,hk2,hs,hi,hk⟩;rw[HT'.o])
   go_ret
   exact⟨_,rfl,by rw[HR.o,HN.o];exact⟨cZ.nil _ _ _,by simp[aP,Value.ownBlock]⟩,by rw[HR.o];exact hi,hk⟩
def jM (p g:Nat) (r:RS) (n:Int) (w:World) (e:Ending) (w':World):Prop:=
 ∃ v,e= .returned v∧mE w w' v (r.text n).1∧jg w' p g (r.text n).2∧ag [p] w w'
theorem yZ (most:Int):∀ (l:List UInt8) (s n:Nat),(kL most l s n).2.l.length≤l.length:=by
 intro l
 induction l with
 |nil=>intro s n;simp[kL]
 |cons b t ih=>
  intro s n
  unfold kL
  split
  ·simp
  ·split
   ·split
    ·simp
    ·split<;>simp
   ·split
    ·simp
    ·have:=ih (s+1) (n*128+b.toNat % 128);simp only[List.length_cons];omega
theorem RS.count_short (r:RS) (most:Int):(r.count most).2.l.length≤r.l.length:=by
 unfold RS.count;split
 ·exact yZ _ _ _ _
 ·exact Nat.le_refl _
theorem kI (p g:Nat) (r:RS) (n:Int) (w:World) (h:jg w p g r) (hb:r.l.length≤140737488355328):
 Calls prog 104 #[.pointer (some ⟨p,0,none⟩),.int .i64 n] w (jM p g r n w):=by
 have hb2:=RS.count_short r n
 go_enter func104,ntmps104
 go_wp2_with (first|(go_at_call 102;refine (fZ p g r n _ h).mono ?_;rintro e w1 ⟨rfl,hi,hk⟩)|(go_at_call 150;refine (ym p g _ _ _ (by assumption) (by omega)).mono ?_;rintro e w2 ⟨v,rfl,hf,hi2,hk2⟩))
 go_ret
 exact⟨_,rfl,⟨hf.1,fun x hx=>by have:=hf.2 x hx;have:=hk.size;omega⟩,hi2,hk.then hk2 (by simp)⟩
theorem vC (p g:Nat) (r:RS) (w:World) (h:jg w p g r):
 Calls prog 153 #[.pointer (some ⟨p,0,none⟩)] w fun e w'=>e= .returned (.int .i64 r.l.length)∧w=w':=by
 obtain⟨A,c,h1,h2,h3,h4,h5⟩:=h
 have hc0:w.cell? ⟨p,0,none⟩=some (.slice A r.l.length c):=h1.cell 0
 go_enter func153,ntmps153
 go_wp2
 go_ret
 exact⟨rfl,rfl⟩
theorem pu (p g:Nat) (r:RS) (w:World) (h:jg w p g r):
 Calls prog 141 #[.pointer (some ⟨p,0,none⟩)] w fun e w'=>e= .returned (.int .i64 r.e)∧w=w':=by
 obtain⟨A,c,h1,h2,h3,h4,h5⟩:=h
 have hc1:w.cell? ⟨p,1,none⟩=some (.int .i64 r.e):=h1.cell 1
 go_enter func141,ntmps141
 go_wp2
 go_ret
 exact⟨rfl,rfl⟩
theorem gU (p g:Nat) (r:RS) (w:World) (h:jg w p g r):
 Calls prog 147 #[.pointer (some ⟨p,0,none⟩)] w fun e w'=>e= .returned (.int .i64 r.end_)∧w=w':=by
 by_cases he:r.e=0
 ·have he':(r.e !=0)=false:=by simp[he]
  by_cases hl:r.l=[]
  ·have hx:r.end_=0:=by simp[RS.end_,he,hl]
   have hy: ¬(0:Int)<(r.l.length:Int):=by simp[hl]
   have HX:=aa hx
   clear hx he hl
   go_enter func147,ntmps147
   go_wp2_with (first|(go_at_call 141;refine (pu p g r _ h).mono ?_;rintro e w' ⟨rfl,rfl⟩)|(go_at_call 153;refine (vC p g r _ h).mono ?_;rintro e w' ⟨rfl,rfl⟩))
   go_ret
   exact⟨by rw[HX.o];rfl,rfl⟩
  ·have hx:r.end_=4:=by simp[RS.end_,he,hl]
   have hy:(0:Int)<(r.l.length:Int):=by
    have:=List.length_pos_iff.2 hl;omega
   have HX:=aa hx
   clear hx he hl
   go_enter func147,ntmps147
   go_wp2_with (first|(go_at_call 141;refine (pu p g r _ h).mono ?_;rintro e w' ⟨rfl,rfl⟩)|(go_at_call 153;refine (vC p g r _ h).mono ?_;rintro e w' ⟨rfl,rfl⟩))
   go_ret
   exact⟨by rw[HX.o];rfl,rfl⟩
 ·have he':(r.e !=0)=true:=by simp[he]
  have hx:r.end_=r.e:=by simp[RS.end_,he]
  have HX:=aa hx
  clear hx he
  go_enter func147,ntmps147
  go_wp2_with (first|(go_at_call 141;refine (pu p g r _ h).mono ?_;rintro e w' ⟨rfl,rfl⟩))
  go_ret
  exact⟨by rw[HX.o];rfl,rfl⟩
def jl (w:World) (p:Nat) (v:Value) (s:WS):Prop:=
 aC w p 127 #[v,.int .i64 s.e]∧cZ w 5 1 v s.b.length (s.b.map bv)
theorem jl.apart {w:World} {p:Nat} {v:Value} {s:WS} (h:jl w p v s):p∉aP v:=h.2.apart h.1 (by decide)
theorem jl.keep {S:List Nat} {w w':World} {p:Nat} {v:Value} {s:WS} (h:jl w p v s) (hk:ag S w w') (hp:p∉S) (hS:∀ x∈aP v,x∉S):jl w' p v s:=
 ⟨hk.row h.1 hp,h.2.keep hk hS⟩
def qL (p:Nat) (v:Value) (s:WS) (w:World) (e:Ending) (w':World):Prop:=
 e= .returned (.pointer (some ⟨p,0,none⟩))∧∃ v',jl w' p v' s∧ag (p::aP v) w w'∧∀ x∈aP v',x∈aP v∨w.heap.size≤x
theorem jV:(prog.info? 5).map (fun i=>(i.zero,i.size,i.bytes))=some (some (.int .u8 0),1,1):=by kernel_rfl
theorem fD (p:Nat) (v:Value) (s:WS) (w:World) (h:jl w p v s):
 Calls prog 119 #[.pointer (some ⟨p,0,none⟩)] w fun e w'=>e= .returned (.bool (s.e !=0))∧w=w':=by
 have hc1:w.cell? ⟨p,1,none⟩=some (.int .i64 s.e):=h.1.cell 1
 by_cases he:s.e=0
 ·have he':(s.e !=0)=false:=by simp[he]
  clear he
  go_enter func119,ntmps119
  go_wp2
  go_ret
  exact⟨by rw[he'];rfl,rfl⟩
 ·have he':(s.e !=0)=true:=by simp[he]
  clear he
  go_enter func119,ntmps119
  go_wp2
  go_ret
  exact⟨by rw[he'];rfl,rfl⟩
theorem fits_shift (m:Nat) (hm:m≤8):IntKind.i64.wrap (2^(8*m))=if m=8 then 0 else (2:Int)^(8*m):=by
 have:m=0∨m=1∨m=2∨m=3∨m=4∨m=5∨m=6∨m=7∨m=8:=by omega
 rcases this with h|h|h|h|h|h|h|h|h<;>subst h<;>decide
theorem uX (width n:Int) (w:World) (hw:nX width=true):
 Calls prog 121 #[.int .i64 width,.int .i64 n] w fun e w'=>e= .returned (.bool (eF width n))∧w=w':=by
 by_cases h0:0≤n
 ·rcases fo hw with rfl|rfl|rfl|rfl
  ·have hf:eF 1 n=decide (n<256):=by simp[eF,h0]
   have HF:=aa hf
   clear hf
   go_enter func121,ntmps121
   go_wp2
   go_ret
   exact⟨by rw[HF.o];rfl,rfl⟩
  ·have hf:eF 2 n=decide (n<65536):=by simp[eF,h0]
   have HF:=aa hf
   clear hf
   go_enter func121,ntmps121
   go_wp2
   go_ret
   exact⟨by rw[HF.o];rfl,rfl⟩
  ·have hf:eF 4 n=decide (n<4294967296):=by simp[eF,h0]
   have HF:=aa hf
   clear hf
   go_enter func121,ntmps121
   go_wp2
   go_ret
   exact⟨by rw[HF.o];rfl,rfl⟩
  ·have hf:eF 8 n=decide (n≤9007199254740991):=by (simp[eF,h0,ku];rfl)
   have HF:=aa hf
   clear hf
   go_enter func121,ntmps121
   go_wp2
   go_ret
   exact⟨by rw[HF.o];rfl,rfl⟩
 ·have hf:eF width n=false:=by simp[eF,h0]
  have HF:=aa hf
  clear hf
  rcases fo hw with rfl|rfl|rfl|rfl
  all_goals
   go_enter func121,ntmps121
   go_wp2
   go_ret
   exact⟨by rw[HF.o];rfl,rfl⟩
theorem qN {w W w2:World} {p n:Nat} {v':Value} {A2:Option Addr} {c2:Nat} {b1 l:List UInt8} {e:Int} (h:jl w p v' ⟨b1,e⟩) (hW:ag [] w W) (hk:ag (aP v') W w2)
 (hown:cZ w2 5 1 (.slice A2 n c2) n ((b1++l).map bv)) (hloc:∀ x∈aP (.slice A2 n c2),x∈aP v'∨W.heap.size≤x):
 jl (w2.setCell ⟨p,0,none⟩ (.slice A2 n c2)) p (.slice A2 n c2) ⟨b1++l,e⟩∧ag (p::aP v') w (w2.setCell ⟨p,0,none⟩ (.slice A2 n c2))∧
  ∀ x∈aP (.slice A2 n c2),x∈aP v'∨w.heap.size≤x:=by
 have hp2:=hk.row (hW.row h.1 (by simp)) h.apart
 have hap:=hown.apart hp2 (by decide)
 have hn:n=(b1++l).length:=by have:=hown.1;simp only[List.length_map] at this;omega
 have hk2:ag (p::aP v') w w2:=(hW.more (T:=p::aP v') (by simp)).then hk (fun x hx=> .inl (by simp[hx]))
 refine⟨⟨hp2.set 0 _,?_⟩,hk2.setCell _ _ (.inl (by simp)),fun x hx=>(hloc x hx).imp id (fun h=>by have:=hW.size;omega)⟩
 rw[←hn]
 exact hown.keep ((ag.refl [p] w2).setCell _ _ (.inl (by simp))) (fun x hx hxp=>hap (by simp at hxp;rw[←hxp];exact hx))
theorem pM {w:World} {p:Nat} {v:Value} {s:WS} (h:jl w p v s) (x:Int):jl (w.setCell ⟨p,1,none⟩ (.int .i64 x)) p v ⟨s.b,x⟩:=
 ⟨h.1.set 1 _,h.2.keep ((ag.refl [p] w).setCell _ _ (.inl (by simp))) (fun x hx hxp=>h.apart (by simp at hxp;rw[←hxp];exact hx))⟩
theorem jB (m k:Nat):(aQ m k).length=m:=by simp[aQ]
theorem pQ (m k i:Nat) (h:i<m):(aQ m k)[i]? =some (UInt8.ofNat (k/256^(m-1-i) % 256)):=by
 simp[aQ,h]
theorem qI (k d:Nat) (c:Int) (hd:d≤7) (hc:c=8*(d:Int)):
 Value.int .u8 (IntKind.u8.wrap ((k:Int)/2^min c.toNat 64))=bv (UInt8.ofNat (k/256^d % 256)):=by
 have h1:min c.toNat 64=8*d:=by omega
 have h3:(2:Int)^(8*d)=((256^d:Nat):Int):=by
  rw[show (256:Nat)^d=2^(8*d) from by rw[Nat.pow_mul]]
  simp
 rw[h1,h3,IntKind.wrap_u8]
 unfold bv
 have h2:(UInt8.ofNat (k/256^d % 256)).toNat=k/256^d % 256:=by
  rw[UInt8.toNat_ofNat']
  omega
 rw[h2]
 simp
def numRel (p:Nat) (v:Value) (s:WS) (m k:Nat) (w:World) (i:Value) (wr:World):Prop:=
 ∃ (j:Nat) (v':Value),i= .int .i64 j∧j≤m∧jl wr p v' ⟨s.b++(aQ m k).take j,0⟩∧ag (p::aP v) w wr∧∀ x∈aP v',x∈aP v∨w.heap.size≤x
theorem BU (p:Nat) (v:Value) (s:WS) (width n:Int) (w:World) (h:jl w p v s) (hb:s.b.length≤1000000000):
 Calls prog 42 #[.pointer (some ⟨p,0,none⟩),.int .i64 width,.int .i64 n] w (qL p v (s.num width n) w):=by
 have hc1:w.cell? ⟨p,1,none⟩=some (.int .i64 s.e):=h.1.cell 1
 have hf1:=h.1.free 1
 by_cases he:s.e=0
 ·have he':(s.e !=0)=false:=by simp[he]
  have HE:=aa he
  clear he
  by_cases hw:nX width=true
  ·by_cases hfit:eF width n=true
   ·obtain⟨m,rfl⟩:∃ m:Nat,width=(m:Int):=⟨width.toNat,by rcases fo hw with h|h|h|h<;>omega⟩
    have hm:1≤m∧m≤8:=by rcases fo hw with h|h|h|h<;>omega
    obtain⟨k,rfl⟩:∃ k:Nat,n=(k:Int):=⟨n.toNat,by have:0≤n:=(by simp[eF] at hfit;exact hfit.1)
                                                 omega⟩
    have HFit:=aa hfit
    have HW:=aa hw
    go_enter func42,ntmps42
    go_wp2_with (first|(go_at_call 119;refine (fD p v s _ h).mono ?_;rintro e w' ⟨rfl,rfl⟩)|(go_at_call 120;refine (il _ _).mono ?_;rintro e w' ⟨rfl,rfl⟩)|(go_at_call 121;refine (uX _ _ _ HW.o).mono ?_;rintro e w' ⟨rfl,rfl⟩))
    obtain⟨i0,hi0,hz0,hz1,hz2⟩:=info_parts jV
    go_loopw [27] (fun i wr=>numRel p v s m k w i wr) (fun i _=>m-(intOf i).toNat)
    case atStart=>exact⟨0,v,rfl,by omega,by have:=HE.o;simp only[List.take_zero,List.append_nil,←this];exact h,ag.refl _ _,fun x hx=> .inl hx⟩
    case round=>
     obtain⟨i,v',rfl,hi,hwr,hkb,hhm⟩:=hrel
     have hcell0:wr.cell? ⟨p,0,none⟩=some v':=hwr.1.cell 0
     have hfree0:=hwr.1.free 0
     have hown:=hwr.2
     have hN:(s.b++(aQ m k).take i).length≤1000000008:=by
      have:=List.length_take_le i (aQ m k)
      rw[List.length_append];omega
     generalize hxs:(s.b++(aQ m k).take i).map bv=xs at hown
     generalize hnn:(s.b++(aQ m k).take i).length=N at hown hN
     have HXS:=aa (ah hxs hnn)
     clear hxs hnn
     by_cases hlt:i<m
     ·have HO:=aa hown
      clear hown
      have HD:=aa hwr
      clear hwr
      obtain⟨a,ha⟩:∃ a:Int,a=(m:Int)-1:=⟨_,rfl⟩
      have hA:IntKind.i64.wrap ((m:Int)-1)=a:=by rw[ha];exact bH _ (by omega) (by omega)
      obtain⟨b,hb2⟩:∃ b:Int,b=a-i:=⟨_,rfl⟩
      have hB:IntKind.i64.wrap (a-(i:Int))=b:=by rw[hb2];exact bH _ (by omega) (by omega)
      obtain⟨c,hc⟩:∃ c:Int,c=8*b:=⟨_,rfl⟩
      have hC:IntKind.i64.wrap (8*b)=c:=by rw[hc];exact bH _ (by omega) (by omega)
      have hc0:0≤c:=by omega
      have HH:=aa (ah ha (ah hb2 hc))
      clear ha hb2 hc
      have hplt:=HD.o.1.lt
      go_wp2
      go_region_law (refine fA _ rfl (.tmp 34) (.tmp 43) 24 rfl 5 i0 (.int .u8 0) 1 1 underlying24 hi0 hz0 hz1 hz2 rfl (by decide) v' N xs (by simp[Act.eval]) (by first|exact (HO.o.alloc _)|exact HO.o.drew.alloc _|exact (HO.o.alloc _).drew) _ _ 1 1 _ (by simp[Act.eval]) (iT _ _ _) (by intro u hu;simp at hu;subst hu;rfl) (by omega) (by unfold maxLen;omega) ?_;intro A2 c2 w2 hown2 hkb2 hloc2;have hW2:=hkb2.row (by first|exact ((ag.refl [] wr).drew.alloc _).row HD.o.1 (by simp)|exact ((ag.refl [] wr).alloc _).drew.row HD.o.1 (by simp)) HD.o.apart;have hcell2:w2.cell? ⟨p,0,none⟩=some v':=hW2.cell 0;have hfree2:=hW2.free 0)
      all_goals
       obtain⟨ha,hb3,hc3⟩:=HH.o
       have hbyte:=qI k (m-1-i) c (by omega) (by omega)
       have hx:=pQ m k i hlt
       rw[hbyte,←HXS.o.1] at hown2
       have hst:=qN HD.o (by first|exact (ag.refl [] wr).drew.alloc _|exact ((ag.refl [] wr).alloc _).drew) hkb2 (l:=[UInt8.ofNat (k/256^(m-1-i) % 256)]) (by rw[List.map_append];exact hown2) hloc2
       have hbs:s.b++(aQ m k).take i++[UInt8.ofNat (k/256^(m-1-i) % 256)]=s.b++(aQ m k).take (i+1):=by
        rw[List.take_add_one,hx,List.append_assoc];rfl
       rw[hbs] at hst
       have HST:=aa hst
       clear hst hown2 hbyte hx hbs ha hb3 hc3 hA hB hC hc0 hkb2 hloc2 hW2 hcell2 hfree2
       go_wp2
       go_roundw
       case rel=>exact⟨i+1,_,by go_num,by omega,HST.o.1,hkb.then HST.o.2.1 (fun x hx=>by rcases List.mem_cons.1 hx with rfl|hx;exact .inl (by simp);exact (hhm x hx).imp (fun h=>by simp[h]) id),fun x hx=>by rcases HST.o.2.2 x hx with h|h;exact hhm x h;have:=hkb.size;exact .inr (by omega)⟩
       case measure=>simp[intOf];omega
     ·obtain rfl:i=m:=by omega
      have hfin:s.num (i:Int) (k:Int)=⟨s.b++aQ i k,0⟩:=by
       unfold WS.num
       rw[if_pos HE.o,if_pos HW.o,if_pos HFit.o];rfl
      have hall:(aQ i k).take i=aQ i k:=List.take_of_length_le (by rw[jB];exact Nat.le_refl _)
      rw[hall] at hwr
      have HFin:=aa hfin
      clear hfin hall
      have HD:=aa hwr
      clear hwr hown
      go_wp2
      go_ret
      exact⟨rfl,v',by rw[HFin.o];exact HD.o,hkb,hhm⟩
   ·have hfin:s.num width n=⟨s.b,9⟩:=by
     unfold WS.num
     rw[if_pos HE.o,if_pos hw,if_neg hfit]
    have hfit':eF width n=false:=by simpa using hfit
    have HFin:=aa hfin
    have HF:=aa hfit'
    have HW:=aa hw
    clear hfin hfit hfit' hw
    go_enter func42,ntmps42
    go_wp2_with (first|(go_at_call 119;refine (fD p v s _ h).mono ?_;rintro e w' ⟨rfl,rfl⟩)|(go_at_call 120;refine (il _ _).mono ?_;rintro e w' ⟨rfl,rfl⟩;rw[HW.o])|(go_at_call 121;refine (uX _ _ _ HW.o).mono ?_;rintro e w' ⟨rfl,rfl⟩;rw[HF.o]))
    go_ret
    exact⟨rfl,v,by rw[HFin.o];exact pM h 9,(ag.refl _ _).setCell _ _ (.inl (by simp)),fun x hx=> .inl hx⟩
  ·have hfin:s.num width n=⟨s.b,2⟩:=by
    unfold WS.num
    rw[if_pos HE.o,if_neg hw]
   have hw':nX width=false:=by simpa using hw
   have HFin:=aa hfin
   have HW:=aa hw'
   clear hfin hw hw'
   go_enter func42,ntmps42
   go_wp2_with (first|(go_at_call 119;refine (fD p v s _ h).mono ?_;rintro e w' ⟨rfl,rfl⟩)|(go_at_call 120;refine (il _ _).mono ?_;rintro e w' ⟨rfl,rfl⟩;rw[HW.o]))
   go_ret
   exact⟨rfl,v,by rw[HFin.o];exact pM h 2,(ag.refl _ _).setCell _ _ (.inl (by simp)),fun x hx=> .inl hx⟩
 ·have hfin:s.num width n=s:=by
   unfold WS.num
   rw[if_neg he]
  have he':(s.e !=0)=true:=by simp[he]
  have HFin:=aa hfin
  clear hfin he
  go_enter func42,ntmps42
  go_wp2_with (first|(go_at_call 119;refine (fD p v s _ h).mono ?_;rintro e w' ⟨rfl,rfl⟩))
  go_ret
  exact⟨rfl,v,by rw[HFin.o];exact h,ag.refl _ _,fun x hx=> .inl hx⟩
theorem iP:jQ 0=[]:=by rw[jQ];simp
theorem lc (n:Nat) (h:0<n):jQ n=jQ (n/128)++[UInt8.ofNat (128+n % 128)]:=by
 rw[jQ,dif_neg (by omega)]
theorem uA:∀ (j n:Nat),(jQ n).length≤j↔n<128^j:=by
 intro j
 induction j with
 |zero=>
  intro n
  rcases Nat.eq_zero_or_pos n with rfl|h
  ·simp[iP]
  ·rw[lc n h];simp;omega
 |succ j ih=>
  intro n
  rcases Nat.eq_zero_or_pos n with rfl|h
  ·simp[iP];exact Nat.pos_of_ne_zero (by simp)
  ·rw[lc n h]
   have:=ih (n/128)
   simp only[List.length_append,List.length_cons,List.length_nil,Nat.zero_add,Nat.add_le_add_iff_right,this,Nat.pow_succ]
   rw[Nat.div_lt_iff_lt_mul (by decide)]
theorem Cm:∀ (m n i:Nat),n≤m→i<(jQ n).length→(jQ n)[i]? =some (UInt8.ofNat (128+n/128^((jQ n).length-1-i) % 128)):=by
 intro m
 induction m with
 |zero=>
  intro n i hn hi
  obtain rfl:n=0:=by omega
  simp[iP] at hi
 |succ m ih=>
  intro n i hn hi
  rcases Nat.eq_zero_or_pos n with rfl|h
  ·simp[iP] at hi
  ·rw[lc n h] at hi ⊢
   simp only[List.length_append,List.length_cons,List.length_nil,Nat.zero_add] at hi ⊢
   by_cases hlast:i<(jQ (n/128)).length
   ·rw[List.getElem?_append_left hlast,ih (n/128) i (by omega) hlast]
    have:(jQ (n/128)).length+1-1-i=((jQ (n/128)).length-1-i)+1:=by omega
    rw[this,Nat.pow_succ,Nat.mul_comm,←Nat.div_div_eq_div_mul]
   ·obtain rfl:i=(jQ (n/128)).length:=by omega
    simp
theorem Cn (n g:Nat) (hg:1≤g):0<n/128^g↔g<(cb n).length:=by
 unfold cb
 have:=uA (g-1) (n/128)
 simp only[List.length_append,List.length_cons,List.length_nil,Nat.zero_add]
 rw[Nat.div_lt_iff_lt_mul (by decide),←Nat.pow_succ,show (g-1).succ=g by omega] at this
 have hp:0<128^g:=Nat.pos_of_ne_zero (by simp)
 rw[Nat.div_pos_iff]
 omega
theorem ko (n:Nat) (h:n≤ku):(cb n).length≤8:=by
 unfold cb
 have:=(uA 7 (n/128)).2 (by unfold ku at h;have:(128:Nat)^7=562949953421312:=by decide
                            omega)
 simp;omega
theorem cb_pos (n:Nat):1≤(cb n).length:=by unfold cb;simp
theorem DR (n i:Nat) (h:i<(cb n).length):
 (cb n)[i]? =some (UInt8.ofNat (n/128^((cb n).length-1-i) % 128+if i+1<(cb n).length then 128 else 0)):=by
 have hl:(cb n).length=(jQ (n/128)).length+1:=by simp[cb]
 rw[hl] at h ⊢
 unfold cb
 by_cases hi:i<(jQ (n/128)).length
 ·rw[List.getElem?_append_left hi,Cm _ _ _ (Nat.le_refl _) hi,if_pos (by omega)]
  have:(jQ (n/128)).length+1-1-i=((jQ (n/128)).length-1-i)+1:=by omega
  rw[this,Nat.pow_succ,Nat.mul_comm,←Nat.div_div_eq_div_mul,Nat.add_comm]
 ·obtain rfl:i=(jQ (n/128)).length:=by omega
  simp
theorem oh (k j:Nat):(k:Int)/2^(7*j)=((k/128^j:Nat):Int):=by
 have h3:(2:Int)^(7*j)=((128^j:Nat):Int):=by
  rw[show (128:Nat)^j=2^(7*j) from by rw[Nat.pow_mul]]
  simp
 rw[h3];simp
theorem rF (k d:Nat):bits .and .u8 ((k:Int)/2^(7*d) % 256) 127=((k/128^d % 128:Nat):Int):=by
 rw[oh]
 have:=mi (k/128^d % 256) (by omega)
 rw[show (((k/128^d:Nat):Int) % 256)=((k/128^d % 256:Nat):Int) from by omega,this]
 omega
theorem Ci (k d:Nat):Value.int .u8 (bits .or .u8 (bits .and .u8 ((k:Int)/2^(7*d) % 256) 127) 128)=bv (UInt8.ofNat (k/128^d % 128+128)):=by
 rw[rF,zw _ (by omega)]
 unfold bv
 rw[UInt8.toNat_ofNat']
 congr 1
 omega
theorem Cj (k d:Nat):Value.int .u8 (bits .and .u8 ((k:Int)/2^(7*d) % 256) 127)=bv (UInt8.ofNat (k/128^d % 128+0)):=by
 rw[rF]
 unfold bv
 rw[UInt8.toNat_ofNat']
 congr 1
 omega
theorem yx {p:Nat} {v v':Value} {s:WS} {k i N:Nat} {w wr W w2:World} {xs:List Value} {A2:Option Addr} {c2:Nat} {b:UInt8} (hD:jl wr p v' ⟨s.b++(cb k).take i,0⟩) (hb:(cb k)[i]? =some b)
 (hxs:(s.b++(cb k).take i).map bv=xs) (hkb:ag (p::aP v) w wr) (hhm:∀ x∈aP v',x∈aP v∨w.heap.size≤x) (hW:ag [] wr W)
 (hkb2:ag (aP v') W w2) (hown2:cZ w2 5 1 (.slice A2 (N+1) c2) (N+1) (xs++[bv b])) (hloc2:∀ x∈aP (.slice A2 (N+1) c2),x∈aP v'∨W.heap.size≤x):
 jl (w2.setCell ⟨p,0,none⟩ (.slice A2 (N+1) c2)) p (.slice A2 (N+1) c2) ⟨s.b++(cb k).take (i+1),0⟩∧ag (p::aP v) w (w2.setCell ⟨p,0,none⟩ (.slice A2 (N+1) c2))∧
  ∀ x∈aP (.slice A2 (N+1) c2),x∈aP v∨w.heap.size≤x:=by
 have hst:=qN hD hW hkb2 (l:=[b]) (by rw[List.map_append,hxs];exact hown2) hloc2
 have hbs:s.b++(cb k).take i++[b]=s.b++(cb k).take (i+1):=by
  rw[List.take_add_one,hb,List.append_assoc];rfl
 rw[hbs] at hst
 exact⟨hst.1,hkb.then hst.2.1 (fun x hx=>by rcases List.mem_cons.1 hx with rfl|hx;exact .inl (by simp);exact (hhm x hx).imp (fun h=>by simp[h]) id),fun x hx=>by rcases hst.2.2 x hx with h|h;exact hhm x h;have:=hkb.size;exact .inr (by omega)⟩
def wcRel (p:Nat) (v:Value) (s:WS) (k:Nat) (w:World) (i:Value) (wr:World):Prop:=
 ∃ (j:Nat) (v':Value),i= .int .i64 j∧j≤(cb k).length∧jl wr p v' ⟨s.b++(cb k).take j,0⟩∧ag (p::aP v) w wr∧∀ x∈aP v',x∈aP v∨w.heap.size≤x
theorem mJ (p:Nat) (v:Value) (s:WS) (n:Int) (w:World) (h:jl w p v s) (hb:s.b.length≤1000000000):
 Calls prog 43 #[.pointer (some ⟨p,0,none⟩),.int .i64 n] w (qL p v (s.count n) w):=by
 have hc1:w.cell? ⟨p,1,none⟩=some (.int .i64 s.e):=h.1.cell 1
 have hf1:=h.1.free 1
 by_cases he:s.e=0
 ·have he':(s.e !=0)=false:=by simp[he]
  have HE:=aa he
  clear he
  by_cases hn:n<0∨(ku:Int)<n
  ·have hfin:s.count n=⟨s.b,9⟩:=by
    unfold WS.count
    rw[if_pos HE.o,if_pos hn]
   have hn':n<0∨(9007199254740991:Int)<n:=by unfold ku at hn;omega
   have HFin:=aa hfin
   clear hfin hn
   rcases hn' with h0|h0
   ·go_enter func43,ntmps43
    go_wp2_with (first|(go_at_call 119;refine (fD p v s _ h).mono ?_;rintro e w' ⟨rfl,rfl⟩))
    go_ret
    exact⟨rfl,v,by rw[HFin.o];exact pM h 9,(ag.refl _ _).setCell _ _ (.inl (by simp)),fun x hx=> .inl hx⟩
   ·have h1: ¬n<0:=by omega
    go_enter func43,ntmps43
    go_wp2_with (first|(go_at_call 119;refine (fD p v s _ h).mono ?_;rintro e w' ⟨rfl,rfl⟩))
    go_ret
    exact⟨rfl,v,by rw[HFin.o];exact pM h 9,(ag.refl _ _).setCell _ _ (.inl (by simp)),fun x hx=> .inl hx⟩
  ·obtain⟨k,rfl⟩:∃ k:Nat,n=(k:Int):=⟨n.toNat,by omega⟩
   have hk:k≤9007199254740991:=by unfold ku at hn;omega
   have hl8:=ko k hk
   have hl1:=cb_pos k
   have HM:=aa (Cn k)
   obtain⟨G,hG⟩:∃ G,G=(cb k).length:=⟨_,rfl⟩
   rw[←hG] at hl8 hl1
   have HG:=aa hG
   clear hG
   go_enter func43,ntmps43
   go_wp2_with (first|(go_at_call 119;refine (fD p v s _ h).mono ?_;rintro e w' ⟨rfl,rfl⟩))
   go_loop [5] (fun g=>∃ j:Nat,g= .int .i64 j∧1≤j∧j≤G) (fun g=>G-(intOf g).toNat)
   case atStart=>exact⟨1,rfl,by omega,by omega⟩
   case round=>
    obtain⟨j,rfl,hj1,hj2⟩:=hrel
    by_cases hjG:j<G
    ·have hpos:(0:Int)<(k:Int)/2^(7*j):=by
      rw[oh];have:=(HM.o j hj1).2 (by rw[←HG.o];exact hjG);omega
     go_wp2
     go_round
     case rel=>exact⟨j+1,by go_num,by omega,by omega⟩
     case measure=>simp[intOf];omega
    ·obtain rfl:j=G:=by omega
     have hpos:(k:Int)/2^(7*j)≤0:=by
      rw[oh];have:=mt (HM.o j hj1).1 (by rw[←HG.o];exact hjG);omega
     go_wp2
     obtain⟨i0,hi0,hz0,hz1,hz2⟩:=info_parts jV
     go_loopw [29] (fun i wr=>wcRel p v s k w i wr) (fun i _=>j-(intOf i).toNat)
     case atStart=>exact⟨0,v,rfl,by omega,by have:=HE.o;simp only[List.take_zero,List.append_nil,←this];exact h,ag.refl _ _,fun x hx=> .inl hx⟩
     case round=>
      obtain⟨i,v',rfl,hi,hwr,hkb,hhm⟩:=hrel
      rw[←HG.o] at hi
      have hcell0:wr.cell? ⟨p,0,none⟩=some v':=hwr.1.cell 0
      have hfree0:=hwr.1.free 0
      have hown:=hwr.2
      have hN:(s.b++(cb k).take i).length≤1000000008:=by
       have:=List.length_take_le i (cb k)
       rw[List.length_append];omega
      generalize hxs:(s.b++(cb k).take i).map bv=xs at hown
      generalize hnn:(s.b++(cb k).take i).length=N at hown hN
      have HXS:=aa (ah hxs hnn)
      clear hxs hnn
      have HO:=aa hown
      clear hown
      have HD:=aa hwr
      clear hwr
      by_cases hlt:i<j
      ·have hplt:=HD.o.1.lt
       by_cases hlast:i+1<j
       ·go_wp2_with (at_builtin;refine dH _ rfl (.tmp 51) (.tmp 53) 24 rfl 5 i0 (.int .u8 0) 1 1 underlying24 hi0 hz0 hz1 hz2 rfl (by decide) v' N xs (by simp[Act.eval]) (by first|exact (HO.o.alloc _)|exact HO.o.drew.alloc _|exact (HO.o.alloc _).drew) _ _ 1 1 _ (by simp[Act.eval]) (iT _ _ _) (by intro u hu;simp at hu;subst hu;rfl) (by omega) (by unfold maxLen;omega) ?_;intro A2 c2 w2 hown2 hkb2 hloc2;have hW2:=hkb2.row (by first|exact ((ag.refl [] wr).drew.alloc _).row HD.o.1 (by simp)|exact ((ag.refl [] wr).alloc _).row HD.o.1 (by simp)) HD.o.apart;have hcell2:w2.cell? ⟨p,0,none⟩=some v':=hW2.cell 0;have hfree2:=hW2.free 0)
        have hat:=DR k i (by rw[←HG.o];exact hlt)
        rw[←HG.o,if_pos hlast] at hat
        rw[Ci] at hown2
        have R:=aa (yx HD.o hat HXS.o.1 hkb hhm ((ag.refl [] wr).alloc _) hkb2 hown2 hloc2)
        go_roundw
        case rel=>exact⟨i+1,_,by go_num,by rw[←HG.o];omega,R.o.1,R.o.2.1,R.o.2.2⟩
        case measure=>simp[intOf];omega
       ·go_wp2_with (at_builtin;refine dH _ rfl (.tmp 51) (.tmp 53) 24 rfl 5 i0 (.int .u8 0) 1 1 underlying24 hi0 hz0 hz1 hz2 rfl (by decide) v' N xs (by simp[Act.eval]) (by first|exact (HO.o.alloc _)|exact HO.o.drew.alloc _|exact (HO.o.alloc _).drew) _ _ 1 1 _ (by simp[Act.eval]) (iT _ _ _) (by intro u hu;simp at hu;subst hu;rfl) (by omega) (by unfold maxLen;omega) ?_;intro A2 c2 w2 hown2 hkb2 hloc2;have hW2:=hkb2.row (by first|exact ((ag.refl [] wr).drew.alloc _).row HD.o.1 (by simp)|exact ((ag.refl [] wr).alloc _).row HD.o.1 (by simp)) HD.o.apart;have hcell2:w2.cell? ⟨p,0,none⟩=some v':=hW2.cell 0;have hfree2:=hW2.free 0)
        have hat:=DR k i (by rw[←HG.o];exact hlt)
        rw[←HG.o,if_neg hlast] at hat
        rw[Cj] at hown2
        have R:=aa (yx HD.o hat HXS.o.1 hkb hhm ((ag.refl [] wr).alloc _) hkb2 hown2 hloc2)
        go_roundw
        case rel=>exact⟨i+1,_,by go_num,by rw[←HG.o];omega,R.o.1,R.o.2.1,R.o.2.2⟩
        case measure=>simp[intOf];omega
      ·obtain rfl:i=j:=by omega
       have hfin:s.count (k:Int)=⟨s.b++cb k,0⟩:=by
        unfold WS.count
        rw[if_pos HE.o,if_neg hn];rfl
       have hall:(cb k).take i=cb k:=List.take_of_length_le (by rw[←HG.o];exact Nat.le_refl _)
       rw[hall] at HD
       have HFin:=aa hfin
       clear hfin hall
       go_wp2
       go_ret
       exact⟨rfl,v',by rw[HFin.o];exact HD.o,hkb,hhm⟩
 ·have hfin:s.count n=s:=by
   unfold WS.count
   rw[if_neg he]
  have he':(s.e !=0)=true:=by simp[he]
  have HFin:=aa hfin
  clear hfin he
  go_enter func43,ntmps43
  go_wp2_with (first|(go_at_call 119;refine (fD p v s _ h).mono ?_;rintro e w' ⟨rfl,rfl⟩))
  go_ret
  exact⟨rfl,v,by rw[HFin.o];exact h,ag.refl _ _,fun x hx=> .inl hx⟩
theorem ww (p:Nat) (v:Value) (s:WS) (A:Option Addr) (g c:Nat) (l:List UInt8) (w:World) (h:jl w p v s) (hs:dI w A g l) (hb:s.b.length+l.length≤140737488355328):
 Calls prog 79 #[.pointer (some ⟨p,0,none⟩),.slice A l.length c] w (qL p v (s.raw l) w):=by
 have hc0:w.cell? ⟨p,0,none⟩=some v:=h.1.cell 0
 have hf0:=h.1.free 0
 by_cases he:s.e=0
 ·have he':(s.e !=0)=false:=by simp[he]
  have HE:=aa he
  obtain⟨sb,se⟩:=s
  simp only at he
  subst he
  have hfin:WS.raw ⟨sb,0⟩ l=⟨sb++l,0⟩:=by simp[WS.raw]
  have HFin:=aa hfin
  clear hfin
  obtain⟨i0,hi0,hz0,hz1,hz2⟩:=info_parts jV
  have HD:=aa h
  have hplt:=h.1.lt
  have HO:=aa (show cZ w 5 1 v sb.length (sb.map bv) from h.2)
  have hb':sb.length+l.length≤140737488355328:=hb
  have HS:=aa hs.reads
  go_enter func79,ntmps79
  go_wp2_with (first|(go_at_call 119;refine (fD p v _ _ h).mono ?_;rintro e w' ⟨rfl,rfl⟩)|(at_builtin;refine dH _ rfl (.tmp 12) (.tmp 13) 24 rfl 5 i0 (.int .u8 0) 1 1 underlying24 hi0 hz0 hz1 hz2 rfl (by decide) v sb.length _ (by simp[Act.eval]) HO.o A g l.length c _ (by simp[Act.eval]) HS.o (by intro u hu;simp at hu;obtain⟨b,_,rfl⟩:=hu;rfl) (by omega) (by unfold maxLen;omega) ?_;intro A2 c2 w2 hown2 hkb2 hloc2;have hW2:=hkb2.row HD.o.1 HD.o.apart;have hcell2:w2.cell? ⟨p,0,none⟩=some v:=hW2.cell 0;have hfree2:=hW2.free 0))
  go_ret
  have hst:=qN HD.o (ag.refl [] w) hkb2 (l:=l) (by rw[List.map_append];exact hown2) hloc2
  exact⟨rfl,_,by rw[HFin.o];exact hst.1,hst.2.1,hst.2.2⟩
 ·have hfin:s.raw l=s:=by
   unfold WS.raw
   rw[if_neg he]
  have he':(s.e !=0)=true:=by simp[he]
  have HFin:=aa hfin
  clear hfin he
  go_enter func79,ntmps79
  go_wp2_with (first|(go_at_call 119;refine (fD p v s _ h).mono ?_;rintro e w' ⟨rfl,rfl⟩))
  go_ret
  exact⟨rfl,v,by rw[HFin.o];exact h,ag.refl _ _,fun x hx=> .inl hx⟩
theorem pY (s:WS) (n:Int):(s.count n).b.length≤s.b.length+8:=by
 unfold WS.count
 split
 ·split
  ·simp
  ·rename_i h1 h2
   have:=ko n.toNat (by omega)
   simp only[List.length_append];omega
 ·omega
theorem sN (p:Nat) (v:Value) (s:WS) (A:Option Addr) (g c:Nat) (l:List UInt8) (w:World) (h:jl w p v s) (hs:dI w A g l) (hg:l≠[]→g≠p∧g∉aP v) (hb:s.b.length≤1000000000) (hb2:l.length≤1000000000):
 Calls prog 49 #[.pointer (some ⟨p,0,none⟩),.slice A l.length c] w (qL p v (s.text l) w):=by
 have hcb:=pY s (l.length:Int)
 go_enter func49,ntmps49
 go_wp2_with (first|(go_at_call 43;refine (mJ p v s _ _ h hb).mono ?_;rintro e w1 ⟨rfl,v1,hw1,hk1,hl1⟩)|(go_at_call 79;refine (ww p _ _ A g c l _ (by assumption) (hs.keep (by assumption) (fun hl hm=>by rcases List.mem_cons.1 hm with h1|h1;exact (hg hl).1 h1;exact (hg hl).2 h1)) (by omega)).mono ?_;rintro e w2 ⟨rfl,v2,hw2,hk2,hl2⟩))
 go_ret
 exact⟨rfl,v2,hw2,hk1.then hk2 (fun x hx=>by rcases List.mem_cons.1 hx with rfl|hx;exact .inl (by simp);exact (hl1 x hx).imp (fun h=>by simp[h]) id),fun x hx=>by rcases hl2 x hx with h|h;exact hl1 x h;have:=hk1.size;exact .inr (by omega)⟩
def yS (s:WS) (w:World) (e:Ending) (w':World):Prop:=
 ∃ v,e= .returned (.tuple #[v,.int .i64 s.e])∧cZ w' 5 1 v s.bytes.length (s.bytes.map bv)∧(∀ x∈aP v,w.heap.size≤x)∧ag [] w w'
theorem xL (p:Nat) (v:Value) (s:WS) (w:World) (h:jl w p v s) (hb:s.b.length≤140737488355328):
 Calls prog 50 #[.pointer (some ⟨p,0,none⟩)] w (yS s w):=by
 have hc1:w.cell? ⟨p,1,none⟩=some (.int .i64 s.e):=h.1.cell 1
 have hc0:w.cell? ⟨p,0,none⟩=some v:=h.1.cell 0
 by_cases he:s.e=0
 ·have he':(s.e !=0)=false:=by simp[he]
  have hfin:s.bytes=s.b:=by simp[WS.bytes,he]
  have HFin:=aa hfin
  have HE:=aa he
  clear hfin he
  obtain⟨i0,hi0,hz0,hz1,hz2⟩:=info_parts jV
  obtain⟨A,c,rfl,_,_,_,hrd⟩:=h.2.form
  obtain⟨g,hg⟩:∃ g,aP (.slice A s.b.length c)=[]∨aP (.slice A s.b.length c)=[g]:=by
   unfold aP
   cases Value.ownBlock (.slice A s.b.length c) with
   |none=>exact⟨0,.inl rfl⟩
   |some g=>exact⟨g,.inr rfl⟩
  have HS:=aa (hrd g hg)
  clear hrd hg
  go_enter func50,ntmps50
  go_wp2_with (at_builtin;refine dH _ rfl _ (.tmp 18) 24 rfl 5 i0 (.int .u8 0) 1 1 underlying24 hi0 hz0 hz1 hz2 rfl (by decide) (.slice none 0 0) 0 [] rfl (cZ.nil _ _ _) A g s.b.length c _ (by simp[Act.eval]) HS.o (by intro u hu;simp at hu;obtain⟨b,_,rfl⟩:=hu;rfl) (by omega) (by unfold maxLen;omega) ?_;intro A2 c2 w2 hown2 hkb2 hloc2)
  go_ret2
  refine⟨_,by rw[HE.o];rfl,?_,fun x hx=> ?_,hkb2⟩
  ·rw[HFin.o];simpa using hown2
  ·rcases hloc2 x (by simpa using hx) with h1|h1
   ·simp[bI] at h1
   ·exact h1
 ·have he':(s.e !=0)=true:=by simp[he]
  have hfin:s.bytes=[]:=by simp[WS.bytes,he]
  have HFin:=aa hfin
  clear hfin he
  go_enter func50,ntmps50
  go_wp2
  go_region
  all_goals
   try go_wp2
   go_ret2
   exact⟨.slice none 0 0,rfl,by rw[HFin.o];exact cZ.nil _ _ _,by simp[bI],(ag.refl _ _).drew⟩
theorem Ag (w:World):
 Calls prog 41 #[] w fun e w'=>∃ p,e= .returned (.pointer (some ⟨p,0,none⟩))∧jl w' p (.slice none 0 0) ⟨[],0⟩∧w.heap.size≤p∧ag [] w w':=by
 go_enter func41,ntmps41
 go_wp2
 go_ret
 exact⟨w.heap.size,rfl,⟨aC.new _ _ _,cZ.nil _ _ _⟩,Nat.le_refl _,(ag.refl _ _).alloc _⟩
end Go.Proofs.YthfdkonhjpdflaaGreatDoor
