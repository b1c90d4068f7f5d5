import Derived.Test.YthfdkonhjpdflaaGreatDoorLow1
import Derived.Handy
namespace Go.Proofs.YthfdkonhjpdflaaGreatDoor
open Go.RowKit Go.Proofs.Tryz
set_option linter.unusedVariables false
set_option maxHeartbeats 1000000
set_option maxRecDepth 100000
def ME (w:World) (p g:Nat) (r:RS):Prop:=
 ∃ A c,l5 w p 139 #[.slice A r.l.length c,.int .i64 r.e]∧r.l.length≤c∧c≤maxLen∧QA w A g r.l∧(r.l≠[]→g≠p)
theorem ME.keep {S:List Nat} {w w':World} {p g:Nat} {r:RS} (h:ME w p g r) (hk:U1 S w w') (hp:p∉S) (hg:r.l≠[]→g∉S):ME w' p g r:=by
 obtain⟨A,c,h1,h2,h3,h4,h5⟩:=h
 exact⟨A,c,hk.row h1 hp,h2,h3,h4.keep hk hg,h5⟩
theorem ME.lt {w:World} {p g:Nat} {r:RS} (h:ME w p g r):p<w.heap.size:=by
 obtain⟨A,c,h1,_⟩:=h;exact h1.lt
def XT (p g:Nat) (r:RS) (x:Int) (w:World) (e:Ending) (w':World):Prop:=
 e= .returned (.tuple #[])∧ME w' p g (r.fail x)∧U1 [p] w w'
theorem EE (p g:Nat) (r:RS) (x:Int) (w:World) (h:ME w p g r):
 Calls prog 139 #[.pointer (some ⟨p,0,none⟩),.int .i64 x] w (XT p g r x w):=by
 obtain⟨A,c,h1,h2,h3,h4,h5⟩:=h
 have hc0:w.cell? ⟨p,0,none⟩=some (.slice A r.l.length c):=h1.cell 0
 have hc1:w.cell? ⟨p,1,none⟩=some (.int .i64 r.e):=h1.cell 1
 have hf0:=h1.free 0
 have hf1:=h1.free 1
 by_cases he:r.e=0
 ·have he':(r.e==0)=true:=by simp[he]
  have H:=U0 he
  clear he
  go_enter func139,ntmps139
  go_wp2
  go_end0
  refine⟨rfl,⟨none,0,?_,?_,?_,?_,by simp only[RS.fail,if_pos H.o];exact fun h=>absurd rfl h⟩,((U1.refl _ _).setCell _ _ (by simp)).setCell _ _ (by simp)⟩
  ·simp only[RS.fail,if_pos H.o]
   exact (h1.set 1 _).set 0 _
  ·simp only[RS.fail,if_pos H.o]
   exact Nat.le_refl _
  ·simp[maxLen]
  ·simp only[RS.fail,if_pos H.o]
   exact QA.nil _ _ _
 ·have he':(r.e==0)=false:=by simp[he]
  go_enter func139,ntmps139
  go_wp2
  go_end0
  have hf:r.fail x=r:=by simp[RS.fail,he]
  exact⟨rfl,by rw[hf];exact⟨A,c,h1,h2,h3,h4,h5⟩,U1.refl _ _⟩
def GU (p g:Nat) (r:RS) (n:Nat) (w:World) (e:Ending) (w':World):Prop:=
 ∃ A c,e= .returned (.tuple #[.slice A (r.take n).length c,.bool (r.took n)])∧(r.take n).length≤c∧c≤maxLen∧QA w' A g (r.take n)∧ME w' p g (r.past n)∧U1 [p] w w'
theorem rF (p g:Nat) (r:RS) (n:Nat) (w:World) (h:ME w p g r):
 Calls prog 140 #[.pointer (some ⟨p,0,none⟩),.int .i64 n] w (GU p g r n w):=by
 obtain⟨A,c,h1,h2,h3,h4,h5⟩:=id h
 have hc0:w.cell? ⟨p,0,none⟩=some (.slice A r.l.length c):=h1.cell 0
 have hc1:w.cell? ⟨p,1,none⟩=some (.int .i64 r.e):=h1.cell 1
 have hf0:=h1.free 0
 have hf1:=h1.free 1
 unfold maxLen at h3
 by_cases he:r.e=0
 ·have he':(r.e==0)=true:=by simp[he]
  have H:=U0 he
  clear he
  by_cases hn:n≤r.l.length
  ·have T:r.take n=r.l.take n:=by simp[RS.take,H.o,hn]
   have P:r.past n=⟨r.l.drop n,0⟩:=by simp[RS.past,H.o,hn]
   have K:r.took n=true:=by simp[RS.took,H.o,hn]
   have L:(r.take n).length=n:=by rw[T,List.length_take];omega
   have HT:=U0 T;have HP:=U0 P;have HK:=U0 K;have HL:=U0 L
   clear T P K L
   go_enter func140,ntmps140
   go_wp2
   ·go_ret2
    refine⟨A,n,by rw[HK.o,HL.o];rfl,by rw[HL.o];omega,by unfold maxLen;omega,?_,?_,(U1.refl _ _).setCell _ _ (by simp)⟩
    ·rw[HT.o];exact (h4.take n).keep ((U1.refl [p] w).setCell _ _ (by simp)) (fun hne=>by simpa using h5 (by rintro h0;apply hne;rw[h0];simp))
    ·rw[HP.o]
     have hd:r.l.drop n=[]:=List.drop_eq_nil_of_le (by omega)
     refine⟨A,0,?_,by simp[hd],by simp[maxLen],by rw[hd];exact QA.nil _ _ _,fun hne=>absurd hd hne⟩
     have:=h1.set 0 (.slice A (r.l.length-n) 0)
     simpa[H.o] using this
   ·go_ret2
    refine⟨A,c,by rw[HK.o,HL.o];rfl,by rw[HL.o];omega,by unfold maxLen;omega,?_,?_,(U1.refl _ _).setCell _ _ (by simp)⟩
    ·rw[HT.o];exact (h4.take n).keep ((U1.refl [p] w).setCell _ _ (by simp)) (fun hne=>by simpa using h5 (by rintro h0;apply hne;rw[h0];simp))
    ·rw[HP.o]
     refine⟨_,c-n,?_,by simp;omega,by unfold maxLen;omega,(h4.drop n).keep ((U1.refl [p] w).setCell _ _ (by simp)) (fun hne=>by simpa using h5 (by rintro h0;apply hne;rw[h0];simp)),fun hne=>h5 (by rintro h0;apply hne;rw[h0];simp)⟩
     have:=h1.set 0 (.slice (Option.map (fun x=>x.add n) A) (r.l.length-n) (c-n))
     simpa[H.o] using this
  ·have T:r.take n=[]:=by simp[RS.take,H.o,hn]
   have P:r.past n=r.fail 3:=by simp[RS.past,RS.fail,H.o,hn]
   have K:r.took n=false:=by simp[RS.took,hn]
   have HT:=U0 T;have HP:=U0 P;have HK:=U0 K
   clear T P K
   go_enter func140,ntmps140
   go_wp2_with (go_at_call 139;refine (EE p g r _ _ h).mono ?_;rintro e w' ⟨rfl,hi,hk⟩)
   go_ret2
   exact⟨none,0,by rw[HK.o,HT.o];rfl,by rw[HT.o];simp,by simp[maxLen],by rw[HT.o];exact QA.nil _ _ _,by rw[HP.o];exact hi,hk⟩
 ·have he':(r.e==0)=false:=by simp[he]
  have T:r.take n=[]:=by simp[RS.take,he]
  have P:r.past n=r:=by simp[RS.past,he]
  have K:r.took n=false:=by simp[RS.took,he]
  have HT:=U0 T;have HP:=U0 P;have HK:=U0 K
  clear T P K
  go_enter func140,ntmps140
  go_wp2
  go_ret2
  exact⟨none,0,by rw[HK.o,HT.o];rfl,by rw[HT.o];simp,by simp[maxLen],by rw[HT.o];exact QA.nil _ _ _,by rw[HP.o];exact h,U1.refl _ _⟩
theorem XP (l:List UInt8) (k:Nat) (b:UInt8) (h:l[k]? =some b):be (l.take (k+1))=be (l.take k)*256+b.toNat:=by
 rw[List.take_add_one,h]
 simp[be,List.foldl_append]
theorem VS (l:List UInt8):be l<256^l.length:=by
 have key:∀ (l:List UInt8) (n m:Nat),n<256^m→l.foldl (fun n b=>n*256+b.toNat) n<256^(m+l.length):=by
  intro l
  induction l with
  |nil=>intro n m h;simpa using h
  |cons b t ih=>
   intro n m h
   have:=ih (n*256+b.toNat) (m+1) (by have:=b.toNat_lt;rw[Nat.pow_succ];omega)
   simp only[List.foldl_cons,List.length_cons]
   rw[show m+(t.length+1)=m+1+t.length by omega]
   exact this
 simpa[be] using key l 0 0 (by simp)
theorem zJ (l:List UInt8) (k:Nat) (hk:k≤7):be (l.take k)<2^56:=by
 have h:=VS (l.take k)
 have h2:256^(l.take k).length≤256^7:=Nat.pow_le_pow_right (by decide) (by have:=List.length_take_le k l;omega)
 have:(256:Nat)^7=2^56:=by decide
 omega
theorem VP (l:List UInt8) (hl:l.length≤8):be l<2^64:=by
 have h:=VS l
 have h2:256^l.length≤256^8:=Nat.pow_le_pow_right (by decide) hl
 have:(256:Nat)^8=2^64:=by decide
 omega
theorem ED (n:Int) (w:World):Calls prog 120 #[.int .i64 n] w fun e w'=>e= .returned (.bool (FI n))∧w=w':=by
 by_cases h1:n=1
 ·subst h1
  go_enter func120,ntmps120
  go_wp2
  go_ret
  exact⟨rfl,rfl⟩
 by_cases h2:n=2
 ·subst h2
  go_enter func120,ntmps120
  go_wp2
  go_ret
  exact⟨rfl,rfl⟩
 by_cases h4:n=4
 ·subst h4
  go_enter func120,ntmps120
  go_wp2
  go_ret
  exact⟨rfl,rfl⟩
 ·have e1:(n==1)=false:=by simp[h1]
  have e2:(n==2)=false:=by simp[h2]
  have e4:(n==4)=false:=by simp[h4]
  have hw:FI n=(n==8):=by simp[FI,h1,h2,h4]
  have HW:=U0 hw
  clear hw
  go_enter func120,ntmps120
  go_wp2
  go_ret
  exact⟨by rw[HW.o];rfl,rfl⟩
theorem fC {n:Int} (h:FI n=true):n=1∨n=2∨n=4∨n=8:=by
 simpa[FI,or_assoc] using h
def FC (p g:Nat) (r:RS) (n:Int) (w:World) (e:Ending) (w':World):Prop:=
 e= .returned (.int .i64 (r.num n).1)∧ME w' p g (r.num n).2∧U1 [p] w w'
theorem OC (p g:Nat) (r:RS) (n:Int) (w:World) (h:ME w p g r):
 Calls prog 94 #[.pointer (some ⟨p,0,none⟩),.int .i64 n] w (FC p g r n w):=by
 by_cases hw:FI n=true
 ·obtain⟨m,rfl⟩:∃ m:Nat,n=(m:Int):=⟨n.toNat,by rcases fC hw with h|h|h|h<;>omega⟩
  have hm:1≤m∧m≤8:=by rcases fC hw with h|h|h|h<;>omega
  by_cases ht:r.took m=true
  ·have hl:(r.take m).length=m:=by
    rw[RS.took_iff] at ht;rw[RS.take,if_pos ht,List.length_take];omega
   have HL:=U0 hl
   have HT:=U0 ht
   clear hl
   go_enter func94,ntmps94
   go_wp2_with (first|(go_at_call 120;refine (ED _ _).mono ?_;rintro e w' ⟨rfl,rfl⟩)|(go_at_call 140;refine (rF p g r m _ h).mono ?_;rintro e w1 ⟨A,c,rfl,hk1,hk2,hs,hi,hk⟩))
   generalize hgl:r.take m=l at*
   obtain⟨o,rfl,hlt,hc⟩:=hs (by rintro rfl;have:=HL.o;simp at this;omega)
   go_loop [7,23] (fun n i=>∃ k:Nat,k≤m∧i= .int .i64 k∧n= .int .u64 (be (l.take k))) (fun _ i=>m-(intOf i).toNat)
   case atStart=>exact⟨0,Nat.zero_le _,rfl,rfl⟩
   case round=>
    obtain⟨k,hkm,rfl,rfl⟩:=hrel
    by_cases hlt2:k<m
    ·have hkl:k<l.length:=by rw[HL.o];exact hlt2
     have hb:∃ b,l[k]? =some b:=⟨l[k]'hkl,by simp⟩
     obtain⟨b,hb⟩:=hb
     have hcell:=hc k b hb
     unfold bv at hcell
     have HB:=U0 (XP l k b hb)
     have HO:=U0 (NN (be (l.take k)) b.toNat (zJ l k (by omega)) b.toNat_lt)
     clear hc hb hs
     go_wp2
     go_round
     case rel=>exact⟨k+1,by omega,by go_num,by rw[HO.o,HB.o]⟩
     case measure=>simp[intOf];omega
    ·obtain rfl:k=m:=by omega
     have hlk:l.take k=l:=List.take_of_length_le (by rw[HL.o];exact Nat.le_refl _)
     have hbl:=VP l (by rw[HL.o];omega)
     rw[hlk]
     clear hlk hc hs
     have HG:=U0 hgl
     clear hgl
     by_cases hmx:YF<be l
     ·have hmx':(9007199254740991:Int)<(be l:Int):=by unfold YF at hmx;omega
      go_wp2_with (go_at_call 139;refine (EE p g _ _ _ hi).mono ?_;rintro e w' ⟨rfl,hi',hk'⟩)
      go_ret
      have hn:r.num (k:Int)=(0,(r.past k).fail 9):=by
       unfold RS.num
       rw[if_pos hw,Int.toNat_natCast,if_pos HT.o,HG.o,if_pos hmx]
      exact⟨by rw[hn];rfl,by rw[hn];exact hi',hk.then hk' (by simp)⟩
     ·have hmx': ¬(9007199254740991:Int)<(be l:Int):=by unfold YF at hmx;omega
      go_wp2
      go_ret
      have hn:r.num (k:Int)=(((be l:Nat):Int),r.past k):=by
       unfold RS.num
       rw[if_pos hw,Int.toNat_natCast,if_pos HT.o,HG.o,if_neg hmx]
      exact⟨by rw[hn];go_num,by rw[hn];exact hi,hk⟩
  ·have HT:=U0 ht
   have HF:r.took m=false:=by simpa using ht
   have HF':=U0 HF
   clear HF ht
   go_enter func94,ntmps94
   go_wp2_with (first|(go_at_call 120;refine (ED _ _).mono ?_;rintro e w' ⟨rfl,rfl⟩)|(go_at_call 140;refine (rF p g r m _ h).mono ?_;rintro e w1 ⟨A,c,rfl,hk1,hk2,hs,hi,hk⟩;rw[HF'.o]))
   go_ret
   have hn:r.num (m:Int)=(0,r.past m):=by
    unfold RS.num
    rw[if_pos hw,Int.toNat_natCast,if_neg HT.o]
   exact⟨by rw[hn];rfl,by rw[hn];exact hi,hk⟩
 ·have HW:=U0 hw
  have hw':FI n=false:=by simpa using hw
  clear hw
  go_enter func94,ntmps94
  go_wp2_with (first|(go_at_call 120;refine (ED _ _).mono ?_;rintro e w' ⟨rfl,rfl⟩)|(go_at_call 139;refine (EE p g _ _ _ h).mono ?_;rintro e w' ⟨rfl,hi',hk'⟩))
  go_ret
  have hn:r.num n=(0,r.fail 2):=by
   unfold RS.num
   rw[if_neg HW.o]
  exact⟨by rw[hn];rfl,by rw[hn];exact hi',hk'⟩
def JD (n most:Int) (r:RS):Int × RS:=if (YF:Int)<n then (0,r.fail 9) else if most<n then (0,r.fail 5) else (n,r)
def BM (p g:Nat) (r:RS) (n most:Int) (w:World) (e:Ending) (w':World):Prop:=
 e= .returned (.int .i64 (JD n most r).1)∧ME w' p g (JD n most r).2∧U1 [p] w w'
theorem FM (p g:Nat) (r:RS) (n most:Int) (w:World) (h:ME w p g r):
 Calls prog 149 #[.pointer (some ⟨p,0,none⟩),.int .i64 n,.int .i64 most] w (BM p g r n most w):=by
 by_cases h1:(9007199254740991:Int)<n
 ·have hn:JD n most r=(0,r.fail 9):=by unfold JD YF;rw[if_pos (by omega)]
  have HN:=U0 hn
  clear hn
  go_enter func149,ntmps149
  go_wp2_with (go_at_call 139;refine (EE p g _ _ _ h).mono ?_;rintro e w' ⟨rfl,hi',hk'⟩)
  go_ret
  exact⟨by rw[HN.o];rfl,by rw[HN.o];exact hi',hk'⟩
 ·by_cases h2:most<n
  ·have hn:JD n most r=(0,r.fail 5):=by unfold JD YF;rw[if_neg (by omega),if_pos h2]
   have HN:=U0 hn
   clear hn
   go_enter func149,ntmps149
   go_wp2_with (go_at_call 139;refine (EE p g _ _ _ h).mono ?_;rintro e w' ⟨rfl,hi',hk'⟩)
   go_ret
   exact⟨by rw[HN.o];rfl,by rw[HN.o];exact hi',hk'⟩
  ·have hn:JD n most r=(n,r):=by unfold JD YF;rw[if_neg (by omega),if_neg h2]
   have HN:=U0 hn
   clear hn
   go_enter func149,ntmps149
   go_wp2
   go_ret
   exact⟨by rw[HN.o];rfl,by rw[HN.o];exact h,U1.refl _ _⟩
def dC (p g:Nat) (r:RS) (most:Int) (w:World) (e:Ending) (w':World):Prop:=
 e= .returned (.int .i64 (r.count most).1)∧ME w' p g (r.count most).2∧U1 [p] w w'
theorem TL (most:Int) (s n:Nat):iG most [] s n=(0,⟨[],3⟩):=by rw[iG]
theorem bQ (most:Int) (t:List UInt8) (n:Nat) (b:UInt8) (hb:b.toNat=128):iG most (b::t) 0 n=(0,⟨[],4⟩):=by
 rw[iG,if_pos ⟨rfl,hb⟩]
theorem QM (most:Int) (t:List UInt8) (s n:Nat) (b:UInt8) (hb:b.toNat<128):
 iG most (b::t) s n=JD ((n*128+b.toNat % 128:Nat):Int) most ⟨t,0⟩:=by
 rw[iG,if_neg (by omega),if_pos hb]
 unfold JD RS.fail
 rw[if_pos rfl,if_pos rfl]
 generalize n*128+b.toNat % 128=m
 by_cases h1:YF<m
 ·rw[if_pos h1,if_pos (by omega)]
 ·rw[if_neg h1,if_neg (c:=(YF:Int)<m) (by omega)]
theorem TM (most:Int) (t:List UInt8) (n:Nat) (b:UInt8) (hb: ¬b.toNat<128):iG most (b::t) 7 n=(0,⟨[],4⟩):=by
 rw[iG,if_neg (by omega),if_neg hb,if_pos rfl]
theorem PT (most:Int) (t:List UInt8) (s n:Nat) (b:UInt8) (h0: ¬(s=0∧b.toNat=128)) (hb: ¬b.toNat<128) (hs:s≠7):
 iG most (b::t) s n=iG most t (s+1) (n*128+b.toNat % 128):=by
 rw[iG,if_neg h0,if_neg hb,if_neg hs]
def rV (p g:Nat) (l:List UInt8) (k n:Nat) (most:Int) (w:World) (e:Ending) (w':World):Prop:=
 e= .returned (.int .i64 (iG most l k n).1)∧ME w' p g (iG most l k n).2∧U1 [p] w w'
def cntRel (p g:Nat) (l:List UInt8) (most:Int) (w:World) (n i:Value) (wr:World):Prop:=
 ∃ (k m:Nat) (t:List UInt8),i= .int .i64 k∧n= .int .i64 m∧k≤7∧m<128^k∧ME wr p g ⟨t,0⟩∧U1 [p] w wr∧iG most t k m=iG most l 0 0
theorem XN (k m:Nat) (hk:k≤7) (h:m<128^k):m<562949953421312:=by
 have h2:128^k≤128^7:=Nat.pow_le_pow_right (by decide) hk
 have:(128:Nat)^7=562949953421312:=by decide
 omega
theorem pO (b:UInt8):IntKind.i64.wrap (bits .and .u8 (b.toNat:Int) 127)=((b.toNat % 128:Nat):Int):=by
 rw[nH _ b.toNat_lt,Z8 _ (by omega) (by omega)]
theorem JR (m:Nat) (b:UInt8) (hm:m<562949953421312):
 bits .or .i64 ((m:Int)*128) (wrap64 (bits .and .u8 (b.toNat:Int) 127))=((m*128+b.toNat % 128:Nat):Int):=by
 have:=pO b
 rw[show wrap64 (bits .and .u8 (b.toNat:Int) 127)=((b.toNat % 128:Nat):Int) from by rw[nH _ b.toNat_lt];unfold wrap64;omega]
 exact iM m _ (by omega) (by omega)
def oneNilPost (p g:Nat) (w:World) (e:Ending) (w':World):Prop:=
 e= .returned (.tuple #[.slice none 0 0,.bool false])∧ME w' p g ⟨[],3⟩∧U1 [p] w w'
theorem jS (p g:Nat) (w:World) (h:ME w p g ⟨[],0⟩):
 Calls prog 140 #[.pointer (some ⟨p,0,none⟩),.int .i64 1] w fun e w'=>∃ A c,e= .returned (.tuple #[.slice A 0 c,.bool false])∧ME w' p g ⟨[],3⟩∧U1 [p] w w':=by
 refine (rF p g _ 1 _ h).mono ?_
 rintro e w1 ⟨A,c,rfl,hk1,hk2,hs,hi,hkb1⟩
 exact⟨A,c,rfl,hi,hkb1⟩
theorem rG (p g:Nat) (b:UInt8) (t:List UInt8) (w:World) (h:ME w p g ⟨b::t,0⟩):
 Calls prog 140 #[.pointer (some ⟨p,0,none⟩),.int .i64 1] w fun e w'=>∃ o c,e= .returned (.tuple #[.slice (some ⟨g,o,none⟩) 1 c,.bool true])∧w'.cell? ⟨g,o,none⟩=some (.int .u8 (b.toNat:Int))∧ME w' p g ⟨t,0⟩∧U1 [p] w w':=by
 refine (rF p g _ 1 _ h).mono ?_
 rintro e w1 ⟨A,c,rfl,hk1,hk2,hs,hi,hkb1⟩
 have ht:RS.take ⟨b::t,0⟩ 1=[b]:=by simp[RS.take]
 have hp:RS.past ⟨b::t,0⟩ 1=⟨t,0⟩:=by simp[RS.past]
 have hq:RS.took ⟨b::t,0⟩ 1=true:=by simp[RS.took]
 rw[ht] at hs
 rw[hp] at hi
 obtain⟨o,rfl,hlt,hc⟩:=hs (by simp)
 exact⟨o,c,by rw[ht,hq];rfl,hc 0 b rfl,hi,hkb1⟩
theorem UO (p g:Nat) (l:List UInt8) (most:Int) (w:World) (h:ME w p g ⟨l,0⟩):
 Calls prog 102 #[.pointer (some ⟨p,0,none⟩),.int .i64 most] w (rV p g l 0 0 most w):=by
 go_enter func102,ntmps102
 go_wp2
 go_step3
 go_wp2
 go_step3
 go_wp2
 go_loopw [5,6] (fun n i wr=>cntRel p g l most w n i wr) (fun _ i _=>8-(intOf i).toNat)
 case atStart=>exact⟨0,0,l,rfl,rfl,by omega,by simp,h,U1.refl _ _,rfl⟩
 case round=>
  obtain⟨k,m,t,rfl,rfl,hk,hm,hr,hkb,hc⟩:=hrel
  have hm7:=XN k m hk hm
  have HC:=U0 hc
  clear hc
  rcases t with _|⟨b,t⟩
  ·go_wp2_with (go_at_call 140;refine (jS p g _ hr).mono ?_;rintro e w1 ⟨A,c,rfl,hi,hkb1⟩)
   rw[Exit.noGoto_ret]
   go_ret
   have hn:=TL most k m
   rw[HC.o] at hn
   exact⟨by rw[hn];rfl,by rw[hn];exact hi,hkb.then hkb1 (by simp)⟩
  ·obtain⟨x,hx⟩:∃ x:Nat,x=m*128+b.toNat % 128:=⟨_,rfl⟩
   have hrn:=JR m b hm7
   rw[←hx] at hrn
   have hb256:=b.toNat_lt
   have hxb:x<72057594037927936:=by omega
   have HX:=U0 hx
   clear hx
   by_cases hb:b.toNat<128
   ·have hz: ¬(k=0∧b.toNat=128):=by omega
    have hlast:=QM most t k m b hb
    rw[←HX.o,HC.o] at hlast
    have HL:=U0 hlast
    clear hlast
    go_wp2_with (first|(go_at_call 140;refine (rG p g b t _ hr).mono ?_;rintro e w1 ⟨o,c,rfl,hcell,hi,hkb1⟩)|(go_at_call 149;refine (FM p g _ (x:Int) most _ (by assumption)).mono ?_;rintro e w2 ⟨rfl,hi2,hkb2⟩))
    all_goals
     rw[Exit.noGoto_ret]
     go_ret
     exact⟨by rw[HL.o];rfl,by rw[HL.o];assumption,(hkb.then (by assumption) (by simp)).then (by assumption) (by simp)⟩
   ·by_cases h0:k=0∧b.toNat=128
    ·obtain⟨rfl,hb2⟩:=h0
     have hn:=bQ most t m b hb2
     rw[HC.o] at hn
     have HN:=U0 hn
     clear hn
     go_wp2_with (first|(go_at_call 140;refine (rG p g b t _ hr).mono ?_;rintro e w1 ⟨o,c,rfl,hcell,hi,hkb1⟩)|(go_at_call 139;refine (EE p g _ _ _ (by assumption)).mono ?_;rintro e w2 ⟨rfl,hi2,hkb2⟩))
     all_goals
      rw[Exit.noGoto_ret]
      go_ret
      exact⟨by rw[HN.o];rfl,by rw[HN.o];assumption,(hkb.then (by assumption) (by simp)).then (by assumption) (by simp)⟩
    ·by_cases h7:k=7
     ·subst h7
      have hn:=TM most t m b hb
      rw[HC.o] at hn
      have HN:=U0 hn
      clear hn
      go_wp2_with (first|(go_at_call 140;refine (rG p g b t _ hr).mono ?_;rintro e w1 ⟨o,c,rfl,hcell,hi,hkb1⟩)|(go_at_call 139;refine (EE p g _ _ _ (by assumption)).mono ?_;rintro e w2 ⟨rfl,hi2,hkb2⟩))
      all_goals
       rw[Exit.noGoto_ret]
       go_ret
       exact⟨by rw[HN.o];rfl,by rw[HN.o];assumption,(hkb.then (by assumption) (by simp)).then (by assumption) (by simp)⟩
     ·have hn:=PT most t k m b h0 hb h7
      rw[HC.o,←HX.o] at hn
      have HN:=U0 hn
      clear hn
      go_wp2_with (first|(go_at_call 140;refine (rG p g b t _ hr).mono ?_;rintro e w1 ⟨o,c,rfl,hcell,hi,hkb1⟩))
      all_goals
       go_roundw
       case rel=>exact⟨k+1,x,t,by go_num,rfl,by omega,by have:=HX.o;rw[Nat.pow_succ];omega,by assumption,hkb.then (by assumption) (by simp),HN.o.symm⟩
       case measure=>simp[intOf];omega
theorem VO (p g:Nat) (r:RS) (most:Int) (w:World) (h:ME w p g r) (he:r.e≠0):
 Calls prog 102 #[.pointer (some ⟨p,0,none⟩),.int .i64 most] w (dC p g r most w):=by
 have hn:r.count most=(0,r):=by simp[RS.count,he]
 have ht:∀ w,ME w p g r→Calls prog 140 #[.pointer (some ⟨p,0,none⟩),.int .i64 1] w fun e w'=>∃ A c,e= .returned (.tuple #[.slice A 0 c,.bool false])∧ME w' p g r∧U1 [p] w w':=by
  intro w h
  refine (rF p g _ 1 _ h).mono ?_
  rintro e w1 ⟨A,c,rfl,hk1,hk2,hs,hi,hkb1⟩
  have h1:r.take 1=[]:=by simp[RS.take,he]
  have h2:r.took 1=false:=by simp[RS.took,he]
  have h3:r.past 1=r:=by simp[RS.past,he]
  rw[h1,h2]
  rw[h3] at hi
  exact⟨A,c,rfl,hi,hkb1⟩
 have HN:=U0 hn
 have HT:=U0 ht
 clear hn ht he
 go_enter func102,ntmps102
 go_wp2
 go_step3
 go_wp2
 go_step3
 go_wp2
 refine wp_loop_rounds 1 ?_
 rw[rounds_succ]
 go_wp2_with (go_at_call 140;refine (HT.o _ h).mono ?_;rintro e w1 ⟨A,c,rfl,hi,hkb1⟩)
 rw[Exit.noGoto_ret]
 go_ret
 exact⟨by rw[HN.o];rfl,by rw[HN.o];exact hi,hkb1⟩
theorem TC (p g:Nat) (r:RS) (most:Int) (w:World) (h:ME w p g r):
 Calls prog 102 #[.pointer (some ⟨p,0,none⟩),.int .i64 most] w (dC p g r most w):=by
 by_cases he:r.e=0
 ·obtain⟨l,e⟩:=r
  simp only at he
  subst he
  have hcnt:(RS.mk l 0).count most=iG most l 0 0:=by simp[RS.count]
  unfold dC
  rw[hcnt]
  exact UO p g l most w h
 ·exact VO p g r most w h he
def tH (w w':World) (v:Value) (l:List UInt8):Prop:=
 qA w' 5 1 v l.length (l.map bv)∧∀ x∈Z6 v,w.heap.size≤x
def DW (p g:Nat) (r:RS) (n:Int) (w:World) (e:Ending) (w':World):Prop:=
 ∃ v,e= .returned v∧tH w w' v (r.raw n).1∧ME w' p g (r.raw n).2∧U1 [p] w w'
theorem gP:(prog.info? 5).map (fun i=>(i.zero,i.size,i.bytes))=some (some (.int .u8 0),1,1):=by kernel_rfl
theorem ME.bound {w:World} {p g:Nat} {r:RS} (h:ME w p g r):r.l.length≤maxLen:=by
 obtain⟨A,c,_,h2,h3,_⟩:=h;omega
theorem pQ (p g:Nat) (r:RS) (n:Int) (w:World) (h:ME w p g r) (hb:r.l.length≤140737488355328):
 Calls prog 150 #[.pointer (some ⟨p,0,none⟩),.int .i64 n] w (DW p g r n w):=by
 by_cases hn:n<0
 ·have hr:r.raw n=([],r.fail 2):=by simp[RS.raw,hn]
  have HR:=U0 hr
  clear hr
  go_enter func150,ntmps150
  go_wp2_with (go_at_call 139;refine (EE p g _ _ _ h).mono ?_;rintro e w' ⟨rfl,hi',hk'⟩)
  go_ret
  exact⟨_,rfl,by rw[HR.o];exact⟨qA.nil _ _ _,by simp[Z6,Value.ownBlock]⟩,by rw[HR.o];exact hi',hk'⟩
 ·obtain⟨m,rfl⟩:∃ m:Nat,n=(m:Int):=⟨n.toNat,by omega⟩
  have hr:r.raw (m:Int)=(r.take m,r.past m):=by unfold RS.raw;rw[if_neg hn];rfl
  have HR:=U0 hr
  clear hr
  obtain⟨i0,hi0,hz0,hz1,hz2⟩:=info_parts gP
  by_cases ht:r.took m=true
  ·have HT:=U0 ht
   have hlen:(r.take m).length≤r.l.length:=by
    unfold RS.take;split
    ·rw[List.length_take];omega
    ·simp
   go_enter func150,ntmps150
   go_wp2_with (first|(go_at_call 140;refine (rF p g r m _ h).mono ?_;rintro e w1 ⟨A,c,rfl,hk1,hk2,hs,hi,hk⟩)|(at_builtin;refine NA _ rfl _ _ 24 rfl 5 i0 (.int .u8 0) 1 1 underlying24 hi0 hz0 hz1 hz2 rfl (by decide) _ 0 [] rfl (qA.nil _ _ _) _ g _ _ _ rfl (QA.reads (by assumption)) ?c1 ?c2 ?c3 ?_))
   case c1=>intro u hu;simp at hu;obtain⟨b,_,rfl⟩:=hu;rfl
   case c2=>omega
   case c3=>unfold maxLen at*;omega
   ·intro A' c' w2 hown hkb2 hloc
    go_wp2
    go_ret
    try simp only[Nat.zero_add,List.nil_append] at hown
    have hfr:tH w w2 (.slice A' (r.take m).length c') (r.take m):=by
     refine⟨by simpa using hown,fun x hx=> ?_⟩
     rcases hloc x (by simpa using hx) with h1|h1
     ·simp[d9] at h1
     ·have:=hk.size;omega
    exact⟨_,rfl,by rw[HR.o];exact hfr,by rw[HR.o];exact hi.keep hkb2 (by simp[d9]) (by simp[d9]),hk.then hkb2 (by simp[d9])⟩
  ·have HT:r.took m=false:=by simpa using ht
   have hnil:r.take m=[]:=by
    unfold RS.take;rw[if_neg (by rw[←RS.took_iff];exact ht)]
   have HT':=U0 HT
   have HN:=U0 hnil
   clear HT hnil ht
   go_enter func150,ntmps150
   go_wp2_with (go_at_call 140;refine (rF p g r m _ h).mono ?_;rintro e w1 ⟨A,c,rfl,hk1,hk2,hs,hi,hk⟩;rw[HT'.o])
   go_ret
   exact⟨_,rfl,by rw[HR.o,HN.o];exact⟨qA.nil _ _ _,by simp[Z6,Value.ownBlock]⟩,by rw[HR.o];exact hi,hk⟩
def sF (p g:Nat) (r:RS) (n:Int) (w:World) (e:Ending) (w':World):Prop:=
 ∃ v,e= .returned v∧tH w w' v (r.text n).1∧ME w' p g (r.text n).2∧U1 [p] w w'
theorem aR (most:Int):∀ (l:List UInt8) (s n:Nat),(iG most l s n).2.l.length≤l.length:=by
 intro l
 induction l with
 |nil=>intro s n;simp[iG]
 |cons b t ih=>
  intro s n
  unfold iG
  split
  ·simp
  ·split
   ·split
    ·simp
    ·split<;>simp
   ·split
    ·simp
    ·have:=ih (s+1) (n*128+b.toNat % 128);simp only[List.length_cons];omega
theorem RS.count_short (r:RS) (most:Int):(r.count most).2.l.length≤r.l.length:=by
 unfold RS.count;split
 ·exact aR _ _ _ _
 ·exact Nat.le_refl _
theorem eG (p g:Nat) (r:RS) (n:Int) (w:World) (h:ME w p g r) (hb:r.l.length≤140737488355328):
 Calls prog 104 #[.pointer (some ⟨p,0,none⟩),.int .i64 n] w (sF p g r n w):=by
 have hb2:=RS.count_short r n
 go_enter func104,ntmps104
 go_wp2_with (first|(go_at_call 102;refine (TC p g r n _ h).mono ?_;rintro e w1 ⟨rfl,hi,hk⟩)|(go_at_call 150;refine (pQ p g _ _ _ (by assumption) (by omega)).mono ?_;rintro e w2 ⟨v,rfl,hf,hi2,hk2⟩))
 go_ret
 exact⟨_,rfl,⟨hf.1,fun x hx=>by have:=hf.2 x hx;have:=hk.size;omega⟩,hi2,hk.then hk2 (by simp)⟩
theorem DN (p g:Nat) (r:RS) (w:World) (h:ME w p g r):
 Calls prog 153 #[.pointer (some ⟨p,0,none⟩)] w fun e w'=>e= .returned (.int .i64 r.l.length)∧w=w':=by
 obtain⟨A,c,h1,h2,h3,h4,h5⟩:=h
 have hc0:w.cell? ⟨p,0,none⟩=some (.slice A r.l.length c):=h1.cell 0
 go_enter func153,ntmps153
 go_wp2
 go_ret
 exact⟨rfl,rfl⟩
theorem oJ (p g:Nat) (r:RS) (w:World) (h:ME w p g r):
 Calls prog 141 #[.pointer (some ⟨p,0,none⟩)] w fun e w'=>e= .returned (.int .i64 r.e)∧w=w':=by
 obtain⟨A,c,h1,h2,h3,h4,h5⟩:=h
 have hc1:w.cell? ⟨p,1,none⟩=some (.int .i64 r.e):=h1.cell 1
 go_enter func141,ntmps141
 go_wp2
 go_ret
 exact⟨rfl,rfl⟩
theorem uD (p g:Nat) (r:RS) (w:World) (h:ME w p g r):
 Calls prog 147 #[.pointer (some ⟨p,0,none⟩)] w fun e w'=>e= .returned (.int .i64 r.end_)∧w=w':=by
 by_cases he:r.e=0
 ·have he':(r.e !=0)=false:=by simp[he]
  by_cases hl:r.l=[]
  ·have hx:r.end_=0:=by simp[RS.end_,he,hl]
   have hy: ¬(0:Int)<(r.l.length:Int):=by simp[hl]
   have HX:=U0 hx
   clear hx he hl
   go_enter func147,ntmps147
   go_wp2_with (first|(go_at_call 141;refine (oJ p g r _ h).mono ?_;rintro e w' ⟨rfl,rfl⟩)|(go_at_call 153;refine (DN p g r _ h).mono ?_;rintro e w' ⟨rfl,rfl⟩))
   go_ret
   exact⟨by rw[HX.o];rfl,rfl⟩
  ·have hx:r.end_=4:=by simp[RS.end_,he,hl]
   have hy:(0:Int)<(r.l.length:Int):=by
    have:=List.length_pos_iff.2 hl;omega
   have HX:=U0 hx
   clear hx he hl
   go_enter func147,ntmps147
   go_wp2_with (first|(go_at_call 141;refine (oJ p g r _ h).mono ?_;rintro e w' ⟨rfl,rfl⟩)|(go_at_call 153;refine (DN p g r _ h).mono ?_;rintro e w' ⟨rfl,rfl⟩))
   go_ret
   exact⟨by rw[HX.o];rfl,rfl⟩
 ·have he':(r.e !=0)=true:=by simp[he]
  have hx:r.end_=r.e:=by simp[RS.end_,he]
  have HX:=U0 hx
  clear hx he
  go_enter func147,ntmps147
  go_wp2_with (first|(go_at_call 141;refine (oJ p g r _ h).mono ?_;rintro e w' ⟨rfl,rfl⟩))
  go_ret
  exact⟨by rw[HX.o];rfl,rfl⟩
def QE (w:World) (p:Nat) (v:Value) (s:WS):Prop:=
 l5 w p 127 #[v,.int .i64 s.e]∧qA w 5 1 v s.b.length (s.b.map bv)
theorem QE.apart {w:World} {p:Nat} {v:Value} {s:WS} (h:QE w p v s):p∉Z6 v:=h.2.apart h.1 (by decide)
theorem QE.keep {S:List Nat} {w w':World} {p:Nat} {v:Value} {s:WS} (h:QE w p v s) (hk:U1 S w w') (hp:p∉S) (hS:∀ x∈Z6 v,x∉S):QE w' p v s:=
 ⟨hk.row h.1 hp,h.2.keep hk hS⟩
def nK (p:Nat) (v:Value) (s:WS) (w:World) (e:Ending) (w':World):Prop:=
 e= .returned (.pointer (some ⟨p,0,none⟩))∧∃ v',QE w' p v' s∧U1 (p::Z6 v) w w'∧∀ x∈Z6 v',x∈Z6 v∨w.heap.size≤x
theorem JF:(prog.info? 5).map (fun i=>(i.zero,i.size,i.bytes))=some (some (.int .u8 0),1,1):=by kernel_rfl
theorem vC (p:Nat) (v:Value) (s:WS) (w:World) (h:QE w p v s):
 Calls prog 119 #[.pointer (some ⟨p,0,none⟩)] w fun e w'=>e= .returned (.bool (s.e !=0))∧w=w':=by
 have hc1:w.cell? ⟨p,1,none⟩=some (.int .i64 s.e):=h.1.cell 1
 by_cases he:s.e=0
 ·have he':(s.e !=0)=false:=by simp[he]
  clear he
  go_enter func119,ntmps119
  go_wp2
  go_ret
  exact⟨by rw[he'];rfl,rfl⟩
 ·have he':(s.e !=0)=true:=by simp[he]
  clear he
  go_enter func119,ntmps119
  go_wp2
  go_ret
  exact⟨by rw[he'];rfl,rfl⟩
theorem fits_shift (m:Nat) (hm:m≤8):IntKind.i64.wrap (2^(8*m))=if m=8 then 0 else (2:Int)^(8*m):=by
 have:m=0∨m=1∨m=2∨m=3∨m=4∨m=5∨m=6∨m=7∨m=8:=by omega
 rcases this with h|h|h|h|h|h|h|h|h<;>subst h<;>decide
theorem vN (width n:Int) (w:World) (hw:FI width=true):
 Calls prog 121 #[.int .i64 width,.int .i64 n] w fun e w'=>e= .returned (.bool (LB width n))∧w=w':=by
 by_cases h0:0≤n
 ·rcases fC hw with rfl|rfl|rfl|rfl
  ·have hf:LB 1 n=decide (n<256):=by simp[LB,h0]
   have HF:=U0 hf
   clear hf
   go_enter func121,ntmps121
   go_wp2
   go_ret
   exact⟨by rw[HF.o];rfl,rfl⟩
  ·have hf:LB 2 n=decide (n<65536):=by simp[LB,h0]
   have HF:=U0 hf
   clear hf
   go_enter func121,ntmps121
   go_wp2
   go_ret
   exact⟨by rw[HF.o];rfl,rfl⟩
  ·have hf:LB 4 n=decide (n<4294967296):=by simp[LB,h0]
   have HF:=U0 hf
   clear hf
   go_enter func121,ntmps121
   go_wp2
   go_ret
   exact⟨by rw[HF.o];rfl,rfl⟩
  ·have hf:LB 8 n=decide (n≤9007199254740991):=by (simp[LB,h0,YF];rfl)
   have HF:=U0 hf
   clear hf
   go_enter func121,ntmps121
   go_wp2
   go_ret
   exact⟨by rw[HF.o];rfl,rfl⟩
 ·have hf:LB width n=false:=by simp[LB,h0]
  have HF:=U0 hf
  clear hf
  rcases fC hw with rfl|rfl|rfl|rfl
  all_goals
   go_enter func121,ntmps121
   go_wp2
   go_ret
   exact⟨by rw[HF.o];rfl,rfl⟩
theorem qK {w W w2:World} {p n:Nat} {v':Value} {A2:Option Addr} {c2:Nat} {b1 l:List UInt8} {e:Int} (h:QE w p v' ⟨b1,e⟩) (hW:U1 [] w W) (hk:U1 (Z6 v') W w2)
 (hown:qA w2 5 1 (.slice A2 n c2) n ((b1++l).map bv)) (hloc:∀ x∈Z6 (.slice A2 n c2),x∈Z6 v'∨W.heap.size≤x):
 QE (w2.setCell ⟨p,0,none⟩ (.slice A2 n c2)) p (.slice A2 n c2) ⟨b1++l,e⟩∧U1 (p::Z6 v') w (w2.setCell ⟨p,0,none⟩ (.slice A2 n c2))∧
  ∀ x∈Z6 (.slice A2 n c2),x∈Z6 v'∨w.heap.size≤x:=by
 have hp2:=hk.row (hW.row h.1 (by simp)) h.apart
 have hap:=hown.apart hp2 (by decide)
 have hn:n=(b1++l).length:=by have:=hown.1;simp only[List.length_map] at this;omega
 have hk2:U1 (p::Z6 v') w w2:=(hW.more (T:=p::Z6 v') (by simp)).then hk (fun x hx=> .inl (by simp[hx]))
 refine⟨⟨hp2.set 0 _,?_⟩,hk2.setCell _ _ (.inl (by simp)),fun x hx=>(hloc x hx).imp id (fun h=>by have:=hW.size;omega)⟩
 rw[←hn]
 exact hown.keep ((U1.refl [p] w2).setCell _ _ (.inl (by simp))) (fun x hx hxp=>hap (by simp at hxp;rw[←hxp];exact hx))
theorem wJ {w:World} {p:Nat} {v:Value} {s:WS} (h:QE w p v s) (x:Int):QE (w.setCell ⟨p,1,none⟩ (.int .i64 x)) p v ⟨s.b,x⟩:=
 ⟨h.1.set 1 _,h.2.keep ((U1.refl [p] w).setCell _ _ (.inl (by simp))) (fun x hx hxp=>h.apart (by simp at hxp;rw[←hxp];exact hx))⟩
theorem bF (m k:Nat):(l7 m k).length=m:=by simp[l7]
theorem yJ (m k i:Nat) (h:i<m):(l7 m k)[i]? =some (UInt8.ofNat (k/256^(m-1-i) % 256)):=by
 simp[l7,h]
theorem jK (k d:Nat) (c:Int) (hd:d≤7) (hc:c=8*(d:Int)):
 Value.int .u8 (IntKind.u8.wrap ((k:Int)/2^min c.toNat 64))=bv (UInt8.ofNat (k/256^d % 256)):=by
 have h1:min c.toNat 64=8*d:=by omega
 have h3:(2:Int)^(8*d)=((256^d:Nat):Int):=by
  rw[show (256:Nat)^d=2^(8*d) from by rw[Nat.pow_mul]]
  simp
 rw[h1,h3,IntKind.wrap_u8]
 unfold bv
 have h2:(UInt8.ofNat (k/256^d % 256)).toNat=k/256^d % 256:=by
  rw[UInt8.toNat_ofNat']
  omega
 rw[h2]
 simp
def numRel (p:Nat) (v:Value) (s:WS) (m k:Nat) (w:World) (i:Value) (wr:World):Prop:=
 ∃ (j:Nat) (v':Value),i= .int .i64 j∧j≤m∧QE wr p v' ⟨s.b++(l7 m k).take j,0⟩∧U1 (p::Z6 v) w wr∧∀ x∈Z6 v',x∈Z6 v∨w.heap.size≤x
theorem OU (p:Nat) (v:Value) (s:WS) (width n:Int) (w:World) (h:QE w p v s) (hb:s.b.length≤1000000000):
 Calls prog 42 #[.pointer (some ⟨p,0,none⟩),.int .i64 width,.int .i64 n] w (nK p v (s.num width n) w):=by
 have hc1:w.cell? ⟨p,1,none⟩=some (.int .i64 s.e):=h.1.cell 1
 have hf1:=h.1.free 1
 by_cases he:s.e=0
 ·have he':(s.e !=0)=false:=by simp[he]
  have HE:=U0 he
  clear he
  by_cases hw:FI width=true
  ·by_cases hfit:LB width n=true
   ·obtain⟨m,rfl⟩:∃ m:Nat,width=(m:Int):=⟨width.toNat,by rcases fC hw with h|h|h|h<;>omega⟩
    have hm:1≤m∧m≤8:=by rcases fC hw with h|h|h|h<;>omega
    obtain⟨k,rfl⟩:∃ k:Nat,n=(k:Int):=⟨n.toNat,by have:0≤n:=(by simp[LB] at hfit;exact hfit.1)
                                                 omega⟩
    have HFit:=U0 hfit
    have HW:=U0 hw
    go_enter func42,ntmps42
    go_wp2_with (first|(go_at_call 119;refine (vC p v s _ h).mono ?_;rintro e w' ⟨rfl,rfl⟩)|(go_at_call 120;refine (ED _ _).mono ?_;rintro e w' ⟨rfl,rfl⟩)|(go_at_call 121;refine (vN _ _ _ HW.o).mono ?_;rintro e w' ⟨rfl,rfl⟩))
    obtain⟨i0,hi0,hz0,hz1,hz2⟩:=info_parts JF
    go_loopw [27] (fun i wr=>numRel p v s m k w i wr) (fun i _=>m-(intOf i).toNat)
    case atStart=>exact⟨0,v,rfl,by omega,by have:=HE.o;simp only[List.take_zero,List.append_nil,←this];exact h,U1.refl _ _,fun x hx=> .inl hx⟩
    case round=>
     obtain⟨i,v',rfl,hi,hwr,hkb,hhm⟩:=hrel
     have hcell0:wr.cell? ⟨p,0,none⟩=some v':=hwr.1.cell 0
     have hfree0:=hwr.1.free 0
     have hown:=hwr.2
     have hN:(s.b++(l7 m k).take i).length≤1000000008:=by
      have:=List.length_take_le i (l7 m k)
      rw[List.length_append];omega
     generalize hxs:(s.b++(l7 m k).take i).map bv=xs at hown
     generalize hnn:(s.b++(l7 m k).take i).length=N at hown hN
     have HXS:=U0 (U2 hxs hnn)
     clear hxs hnn
     by_cases hlt:i<m
     ·have HO:=U0 hown
      clear hown
      have HD:=U0 hwr
      clear hwr
      obtain⟨a,ha⟩:∃ a:Int,a=(m:Int)-1:=⟨_,rfl⟩
      have hA:IntKind.i64.wrap ((m:Int)-1)=a:=by rw[ha];exact Z8 _ (by omega) (by omega)
      obtain⟨b,hb2⟩:∃ b:Int,b=a-i:=⟨_,rfl⟩
      have hB:IntKind.i64.wrap (a-(i:Int))=b:=by rw[hb2];exact Z8 _ (by omega) (by omega)
      obtain⟨c,hc⟩:∃ c:Int,c=8*b:=⟨_,rfl⟩
      have hC:IntKind.i64.wrap (8*b)=c:=by rw[hc];exact Z8 _ (by omega) (by omega)
      have hc0:0≤c:=by omega
      have HH:=U0 (U2 ha (U2 hb2 hc))
      clear ha hb2 hc
      have hplt:=HD.o.1.lt
      go_wp2
      go_region_law (refine oC _ rfl (.tmp 34) (.tmp 43) 24 rfl 5 i0 (.int .u8 0) 1 1 underlying24 hi0 hz0 hz1 hz2 rfl (by decide) v' N xs (by simp[Act.eval]) (by first|exact (HO.o.alloc _)|exact HO.o.drew.alloc _|exact (HO.o.alloc _).drew) _ _ 1 1 _ (by simp[Act.eval]) (qE _ _ _) (by intro u hu;simp at hu;subst hu;rfl) (by omega) (by unfold maxLen;omega) ?_;intro A2 c2 w2 hown2 hkb2 hloc2;have hW2:=hkb2.row (by first|exact ((U1.refl [] wr).drew.alloc _).row HD.o.1 (by simp)|exact ((U1.refl [] wr).alloc _).drew.row HD.o.1 (by simp)) HD.o.apart;have hcell2:w2.cell? ⟨p,0,none⟩=some v':=hW2.cell 0;have hfree2:=hW2.free 0)
      all_goals
       obtain⟨ha,hb3,hc3⟩:=HH.o
       have hbyte:=jK k (m-1-i) c (by omega) (by omega)
       have hx:=yJ m k i hlt
       rw[hbyte,←HXS.o.1] at hown2
       have hst:=qK HD.o (by first|exact (U1.refl [] wr).drew.alloc _|exact ((U1.refl [] wr).alloc _).drew) hkb2 (l:=[UInt8.ofNat (k/256^(m-1-i) % 256)]) (by rw[List.map_append];exact hown2) hloc2
       have hbs:s.b++(l7 m k).take i++[UInt8.ofNat (k/256^(m-1-i) % 256)]=s.b++(l7 m k).take (i+1):=by
        rw[List.take_add_one,hx,List.append_assoc];rfl
       rw[hbs] at hst
       have HST:=U0 hst
       clear hst hown2 hbyte hx hbs ha hb3 hc3 hA hB hC hc0 hkb2 hloc2 hW2 hcell2 hfree2
       go_wp2
       go_roundw
       case rel=>exact⟨i+1,_,by go_num,by omega,HST.o.1,hkb.then HST.o.2.1 (fun x hx=>by rcases List.mem_cons.1 hx with rfl|hx;exact .inl (by simp);exact (hhm x hx).imp (fun h=>by simp[h]) id),fun x hx=>by rcases HST.o.2.2 x hx with h|h;exact hhm x h;have:=hkb.size;exact .inr (by omega)⟩
       case measure=>simp[intOf];omega
     ·obtain rfl:i=m:=by omega
      have hfin:s.num (i:Int) (k:Int)=⟨s.b++l7 i k,0⟩:=by
       unfold WS.num
       rw[if_pos HE.o,if_pos HW.o,if_pos HFit.o];rfl
      have hall:(l7 i k).take i=l7 i k:=List.take_of_length_le (by rw[bF];exact Nat.le_refl _)
      rw[hall] at hwr
      have HFin:=U0 hfin
      clear hfin hall
      have HD:=U0 hwr
      clear hwr hown
      go_wp2
      go_ret
      exact⟨rfl,v',by rw[HFin.o];exact HD.o,hkb,hhm⟩
   ·have hfin:s.num width n=⟨s.b,9⟩:=by
     unfold WS.num
     rw[if_pos HE.o,if_pos hw,if_neg hfit]
    have hfit':LB width n=false:=by simpa using hfit
    have HFin:=U0 hfin
    have HF:=U0 hfit'
    have HW:=U0 hw
    clear hfin hfit hfit' hw
    go_enter func42,ntmps42
    go_wp2_with (first|(go_at_call 119;refine (vC p v s _ h).mono ?_;rintro e w' ⟨rfl,rfl⟩)|(go_at_call 120;refine (ED _ _).mono ?_;rintro e w' ⟨rfl,rfl⟩;rw[HW.o])|(go_at_call 121;refine (vN _ _ _ HW.o).mono ?_;rintro e w' ⟨rfl,rfl⟩;rw[HF.o]))
    go_ret
    exact⟨rfl,v,by rw[HFin.o];exact wJ h 9,(U1.refl _ _).setCell _ _ (.inl (by simp)),fun x hx=> .inl hx⟩
  ·have hfin:s.num width n=⟨s.b,2⟩:=by
    unfold WS.num
    rw[if_pos HE.o,if_neg hw]
   have hw':FI width=false:=by simpa using hw
   have HFin:=U0 hfin
   have HW:=U0 hw'
   clear hfin hw hw'
   go_enter func42,ntmps42
   go_wp2_with (first|(go_at_call 119;refine (vC p v s _ h).mono ?_;rintro e w' ⟨rfl,rfl⟩)|(go_at_call 120;refine (ED _ _).mono ?_;rintro e w' ⟨rfl,rfl⟩;rw[HW.o]))
   go_ret
   exact⟨rfl,v,by rw[HFin.o];exact wJ h 2,(U1.refl _ _).setCell _ _ (.inl (by simp)),fun x hx=> .inl hx⟩
 ·have hfin:s.num width n=s:=by
   unfold WS.num
   rw[if_neg he]
  have he':(s.e !=0)=true:=by simp[he]
  have HFin:=U0 hfin
  clear hfin he
  go_enter func42,ntmps42
  go_wp2_with (first|(go_at_call 119;refine (vC p v s _ h).mono ?_;rintro e w' ⟨rfl,rfl⟩))
  go_ret
  exact⟨rfl,v,by rw[HFin.o];exact h,U1.refl _ _,fun x hx=> .inl hx⟩
theorem kE:yF 0=[]:=by rw[yF];simp
theorem wG (n:Nat) (h:0<n):yF n=yF (n/128)++[UInt8.ofNat (128+n % 128)]:=by
 rw[yF,dif_neg (by omega)]
theorem MM:∀ (j n:Nat),(yF n).length≤j↔n<128^j:=by
 intro j
 induction j with
 |zero=>
  intro n
  rcases Nat.eq_zero_or_pos n with rfl|h
  ·simp[kE]
  ·rw[wG n h];simp;omega
 |succ j ih=>
  intro n
  rcases Nat.eq_zero_or_pos n with rfl|h
  ·simp[kE];exact Nat.pos_of_ne_zero (by simp)
  ·rw[wG n h]
   have:=ih (n/128)
   simp only[List.length_append,List.length_cons,List.length_nil,Nat.zero_add,Nat.add_le_add_iff_right,this,Nat.pow_succ]
   rw[Nat.div_lt_iff_lt_mul (by decide)]
theorem kV:∀ (m n i:Nat),n≤m→i<(yF n).length→(yF n)[i]? =some (UInt8.ofNat (128+n/128^((yF n).length-1-i) % 128)):=by
 intro m
 induction m with
 |zero=>
  intro n i hn hi
  obtain rfl:n=0:=by omega
  simp[kE] at hi
 |succ m ih=>
  intro n i hn hi
  rcases Nat.eq_zero_or_pos n with rfl|h
  ·simp[kE] at hi
  ·rw[wG n h] at hi ⊢
   simp only[List.length_append,List.length_cons,List.length_nil,Nat.zero_add] at hi ⊢
   by_cases hlast:i<(yF (n/128)).length
   ·rw[List.getElem?_append_left hlast,ih (n/128) i (by omega) hlast]
    have:(yF (n/128)).length+1-1-i=((yF (n/128)).length-1-i)+1:=by omega
    rw[this,Nat.pow_succ,Nat.mul_comm,←Nat.div_div_eq_div_mul]
   ·obtain rfl:i=(yF (n/128)).length:=by omega
    simp
theorem lV (n g:Nat) (hg:1≤g):0<n/128^g↔g<(cb n).length:=by
 unfold cb
 have:=MM (g-1) (n/128)
 simp only[List.length_append,List.length_cons,List.length_nil,Nat.zero_add]
 rw[Nat.div_lt_iff_lt_mul (by decide),←Nat.pow_succ,show (g-1).succ=g by omega] at this
 have hp:0<128^g:=Nat.pos_of_ne_zero (by simp)
 rw[Nat.div_pos_iff]
 omega
theorem VF (n:Nat) (h:n≤YF):(cb n).length≤8:=by
 unfold cb
 have:=(MM 7 (n/128)).2 (by unfold YF at h;have:(128:Nat)^7=562949953421312:=by decide
                            omega)
 simp;omega
theorem cb_pos (n:Nat):1≤(cb n).length:=by unfold cb;simp
theorem VW (n i:Nat) (h:i<(cb n).length):
 (cb n)[i]? =some (UInt8.ofNat (n/128^((cb n).length-1-i) % 128+if i+1<(cb n).length then 128 else 0)):=by
 have hl:(cb n).length=(yF (n/128)).length+1:=by simp[cb]
 rw[hl] at h ⊢
 unfold cb
 by_cases hi:i<(yF (n/128)).length
 ·rw[List.getElem?_append_left hi,kV _ _ _ (Nat.le_refl _) hi,if_pos (by omega)]
  have:(yF (n/128)).length+1-1-i=((yF (n/128)).length-1-i)+1:=by omega
  rw[this,Nat.pow_succ,Nat.mul_comm,←Nat.div_div_eq_div_mul,Nat.add_comm]
 ·obtain rfl:i=(yF (n/128)).length:=by omega
  simp
theorem MI (k j:Nat):(k:Int)/2^(7*j)=((k/128^j:Nat):Int):=by
 have h3:(2:Int)^(7*j)=((128^j:Nat):Int):=by
  rw[show (128:Nat)^j=2^(7*j) from by rw[Nat.pow_mul]]
  simp
 rw[h3];simp
theorem NK (k d:Nat):bits .and .u8 ((k:Int)/2^(7*d) % 256) 127=((k/128^d % 128:Nat):Int):=by
 rw[MI]
 have:=nH (k/128^d % 256) (by omega)
 rw[show (((k/128^d:Nat):Int) % 256)=((k/128^d % 256:Nat):Int) from by omega,this]
 omega
theorem fV (k d:Nat):Value.int .u8 (bits .or .u8 (bits .and .u8 ((k:Int)/2^(7*d) % 256) 127) 128)=bv (UInt8.ofNat (k/128^d % 128+128)):=by
 rw[NK,uR _ (by omega)]
 unfold bv
 rw[UInt8.toNat_ofNat']
 congr 1
 omega
theorem iV (k d:Nat):Value.int .u8 (bits .and .u8 ((k:Int)/2^(7*d) % 256) 127)=bv (UInt8.ofNat (k/128^d % 128+0)):=by
 rw[NK]
 unfold bv
 rw[UInt8.toNat_ofNat']
 congr 1
 omega
theorem vQ {p:Nat} {v v':Value} {s:WS} {k i N:Nat} {w wr W w2:World} {xs:List Value} {A2:Option Addr} {c2:Nat} {b:UInt8} (hD:QE wr p v' ⟨s.b++(cb k).take i,0⟩) (hb:(cb k)[i]? =some b)
 (hxs:(s.b++(cb k).take i).map bv=xs) (hkb:U1 (p::Z6 v) w wr) (hhm:∀ x∈Z6 v',x∈Z6 v∨w.heap.size≤x) (hW:U1 [] wr W)
 (hkb2:U1 (Z6 v') W w2) (hown2:qA w2 5 1 (.slice A2 (N+1) c2) (N+1) (xs++[bv b])) (hloc2:∀ x∈Z6 (.slice A2 (N+1) c2),x∈Z6 v'∨W.heap.size≤x):
 QE (w2.setCell ⟨p,0,none⟩ (.slice A2 (N+1) c2)) p (.slice A2 (N+1) c2) ⟨s.b++(cb k).take (i+1),0⟩∧U1 (p::Z6 v) w (w2.setCell ⟨p,0,none⟩ (.slice A2 (N+1) c2))∧
  ∀ x∈Z6 (.slice A2 (N+1) c2),x∈Z6 v∨w.heap.size≤x:=by
 have hst:=qK hD hW hkb2 (l:=[b]) (by rw[List.map_append,hxs];exact hown2) hloc2
 have hbs:s.b++(cb k).take i++[b]=s.b++(cb k).take (i+1):=by
  rw[List.take_add_one,hb,List.append_assoc];rfl
 rw[hbs] at hst
 exact⟨hst.1,hkb.then hst.2.1 (fun x hx=>by rcases List.mem_cons.1 hx with rfl|hx;exact .inl (by simp);exact (hhm x hx).imp (fun h=>by simp[h]) id),fun x hx=>by rcases hst.2.2 x hx with h|h;exact hhm x h;have:=hkb.size;exact .inr (by omega)⟩
def wcRel (p:Nat) (v:Value) (s:WS) (k:Nat) (w:World) (i:Value) (wr:World):Prop:=
 ∃ (j:Nat) (v':Value),i= .int .i64 j∧j≤(cb k).length∧QE wr p v' ⟨s.b++(cb k).take j,0⟩∧U1 (p::Z6 v) w wr∧∀ x∈Z6 v',x∈Z6 v∨w.heap.size≤x
theorem yH (p:Nat) (v:Value) (s:WS) (n:Int) (w:World) (h:QE w p v s) (hb:s.b.length≤1000000000):
 Calls prog 43 #[.pointer (some ⟨p,0,none⟩),.int .i64 n] w (nK p v (s.count n) w):=by
 have hc1:w.cell? ⟨p,1,none⟩=some (.int .i64 s.e):=h.1.cell 1
 have hf1:=h.1.free 1
 by_cases he:s.e=0
 ·have he':(s.e !=0)=false:=by simp[he]
  have HE:=U0 he
  clear he
  by_cases hn:n<0∨(YF:Int)<n
  ·have hfin:s.count n=⟨s.b,9⟩:=by
    unfold WS.count
    rw[if_pos HE.o,if_pos hn]
   have hn':n<0∨(9007199254740991:Int)<n:=by unfold YF at hn;omega
   have HFin:=U0 hfin
   clear hfin hn
   rcases hn' with h0|h0
   ·go_enter func43,ntmps43
    go_wp2_with (first|(go_at_call 119;refine (vC p v s _ h).mono ?_;rintro e w' ⟨rfl,rfl⟩))
    go_ret
    exact⟨rfl,v,by rw[HFin.o];exact wJ h 9,(U1.refl _ _).setCell _ _ (.inl (by simp)),fun x hx=> .inl hx⟩
   ·have h1: ¬n<0:=by omega
    go_enter func43,ntmps43
    go_wp2_with (first|(go_at_call 119;refine (vC p v s _ h).mono ?_;rintro e w' ⟨rfl,rfl⟩))
    go_ret
    exact⟨rfl,v,by rw[HFin.o];exact wJ h 9,(U1.refl _ _).setCell _ _ (.inl (by simp)),fun x hx=> .inl hx⟩
  ·obtain⟨k,rfl⟩:∃ k:Nat,n=(k:Int):=⟨n.toNat,by omega⟩
   have hk:k≤9007199254740991:=by unfold YF at hn;omega
   have hl8:=VF k hk
   have hl1:=cb_pos k
   have HM:=U0 (lV k)
   obtain⟨G,hG⟩:∃ G,G=(cb k).length:=⟨_,rfl⟩
   rw[←hG] at hl8 hl1
   have HG:=U0 hG
   clear hG
   go_enter func43,ntmps43
   go_wp2_with (first|(go_at_call 119;refine (vC p v s _ h).mono ?_;rintro e w' ⟨rfl,rfl⟩))
   go_loop [5] (fun g=>∃ j:Nat,g= .int .i64 j∧1≤j∧j≤G) (fun g=>G-(intOf g).toNat)
   case atStart=>exact⟨1,rfl,by omega,by omega⟩
   case round=>
    obtain⟨j,rfl,hj1,hj2⟩:=hrel
    by_cases hjG:j<G
    ·have hpos:(0:Int)<(k:Int)/2^(7*j):=by
      rw[MI];have:=(HM.o j hj1).2 (by rw[←HG.o];exact hjG);omega
     go_wp2
     go_round
     case rel=>exact⟨j+1,by go_num,by omega,by omega⟩
     case measure=>simp[intOf];omega
    ·obtain rfl:j=G:=by omega
     have hpos:(k:Int)/2^(7*j)≤0:=by
      rw[MI];have:=mt (HM.o j hj1).1 (by rw[←HG.o];exact hjG);omega
     go_wp2
     obtain⟨i0,hi0,hz0,hz1,hz2⟩:=info_parts JF
     go_loopw [29] (fun i wr=>wcRel p v s k w i wr) (fun i _=>j-(intOf i).toNat)
     case atStart=>exact⟨0,v,rfl,by omega,by have:=HE.o;simp only[List.take_zero,List.append_nil,←this];exact h,U1.refl _ _,fun x hx=> .inl hx⟩
     case round=>
      obtain⟨i,v',rfl,hi,hwr,hkb,hhm⟩:=hrel
      rw[←HG.o] at hi
      have hcell0:wr.cell? ⟨p,0,none⟩=some v':=hwr.1.cell 0
      have hfree0:=hwr.1.free 0
      have hown:=hwr.2
      have hN:(s.b++(cb k).take i).length≤1000000008:=by
       have:=List.length_take_le i (cb k)
       rw[List.length_append];omega
      generalize hxs:(s.b++(cb k).take i).map bv=xs at hown
      generalize hnn:(s.b++(cb k).take i).length=N at hown hN
      have HXS:=U0 (U2 hxs hnn)
      clear hxs hnn
      have HO:=U0 hown
      clear hown
      have HD:=U0 hwr
      clear hwr
      by_cases hlt:i<j
      ·have hplt:=HD.o.1.lt
       by_cases hlast:i+1<j
       ·go_wp2_with (at_builtin;refine NA _ rfl (.tmp 51) (.tmp 53) 24 rfl 5 i0 (.int .u8 0) 1 1 underlying24 hi0 hz0 hz1 hz2 rfl (by decide) v' N xs (by simp[Act.eval]) (by first|exact (HO.o.alloc _)|exact HO.o.drew.alloc _|exact (HO.o.alloc _).drew) _ _ 1 1 _ (by simp[Act.eval]) (qE _ _ _) (by intro u hu;simp at hu;subst hu;rfl) (by omega) (by unfold maxLen;omega) ?_;intro A2 c2 w2 hown2 hkb2 hloc2;have hW2:=hkb2.row (by first|exact ((U1.refl [] wr).drew.alloc _).row HD.o.1 (by simp)|exact ((U1.refl [] wr).alloc _).row HD.o.1 (by simp)) HD.o.apart;have hcell2:w2.cell? ⟨p,0,none⟩=some v':=hW2.cell 0;have hfree2:=hW2.free 0)
        have hat:=VW k i (by rw[←HG.o];exact hlt)
        rw[←HG.o,if_pos hlast] at hat
        rw[fV] at hown2
        have R:=U0 (vQ HD.o hat HXS.o.1 hkb hhm ((U1.refl [] wr).alloc _) hkb2 hown2 hloc2)
        go_roundw
        case rel=>exact⟨i+1,_,by go_num,by rw[←HG.o];omega,R.o.1,R.o.2.1,R.o.2.2⟩
        case measure=>simp[intOf];omega
       ·go_wp2_with (at_builtin;refine NA _ rfl (.tmp 51) (.tmp 53) 24 rfl 5 i0 (.int .u8 0) 1 1 underlying24 hi0 hz0 hz1 hz2 rfl (by decide) v' N xs (by simp[Act.eval]) (by first|exact (HO.o.alloc _)|exact HO.o.drew.alloc _|exact (HO.o.alloc _).drew) _ _ 1 1 _ (by simp[Act.eval]) (qE _ _ _) (by intro u hu;simp at hu;subst hu;rfl) (by omega) (by unfold maxLen;omega) ?_;intro A2 c2 w2 hown2 hkb2 hloc2;have hW2:=hkb2.row (by first|exact ((U1.refl [] wr).drew.alloc _).row HD.o.1 (by simp)|exact ((U1.refl [] wr).alloc _).row HD.o.1 (by simp)) HD.o.apart;have hcell2:w2.cell? ⟨p,0,none⟩=some v':=hW2.cell 0;have hfree2:=hW2.free 0)
        have hat:=VW k i (by rw[←HG.o];exact hlt)
        rw[←HG.o,if_neg hlast] at hat
        rw[iV] at hown2
        have R:=U0 (vQ HD.o hat HXS.o.1 hkb hhm ((U1.refl [] wr).alloc _) hkb2 hown2 hloc2)
        go_roundw
        case rel=>exact⟨i+1,_,by go_num,by rw[←HG.o];omega,R.o.1,R.o.2.1,R.o.2.2⟩
        case measure=>simp[intOf];omega
      ·obtain rfl:i=j:=by omega
       have hfin:s.count (k:Int)=⟨s.b++cb k,0⟩:=by
        unfold WS.count
        rw[if_pos HE.o,if_neg hn];rfl
       have hall:(cb k).take i=cb k:=List.take_of_length_le (by rw[←HG.o];exact Nat.le_refl _)
       rw[hall] at HD
       have HFin:=U0 hfin
       clear hfin hall
       go_wp2
       go_ret
       exact⟨rfl,v',by rw[HFin.o];exact HD.o,hkb,hhm⟩
 ·have hfin:s.count n=s:=by
   unfold WS.count
   rw[if_neg he]
  have he':(s.e !=0)=true:=by simp[he]
  have HFin:=U0 hfin
  clear hfin he
  go_enter func43,ntmps43
  go_wp2_with (first|(go_at_call 119;refine (vC p v s _ h).mono ?_;rintro e w' ⟨rfl,rfl⟩))
  go_ret
  exact⟨rfl,v,by rw[HFin.o];exact h,U1.refl _ _,fun x hx=> .inl hx⟩
theorem uO (p:Nat) (v:Value) (s:WS) (A:Option Addr) (g c:Nat) (l:List UInt8) (w:World) (h:QE w p v s) (hs:QA w A g l) (hb:s.b.length+l.length≤140737488355328):
 Calls prog 79 #[.pointer (some ⟨p,0,none⟩),.slice A l.length c] w (nK p v (s.raw l) w):=by
 have hc0:w.cell? ⟨p,0,none⟩=some v:=h.1.cell 0
 have hf0:=h.1.free 0
 by_cases he:s.e=0
 ·have he':(s.e !=0)=false:=by simp[he]
  have HE:=U0 he
  obtain⟨sb,se⟩:=s
  simp only at he
  subst he
  have hfin:WS.raw ⟨sb,0⟩ l=⟨sb++l,0⟩:=by simp[WS.raw]
  have HFin:=U0 hfin
  clear hfin
  obtain⟨i0,hi0,hz0,hz1,hz2⟩:=info_parts JF
  have HD:=U0 h
  have hplt:=h.1.lt
  have HO:=U0 (show qA w 5 1 v sb.length (sb.map bv) from h.2)
  have hb':sb.length+l.length≤140737488355328:=hb
  have HS:=U0 hs.reads
  go_enter func79,ntmps79
  go_wp2_with (first|(go_at_call 119;refine (vC p v _ _ h).mono ?_;rintro e w' ⟨rfl,rfl⟩)|(at_builtin;refine NA _ rfl (.tmp 12) (.tmp 13) 24 rfl 5 i0 (.int .u8 0) 1 1 underlying24 hi0 hz0 hz1 hz2 rfl (by decide) v sb.length _ (by simp[Act.eval]) HO.o A g l.length c _ (by simp[Act.eval]) HS.o (by intro u hu;simp at hu;obtain⟨b,_,rfl⟩:=hu;rfl) (by omega) (by unfold maxLen;omega) ?_;intro A2 c2 w2 hown2 hkb2 hloc2;have hW2:=hkb2.row HD.o.1 HD.o.apart;have hcell2:w2.cell? ⟨p,0,none⟩=some v:=hW2.cell 0;have hfree2:=hW2.free 0))
  go_ret
  have hst:=qK HD.o (U1.refl [] w) hkb2 (l:=l) (by rw[List.map_append];exact hown2) hloc2
  exact⟨rfl,_,by rw[HFin.o];exact hst.1,hst.2.1,hst.2.2⟩
 ·have hfin:s.raw l=s:=by
   unfold WS.raw
   rw[if_neg he]
  have he':(s.e !=0)=true:=by simp[he]
  have HFin:=U0 hfin
  clear hfin he
  go_enter func79,ntmps79
  go_wp2_with (first|(go_at_call 119;refine (vC p v s _ h).mono ?_;rintro e w' ⟨rfl,rfl⟩))
  go_ret
  exact⟨rfl,v,by rw[HFin.o];exact h,U1.refl _ _,fun x hx=> .inl hx⟩
theorem EJ (s:WS) (n:Int):(s.count n).b.length≤s.b.length+8:=by
 unfold WS.count
 split
 ·split
  ·simp
  ·rename_i h1 h2
   have:=VF n.toNat (by omega)
   simp only[List.length_append];omega
 ·omega
theorem GL (p:Nat) (v:Value) (s:WS) (A:Option Addr) (g c:Nat) (l:List UInt8) (w:World) (h:QE w p v s) (hs:QA w A g l) (hg:l≠[]→g≠p∧g∉Z6 v) (hb:s.b.length≤1000000000) (hb2:l.length≤1000000000):
 Calls prog 49 #[.pointer (some ⟨p,0,none⟩),.slice A l.length c] w (nK p v (s.text l) w):=by
 have hcb:=EJ s (l.length:Int)
 go_enter func49,ntmps49
 go_wp2_with (first|(go_at_call 43;refine (yH p v s _ _ h hb).mono ?_;rintro e w1 ⟨rfl,v1,hw1,hk1,hl1⟩)|(go_at_call 79;refine (uO p _ _ A g c l _ (by assumption) (hs.keep (by assumption) (fun hl hm=>by rcases List.mem_cons.1 hm with h1|h1;exact (hg hl).1 h1;exact (hg hl).2 h1)) (by omega)).mono ?_;rintro e w2 ⟨rfl,v2,hw2,hk2,hl2⟩))
 go_ret
 exact⟨rfl,v2,hw2,hk1.then hk2 (fun x hx=>by rcases List.mem_cons.1 hx with rfl|hx;exact .inl (by simp);exact (hl1 x hx).imp (fun h=>by simp[h]) id),fun x hx=>by rcases hl2 x hx with h|h;exact hl1 x h;have:=hk1.size;exact .inr (by omega)⟩
def UQ (s:WS) (w:World) (e:Ending) (w':World):Prop:=
 ∃ v,e= .returned (.tuple #[v,.int .i64 s.e])∧qA w' 5 1 v s.bytes.length (s.bytes.map bv)∧(∀ x∈Z6 v,w.heap.size≤x)∧U1 [] w w'
theorem NP (p:Nat) (v:Value) (s:WS) (w:World) (h:QE w p v s) (hb:s.b.length≤140737488355328):
 Calls prog 50 #[.pointer (some ⟨p,0,none⟩)] w (UQ s w):=by
 have hc1:w.cell? ⟨p,1,none⟩=some (.int .i64 s.e):=h.1.cell 1
 have hc0:w.cell? ⟨p,0,none⟩=some v:=h.1.cell 0
 by_cases he:s.e=0
 ·have he':(s.e !=0)=false:=by simp[he]
  have hfin:s.bytes=s.b:=by simp[WS.bytes,he]
  have HFin:=U0 hfin
  have HE:=U0 he
  clear hfin he
  obtain⟨i0,hi0,hz0,hz1,hz2⟩:=info_parts JF
  obtain⟨A,c,rfl,_,_,_,hrd⟩:=h.2.form
  obtain⟨g,hg⟩:∃ g,Z6 (.slice A s.b.length c)=[]∨Z6 (.slice A s.b.length c)=[g]:=by
   unfold Z6
   cases Value.ownBlock (.slice A s.b.length c) with
   |none=>exact⟨0,.inl rfl⟩
   |some g=>exact⟨g,.inr rfl⟩
  have HS:=U0 (hrd g hg)
  clear hrd hg
  go_enter func50,ntmps50
  go_wp2_with (at_builtin;refine NA _ rfl _ (.tmp 18) 24 rfl 5 i0 (.int .u8 0) 1 1 underlying24 hi0 hz0 hz1 hz2 rfl (by decide) (.slice none 0 0) 0 [] rfl (qA.nil _ _ _) A g s.b.length c _ (by simp[Act.eval]) HS.o (by intro u hu;simp at hu;obtain⟨b,_,rfl⟩:=hu;rfl) (by omega) (by unfold maxLen;omega) ?_;intro A2 c2 w2 hown2 hkb2 hloc2)
  go_ret2
  refine⟨_,by rw[HE.o];rfl,?_,fun x hx=> ?_,hkb2⟩
  ·rw[HFin.o];simpa using hown2
  ·rcases hloc2 x (by simpa using hx) with h1|h1
   ·simp[d9] at h1
   ·exact h1
 ·have he':(s.e !=0)=true:=by simp[he]
  have hfin:s.bytes=[]:=by simp[WS.bytes,he]
  have HFin:=U0 hfin
  clear hfin he
  go_enter func50,ntmps50
  go_wp2
  go_region
  all_goals
   try go_wp2
   go_ret2
   exact⟨.slice none 0 0,rfl,by rw[HFin.o];exact qA.nil _ _ _,by simp[d9],(U1.refl _ _).drew⟩
theorem ES (w:World):
 Calls prog 41 #[] w fun e w'=>∃ p,e= .returned (.pointer (some ⟨p,0,none⟩))∧QE w' p (.slice none 0 0) ⟨[],0⟩∧w.heap.size≤p∧U1 [] w w':=by
 go_enter func41,ntmps41
 go_wp2
 go_ret
 exact⟨w.heap.size,rfl,⟨l5.new _ _ _,qA.nil _ _ _⟩,Nat.le_refl _,(U1.refl _ _).alloc _⟩
end Go.Proofs.YthfdkonhjpdflaaGreatDoor
