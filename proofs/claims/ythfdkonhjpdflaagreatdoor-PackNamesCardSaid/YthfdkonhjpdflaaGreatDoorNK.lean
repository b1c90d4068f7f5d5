import Derived.Test.YthfdkonhjpdflaaGreatDoorPk33
import Derived.Test.YthfdkonhjpdflaaGreatDoorPkD
import Derived.LoopTactic
import Derived.Deep.QuietTactic
import Derived.BigQuiet
import Derived.BigRegion
import Derived.Laws.ResultCell
namespace Go.Proofs.YthfdkonhjpdflaaGreatDoor
open Go.RowKit Go.Proofs.Tryz
set_option linter.unusedVariables false
set_option maxRecDepth 100000
set_option linter.unusedSimpArgs false
set_option maxHeartbeats 2000000
structure iB (w:World) (F:List Nat) (t:PK × List Value):Prop where
 got:∃ ev av cv vv bw,t.2=q8 t.1 ev av cv vv bw∧wD w F t.1 ev av cv vv bw
theorem iB.keep {S F:List Nat} {w w':World} {t:PK × List Value} (h:iB w F t) (hk:U1 S w w') (hS:∀ y∈F,y∉S):iB w' F t:=by
 obtain⟨ev,av,cv,vv,bw,h1,h2⟩:=h
 exact⟨ev,av,cv,vv,bw,h1,h2.keep hk hS⟩
theorem iB.more {F G:List Nat} {w:World} {t:PK × List Value} (h:iB w F t) (hF:∀ y∈F,y∈G):iB w G t:=by
 obtain⟨ev,av,cv,vv,bw,h1,h2⟩:=h
 exact⟨ev,av,cv,vv,bw,h1,h2.more hF⟩
theorem iB.len {F:List Nat} {w:World} {t:PK × List Value} (h:iB w F t):t.2.length=87:=by
 obtain⟨ev,av,cv,vv,bw,h1,h2⟩:=h
 rw[h1];exact G8 h2.rn h2.an
theorem iB.one {F:List Nat} {w:World} {t:PK × List Value} (h:iB w F t):∀ u∈t.2,u.oneCell'=true:=by
 obtain⟨ev,av,cv,vv,bw,h1,h2⟩:=h
 rw[h1]
 exact yA h2.re.one h2.ae.one h2.cc.one h2.vs.one h2.bs.one
def UK (p:PK) (w:World) (e:Ending) (w':World):Prop:=∃ X G,e= .returned (.agg (X:List Value).toArray)∧iB w' G (p,X)∧I9 w w' G∧U1 [] w w'
theorem xL (w:World) (e:TypeId) (X:List Value):MB (w.alloc (.cells X.toArray e)) (some ⟨w.heap.size,0,none⟩) w.heap.size 1 X.length X:=by
 refine⟨by simp,fun _=>⟨0,rfl,by simp,fun j x hx=> ?_⟩⟩
 rw[(l5.new w e X.toArray).cell]
 simpa using hx
theorem qC {w:World} {t:TypeId} {Z X:List Value} (h:X.length=Z.length):
 l5 ((w.alloc (.cells Z.toArray t)).setCells w.heap.size 0 X) w.heap.size t X.toArray∧U1 [] w ((w.alloc (.cells Z.toArray t)).setCells w.heap.size 0 X):=by
 have r:=(l5.new w t Z.toArray).setL (vs:=X) (o:=0)
 rw[F7 (by rw[U4];exact h)] at r
 exact⟨r,((U1.refl [] w).alloc _).setL (.inr (Nat.le_refl _))⟩
theorem aB {w:World} {t:TypeId} {Z X:List Value} (h:X.length=Z.length):(w.alloc (.cells Z.toArray t)).there w.heap.size 0 X.toArray.size:=(l5.new w t Z.toArray).there (by simp only[U4];omega)
theorem dX:∃ Z:List Value,Z.length=87∧(prog.info? 34).bind (·.zero)=some (.agg Z.toArray)∧(∀ w,(Instr.build 34 #[]).run prog w= .ok (.agg Z.toArray) w)∧(∀ w,iB w [] (G9,Z)):=
 ⟨_,IC,KE,gJ,fun w=>⟨_,_,_,_,_,rfl,mE w []⟩⟩
def NJ (w:World) (F:List Nat) (v:Value) (l:List Int):Prop:=
 ∃ (A:Option Addr) (c g:Nat),v= .slice A l.length c∧l.length≤c∧c≤maxLen∧l.length≤17592186044416∧MB w A g l.length 1 (l.map (Value.int .i64))∧(l≠[]→g∈F)
theorem NJ.keep {S F:List Nat} {w w':World} {v:Value} {l:List Int} (h:NJ w F v l) (hk:U1 S w w') (hS:∀ y∈F,y∉S):NJ w' F v l:=by
 obtain⟨A,c,g,h1,h2,h3,h4,h5,h6⟩:=h
 exact⟨A,c,g,h1,h2,h3,h4,h5.keepS hk (fun hn=>hS g (h6 (by rintro rfl;simp at hn))),h6⟩
theorem NJ.cell {w:World} {F:List Nat} {A:Option Addr} {n c:Nat} {l:List Int} (h:NJ w F (.slice A n c) l) (i:Nat) (hi:i<l.length):
 n=l.length∧n≤c∧∃ g o x,A=some ⟨g,o,none⟩∧l[i]? =some x∧w.cell? ⟨g,o+i,none⟩=some (.int .i64 x):=by
 obtain⟨A',c',g,e,h2,h3,h4,h5,h6⟩:=h
 injection e with e1 e2 e3
 subst e1 e2 e3
 obtain⟨o,rfl,_,hc⟩:=h5.2 (by omega)
 exact⟨rfl,h2,g,o,l[i],rfl,List.getElem?_eq_getElem hi,hc i _ (by simp[List.getElem?_eq_getElem hi])⟩
def eqRel (w:World) (l m:List Int) (v5:Value) (wx:World):Prop:=∃ k:Nat,k≤l.length∧v5= .int .i64 (k:Int)∧l.take k=m.take k∧U1 [] w wx
theorem YO (F G:List Nat) (u v:Value) (l m:List Int) (w:World) (hl:NJ w F u l) (hm:NJ w G v m):
 Calls prog 113 #[u,v] w fun e w'=>e= .returned (.bool (decide (l=m)))∧U1 [] w w':=by
 obtain⟨A,c,g,rfl,h2,h3,h4,h5,h6⟩:=id hl
 obtain⟨B,d,k0,rfl,g2,g3,g4,g5,g6⟩:=id hm
 clear h5 h6 g5 g6
 by_cases hlen:l.length=m.length
 ·have t1:((l.length:Int)==(m.length:Int))=true:=by simp[hlen]
  have t2:((l.length:Int) !=(m.length:Int))=false:=by simp[hlen]
  have HL:=U0 (U2 hl (U2 hm hlen))
  clear hl hm hlen
  unfold maxLen at h3 g3
  go_enter func113,ntmps113
  go_upto_region 4 with fail
  go_loopw [5] (fun v5 wx=>eqRel w l m v5 wx) (fun v5 _=>l.length-(intOf v5).toNat)
  case atStart=>exact⟨0,by omega,rfl,by simp,U1.refl _ _⟩
  case round=>
   obtain⟨k,hk,rfl,htk,kk⟩:=hrel
   have hlen:=HL.o.2.2
   by_cases hlt:k<l.length
   ·obtain⟨-, -,ga,oa,x,rfl,hx,cx⟩:=(HL.o.1.keep kk (by simp)).cell k hlt
    obtain⟨-, -,gb,ob,y,rfl,hy,cy⟩:=(HL.o.2.1.keep kk (by simp)).cell k (by omega)
    have h1:(k:Int)<(l.length:Int):=by omega
    have h2:(k:Int)<(m.length:Int):=by omega
    have HT:=U0 (U2 htk (U2 kk (U2 hx (U2 hy hlen))))
    clear htk kk hx hy hlen
    go_upto_region 6 with fail
    go_quiet (fail)
    by_cases hxy:x=y
    ·have t3:(x==y)=true:=by simpa using hxy
     have t4:(x !=y)=false:=by simpa using hxy
     have HXY:=U0 hxy
     clear hxy
     go_wp2
     go_roundw
     case rel=>exact⟨k+1,by omega,by go_num,by rw[List.take_add_one,List.take_add_one,HT.o.1,HT.o.2.2.1,HT.o.2.2.2.1,HXY.o],HT.o.2.1.drewN _⟩
     case measure=>simp[intOf];omega
    ·have t3:(x==y)=false:=by simpa using hxy
     have t4:(x !=y)=true:=by simpa using hxy
     have HXY:=U0 hxy
     clear hxy
     go_wp2
     go_ret
     have hne:decide (l=m)=false:=by
      simp
      intro e
      have e1:=HT.o.2.2.1
      rw[e,HT.o.2.2.2.1] at e1
      exact HXY.o (by injection e1 with e1;exact e1.symm)
     rw[hne]
     exact⟨rfl,HT.o.2.1.drewN _⟩
   ·obtain rfl:k=l.length:=by omega
    have he:decide (l=m)=true:=by
     simp
     rw[List.take_length] at htk
     rw[htk,hlen,List.take_length]
    have HE:=U0 (U2 he kk)
    clear he kk htk hlen
    go_wp2
    go_ret
    rw[HE.o.1]
    exact⟨rfl,HE.o.2⟩
 ·have t1:((l.length:Int)==(m.length:Int))=false:=by simp;omega
  have t2:((l.length:Int) !=(m.length:Int))=true:=by simp;omega
  have HE:=U0 (show decide (l=m)=false by simp;intro e;exact hlen (by rw[e]))
  clear hl hm hlen
  go_enter func113,ntmps113
  go_wp2
  go_ret
  rw[HE.o]
  exact⟨rfl,U1.refl _ _⟩
theorem qA.held {w:World} {v:Value} {l:List Int} (h:qA w 3 1 v l.length (l.map (Value.int .i64))) (hl:l.length≤17592186044416):NJ w (Z6 v) v l:=by
 obtain⟨A,c,rfl,h1,h2,h3,h4⟩:=h.form
 rcases hv:Z6 (.slice A l.length c) with _|⟨g,_|⟨g',r⟩⟩
 ·refine⟨A,c,0,rfl,h1,h2,hl,h4 0 (.inl hv),fun hne=> ?_⟩
  rcases h.2 with⟨e,e2⟩|⟨g,cap,cur,e,_⟩
  ·exact absurd (List.length_eq_zero_iff.1 e2) hne
  ·rw[e,V8] at hv;cases hv
 ·exact⟨A,c,g,rfl,h1,h2,hl,h4 g (.inr hv),fun _=>by simp⟩
 ·rcases h.2 with⟨e,e2⟩|⟨g2,cap,cur,e,_⟩
  ·rw[e,d9] at hv;cases hv
  ·rw[e,V8] at hv;cases hv
theorem U1.up {S:List Nat} {w a b:World} (h:U1 [] w a) (k:U1 S a b) (hS:∀ x∈S,w.heap.size≤x):U1 [] w b:=h.then k (fun x hx=> .inr (hS x hx))
theorem NG (w:World) (l:List Int) (hl:l.length≤17592186044416):NJ (w.alloc (.cells (l.map (Value.int .i64)).toArray 3)) [w.heap.size] (.slice (some ⟨w.heap.size,0,none⟩) l.length l.length) l:=by
 refine⟨_,_,w.heap.size,rfl,Nat.le_refl _,by unfold maxLen;omega,hl,⟨by simp,fun _=>⟨0,rfl,by simp,fun j u hu=> ?_⟩⟩,fun _=>by simp⟩
 rw[(l5.new w _ _).cell]
 simpa using hu
end Go.Proofs.YthfdkonhjpdflaaGreatDoor
