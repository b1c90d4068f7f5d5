import Derived.Test.YthfdkonhjpdflaaGreatDoorPk30
namespace Go.Proofs.YthfdkonhjpdflaaGreatDoor
open Go.RowKit Go.Proofs.Tryz
set_option linter.unusedVariables false
set_option maxRecDepth 100000
set_option linter.unusedSimpArgs false
set_option maxHeartbeats 16000000
theorem rE {w:World} {g:Nat} {t:TypeId} {cs:List Value} (h:l5 w g t cs.toArray) (n sz:Nat) (hs:cs.length=n*sz):MB w (some ⟨g,0,none⟩) g n sz cs:=
 ⟨hs,fun _=>⟨0,rfl,h.lt,fun j u hu=>by rw[h.cell];simpa using hu⟩⟩
def zF:Nat→List VT→RS→Int→List VT × RS × Int
 |0,acc,r,part=>(acc,r,part)
 |k+1,acc,r,part=>
  if R8 (yB (r.count 9007199254740991).2 part).2.2 (yB (r.count 9007199254740991).2 part).2.1.e=0 then
   zF k (acc++[⟨(r.count 9007199254740991).1,(yB (r.count 9007199254740991).2 part).1⟩]) (yB (r.count 9007199254740991).2 part).2.1 (yB (r.count 9007199254740991).2 part).2.2
  else ([],(yB (r.count 9007199254740991).2 part).2.1,(yB (r.count 9007199254740991).2 part).2.2)
def UW (n:Int):Nat:=(if n≤9 then n else 9).toNat
def dD (r:RS) (part:Int):List VT × RS × Int:=zF (UW (r.num 1).1) [] (r.num 1).2 part
def rvAt (w0 w:World) (sb p g:Nat) (R:List VT × RS × Int) (K i:Nat) (v3:Value):Prop:=
 ∃ acc r part A c T G,v3= .slice A i c∧zF (K-i) acc r part=R∧T.map (·.1)=acc∧T.length=i∧sI w sb p g r part∧(r.l≠[]→g<w0.heap.size)∧
  qA w 69 4 (.slice A i c) i (Z9 T)∧(∀ y∈Z6 (.slice A i c),w0.heap.size≤y)∧(∀ t∈T,F8 w G t.2 t.1.conf.chain)∧I9 w0 w G∧(∀ y∈G,y∉Z6 (.slice A i c))∧U1 [sb,p] w0 w
theorem UH:(prog.info? 69).map (fun i=>(i.zero,i.size,i.bytes))=some (some (.agg #[.int .i64 0,.int .i64 0,.int .i64 0,.slice none 0 0]),4,48):=by kernel_rfl
theorem DD:∀ (T:List (VT × Value)) (t:VT × Value),Z9 (T++[t])=Z9 T++oD t.1 t.2
 |[],t=>by simp[Z9]
 |a::r,t=>by rw[List.cons_append,Z9,Z9,DD r t,List.append_assoc]
theorem JK (p g sb:Nat) (r:RS) (part:Int) (w:World) (hs:sI w sb p g r part):
 Calls prog 146 #[.pointer (some ⟨sb,0,none⟩)] w fun e w'=>∃ v G,e= .returned v∧xA w' G v (dD r part).1∧I9 w w' G∧sI w' sb p g (dD r part).2.1 (dD r part).2.2∧U1 [sb,p] w w':=by
 obtain⟨x1,hx1⟩:∃ x,(r.num 1).1=x:=⟨_,rfl⟩
 obtain⟨r1,hr1⟩:∃ x,(r.num 1).2=x:=⟨_,rfl⟩
 have S1:V5 ((r1.l≠[]→r.l≠[])∧r1.l.length≤r.l.length):=U0 (by rw[←hr1];exact⟨nA,U9 _ _⟩)
 have hx1r:0≤x1∧x1≤255:=by rw[←hx1];exact bD _
 obtain⟨K,hK⟩:∃ K,UW x1=K:=⟨_,rfl⟩
 have hK9:K≤9:=by rw[←hK];unfold UW;split<;>omega
 obtain⟨R,hR⟩:∃ R,dD r part=R:=⟨_,rfl⟩
 have hRR:zF K [] r1 part=R:=by rw[←hR];unfold dD;rw[hx1,hr1,hK]
 have HX:=U0 (U2 hx1 (U2 hr1 (U2 hK hRR)))
 rw[hR]
 clear hx1 hr1 hK hRR hR
 have c0:w.cell? ⟨sb,0,none⟩=some (.pointer (some ⟨p,0,none⟩)):=hs.row.cell 0
 have hsl:=hs.row.lt
 have hpl:=hs.rd.lt
 have H:=U0 (U2 hs (fun hne=>hs.rd.gl hne))
 clear hs
 go_enter func146,ntmps146
 go_upto_region 2 with fail
 go_cut [10,11] (fun v10 v11 wx=>v10= .int .i64 (K:Int)∧v11= .int .i64 0∧sI wx sb p g r1 part∧U1 [sb,p] w wx)
 case first=>
  have hcs:(x1≤9∧x1=(K:Int))∨(¬x1≤9∧9=(K:Int)):=by
   have hk:=HX.o.2.2.1
   unfold UW at hk
   split at hk<;>omega
  rcases hcs with⟨h5,hxk⟩|⟨h5,hxk⟩
  all_goals
   have HXK:=U0 hxk
   clear hxk
   go_wp2_with (first
    |(go_at_call 94;refine (OC p g r 1 _ H.o.1.rd).mono ?_;intro e u3 hq;unfold FC at hq;rw[HX.o.1,HX.o.2.1] at hq;obtain⟨rfl,hr,hk⟩:=hq;have Q:=U0 (U2 (H.o.1.read hr hk S1.o.1 S1.o.2) hk);clear hr hk))
   go_meet
   exact⟨by rw[←HXK.o],rfl,Q.o.1,Q.o.2.more (by simp)⟩
 case rest=>
  obtain⟨rfl,rfl,hs1,hk1⟩:=hcut
  generalize wc=w1 at*
  have P1:=U0 (U2 hs1 hk1)
  clear hs1 hk1 c0
  obtain⟨i0,hi0,hz0,hz1,hz2⟩:=info_parts UH
  have HI:=U0 (U2 hi0 (U2 hz0 (U2 hz1 hz2)))
  clear hi0 hz0 hz1 hz2
  go_wp2_with fail
  go_loopw [3,4,11] (fun v3 _ v11 wx=>∃ i:Nat,i≤K∧v11= .int .i64 (i:Int)∧rvAt w wx sb p g R K i v3) (fun _ _ v11 _=>K-(intOf v11).toNat)
  case atStart=>exact⟨0,by omega,rfl,[],r1,part,none,0,[],[],rfl,HX.o.2.2.2,rfl,rfl,P1.o.1,fun hne=>H.o.2 (S1.o.1 hne),qA.nil _ _ _,by simp[d9],by simp,(fun y hy=>by simp at hy),by simp,P1.o.2⟩
  case round=>
   obtain⟨i,hi,rfl,acc,r2,part2,A,c,T,G,rfl,hres,hmap,hTl,hS,hgl,hO,hH,hV,hN,hGH,hk⟩:=hrel
   by_cases hlt:i<K
   ·have hlt':(i:Int)<(K:Int):=by omega
    have hn0:(0:Int)≤(i:Int):=by omega
    have hw1:IntKind.i64.wrap ((i:Int)+1)=(i:Int)+1:=Z8 _ (by omega) (by omega)
    have c0:wr.cell? ⟨sb,0,none⟩=some (.pointer (some ⟨p,0,none⟩)):=hS.row.cell 0
    obtain⟨b1,hb1⟩:∃ x,(r2.count 9007199254740991).1=x:=⟨_,rfl⟩
    obtain⟨r3,hr3⟩:∃ x,(r2.count 9007199254740991).2=x:=⟨_,rfl⟩
    obtain⟨cf,hcf⟩:∃ x,(yB r3 part2).1=x:=⟨_,rfl⟩
    obtain⟨r4,hr4⟩:∃ x,(yB r3 part2).2.1=x:=⟨_,rfl⟩
    obtain⟨part4,hp4⟩:∃ x,(yB r3 part2).2.2=x:=⟨_,rfl⟩
    have S3:V5 ((r3.l≠[]→r2.l≠[])∧r3.l.length≤r2.l.length):=U0 (by rw[←hr3];exact⟨W9,RS.count_short _ _⟩)
    have S4:V5 (r4.l≠[]→r3.l≠[]):=U0 (by rw[←hr4];unfold yB;split<;>exact cB)
    have hres2:(if R8 part4 r4.e=0 then zF (K-(i+1)) (acc++[⟨b1,cf⟩]) r4 part4 else ([],r4,part4))=R:=by
     rw[←hres,show K-i=(K-(i+1))+1 by omega]
     rw[zF,hr3,hb1,hcf,hr4,hp4]
    have HP:=U0 (U2 hS (U2 hO (U2 hH (U2 hV (U2 hN (U2 hGH (U2 hk (U2 hgl (U2 hmap hTl)))))))))
    have HY:=U0 (U2 hb1 (U2 hr3 (U2 hcf (U2 hr4 (U2 hp4 hres2)))))
    clear hS hO hH hV hN hGH hk hgl hmap hTl hb1 hr3 hcf hr4 hp4 hres hres2
    go_upto_region 5 with (first
     |(go_at_call 102;refine (TC p g r2 9007199254740991 _ HP.o.1.rd).mono ?_;intro e u1 hq;unfold dC at hq;rw[HY.o.1,HY.o.2.1] at hq;obtain⟨rfl,hr,hkq⟩:=hq;have Q:=U0 (U2 (HP.o.1.read hr hkq S3.o.1 S3.o.2) hkq);clear hr hkq))
    have k7:=(U1.refl [] u1).alloc (.cells #[.int .i64 b1,.int .i64 0,.int .i64 0,.slice none 0 0] 69)
    have r7:=l5.new u1 69 #[.int .i64 b1,.int .i64 0,.int .i64 0,.slice none 0 0]
    obtain⟨wv,hwv⟩:∃ wv,u1.alloc (.cells #[.int .i64 b1,.int .i64 0,.int .i64 0,.slice none 0 0] 69)=wv:=⟨_,rfl⟩
    rw[hwv] at k7 r7 ⊢
    obtain⟨tv,htv⟩:∃ tv,u1.heap.size=tv:=⟨_,rfl⟩
    rw[htv] at r7 ⊢
    have hS3:=Q.o.1.over k7
    have kv:=Q.o.2.then k7 (by simp)
    have htl:w.heap.size≤tv:=by have h1:=HP.o.2.2.2.2.2.2.1.size;have h2:=Q.o.2.size;omega
    have hts:tv≠sb:=by omega
    have htp:tv≠p:=by omega
    have hwt:wr.heap.size≤tv:=by have h2:=Q.o.2.size;omega
    have H3:=U0 (U2 hS3 (U2 kv (U2 r7 hwt)))
    clear k7 r7 hwv htv hS3 kv Q hwt c0
    go_upto_region 6 with (first
     |(go_at_call 145;refine (MG p g sb r3 part2 _ H3.o.1).mono ?_;intro e u3 hq;rw[HY.o.2.2.1,HY.o.2.2.2.1,HY.o.2.2.2.2.1] at hq;obtain⟨ev,G2,rfl,gv,gn,gs,gk⟩:=hq;obtain⟨A7,c7,g7,rfl,_⟩:=id gv;dsimp only[bA];have r8:=gk.row H3.o.2.2.1 (by simp[hts,htp]);have y1:u3.cell? ⟨tv,1,none⟩=some (.int .i64 0):=r8.cell 1;have y2:u3.cell? ⟨tv,2,none⟩=some (.int .i64 0):=r8.cell 2;have y3:u3.cell? ⟨tv,3,none⟩=some (.slice none 0 0):=r8.cell 3;have f1:=r8.free 1;have f2:=r8.free 2;have f3:=r8.free 3;have H4:=U0 (U2 gv (U2 gn (U2 gs (U2 gk r8))));clear gv gn gs gk r8))
    have ks:=((xC u3 tv 1 (.int .i64 cf.num)).setCell ⟨tv,2,none⟩ (.int .i64 cf.full) (.inl (by simp))).setCell ⟨tv,3,none⟩ (.slice A7 cf.chain.length c7) (.inl (by simp))
    have r9:=((H4.o.2.2.2.2.set 1 (.int .i64 cf.num)).set 2 (.int .i64 cf.full)).set 3 (.slice A7 cf.chain.length c7)
    rw[show (((#[.int .i64 b1,.int .i64 0,.int .i64 0,.slice none 0 0]:Array Value).setIfInBounds 1 (.int .i64 cf.num)).setIfInBounds 2 (.int .i64 cf.full)).setIfInBounds 3 (.slice A7 cf.chain.length c7)= #[.int .i64 b1,.int .i64 cf.num,.int .i64 cf.full,.slice A7 cf.chain.length c7] from rfl] at r9
    obtain⟨w4,hw4⟩:∃ w4,((u3.setCell ⟨tv,1,none⟩ (.int .i64 cf.num)).setCell ⟨tv,2,none⟩ (.int .i64 cf.full)).setCell ⟨tv,3,none⟩ (.slice A7 cf.chain.length c7)=w4:=⟨_,rfl⟩
    rw[hw4] at ks r9 ⊢
    have hgl4:r4.l≠[]→g<w.heap.size:=fun hne=>HP.o.2.2.2.2.2.2.2.1 (S3.o.1 (S4.o hne))
    have hS4:=H4.o.2.2.1.keep ks (by simp;exact fun e=>hts e.symm) (by simp;exact fun e=>htp e.symm) (fun hne=>by have:=hgl4 hne;simp;omega)
    have kall:U1 [sb,p] wr w4:=((H3.o.2.1.more (by simp)).then H4.o.2.2.2.1 (fun x hx=> .inl hx)).then ks (fun x hx=> .inr (by simp at hx;have:=H3.o.2.2.2;omega))
    have hiv:=H4.o.1.keep ks (fun y hy=>by have h1:=(H4.o.2.1 y hy).1;have h2:=H3.o.2.2.1.lt;simp;omega)
    have hO4:=HP.o.2.1.keep kall (fun y hy=>by have h1:=HP.o.2.2.1 y hy;simp;omega)
    have hV4:∀ t∈T,F8 w4 G t.2 t.1.conf.chain:=fun t ht=>(HP.o.2.2.2.1 t ht).keep kall (fun y hy=>by have h1:=(HP.o.2.2.2.2.1 y hy).1;simp;omega)
    have hG2:I9 w w4 G2:=fun y hy=>⟨by have h1:=(H4.o.2.1 y hy).1;have h2:=H3.o.2.2.1.lt;omega,Nat.lt_of_lt_of_le (H4.o.2.1 y hy).2 ks.size⟩
    have hG2h:∀ y∈G2,y∉Z6 (.slice A i c):=fun y hy hm=>by have h1:=(H4.o.2.1 y hy).1;have h2:=H3.o.2.2.1.lt;have h3:=HP.o.2.1.lt y hm;have h4:=H3.o.2.2.2;omega
    have H5:=U0 (U2 hS4 (U2 kall (U2 hiv (U2 hO4 (U2 hV4 (U2 hG2 (U2 hG2h (U2 hgl4 r9))))))))
    have z0:w4.cell? ⟨tv,0,none⟩=some (.int .i64 b1):=r9.cell 0
    have z1:w4.cell? ⟨tv,1,none⟩=some (.int .i64 cf.num):=r9.cell 1
    have z2:w4.cell? ⟨tv,2,none⟩=some (.int .i64 cf.full):=r9.cell 2
    have z3:w4.cell? ⟨tv,3,none⟩=some (.slice A7 cf.chain.length c7):=r9.cell 3
    clear ks r9 hw4 hgl4 hS4 kall hiv hO4 hV4 hG2 hG2h y1 y2 y3 f1 f2 f3
    by_cases hf:R8 part4 r4.e=0
    ·have HF:=U0 hf
     have HRR:V5 (zF (K-(i+1)) (acc++[⟨b1,cf⟩]) r4 part4=R):=U0 (by have:=HY.o.2.2.2.2.2;rwa [if_pos hf] at this)
     clear hf
     go_wp2_with (first
      |(go_at_call 95;refine (XB _ sb p g r4 part4 H5.o.1).mono ?_;rintro e u9 ⟨rfl,rfl⟩;rw[HF.o])
      |(at_builtin;refine NA _ rfl (.tmp 25) (.tmp 27) 32 rfl 69 i0 (.agg #[.int .i64 0,.int .i64 0,.int .i64 0,.slice none 0 0]) 4 48 underlying32 HI.o.1 HI.o.2.1 HI.o.2.2.1 HI.o.2.2.2 rfl (by decide) (.slice A i c) i (Z9 T) rfl (H5.o.2.2.2.1.keep ((U1.refl [] w4).alloc (.cells #[.int .i64 b1,.int .i64 cf.num,.int .i64 cf.full,.slice A7 cf.chain.length c7] 69)) (by simp)) (some ⟨w4.heap.size,0,none⟩) w4.heap.size 1 1 [.int .i64 b1,.int .i64 cf.num,.int .i64 cf.full,.slice A7 cf.chain.length c7] rfl (rE (l5.new w4 69 #[.int .i64 b1,.int .i64 cf.num,.int .i64 cf.full,.slice A7 cf.chain.length c7]) 1 4 rfl) (by intro u hu;simp at hu;rcases hu with rfl|rfl|rfl|rfl<;>rfl) (by omega) (by unfold maxLen;omega) ?_;intro A6 c6 w6 hown6 hkb6 hloc6))
     have hRV:rvAt w w6 sb p g R K (i+1) (.slice A6 (i+1) c6):=by
      have kwa:=(U1.refl [] w4).alloc (.cells #[.int .i64 b1,.int .i64 cf.num,.int .i64 cf.full,.slice A7 cf.chain.length c7] 69)
      have hsa:(w4.alloc (.cells #[.int .i64 b1,.int .i64 cf.num,.int .i64 cf.full,.slice A7 cf.chain.length c7] 69)).heap.size=w4.heap.size+1:=World.size_alloc _ _
      have hH:=HP.o.2.2.1
      have hk4:=HP.o.2.2.2.2.2.2.1
      have hnew:∀ x∈Z6 (.slice A6 (i+1) c6),x∈Z6 (.slice A i c)∨w4.heap.size≤x:=fun x hx=>(hloc6 x hx).imp id (by omega)
      have hs0:=hk4.size
      have hs1:=H5.o.2.1.size
      have hs6:=hkb6.size
      refine⟨acc++[⟨b1,cf⟩],r4,part4,A6,c6,T++[(⟨b1,cf⟩,.slice A7 cf.chain.length c7)],G++G2,rfl,HRR.o,?_,?_,?_,H5.o.2.2.2.2.2.2.2.1,?_,?_,?_,?_,?_,?_⟩
      ·rw[List.map_append,HP.o.2.2.2.2.2.2.2.2.1];rfl
      ·rw[List.length_append,HP.o.2.2.2.2.2.2.2.2.2];rfl
      ·exact (H5.o.1.over kwa).keep hkb6 (fun hm=>by have:=hH _ hm;omega) (fun hm=>by have:=hH _ hm;omega) (fun hne hm=>by have:=hH _ hm;have:=H5.o.2.2.2.2.2.2.2.1 hne;omega)
      ·rw[DD];exact hown6
      ·intro y hy
       rcases hnew y hy with h|h
       ·exact hH y h
       ·omega
      ·intro t ht
       rcases List.mem_append.1 ht with ht|ht
       ·exact (((H5.o.2.2.2.2.1 t ht).keep kwa (by simp)).keep hkb6 (fun y hy=>HP.o.2.2.2.2.2.1 y hy)).more (fun y hy=>List.mem_append.2 (.inl hy))
       ·simp at ht
        subst ht
        exact ((H5.o.2.2.1.keep kwa (by simp)).keep hkb6 (fun y hy=>H5.o.2.2.2.2.2.2.1 y hy)).more (fun y hy=>List.mem_append.2 (.inr hy))
      ·intro y hy
       rcases List.mem_append.1 hy with hy|hy
       ·have:=HP.o.2.2.2.2.1 y hy;omega
       ·have:=H5.o.2.2.2.2.2.1 y hy;omega
      ·intro y hy hm
       rcases List.mem_append.1 hy with hy|hy
       ·rcases hnew y hm with h|h
        ·exact HP.o.2.2.2.2.2.1 y hy h
        ·have:=HP.o.2.2.2.2.1 y hy;omega
       ·rcases hnew y hm with h|h
        ·exact H5.o.2.2.2.2.2.2.1 y hy h
        ·have:=H5.o.2.2.2.2.2.1 y hy;omega
      ·exact ((hk4.then H5.o.2.1 (fun x hx=> .inl hx)).then kwa (by simp)).then hkb6 (fun x hx=> .inr (hH x hx))
     exact⟨⟨i+1,by omega,by go_num,hRV⟩,by simp[intOf];omega⟩
    ·have hfb:(R8 part4 r4.e !=0)=true:=by simp[hf]
     have HRR:V5 (([],r4,part4)=R):=U0 (by have:=HY.o.2.2.2.2.2;rwa [if_neg hf] at this)
     clear hf
     go_wp2_with (first
      |(go_at_call 95;refine (XB _ sb p g r4 part4 H5.o.1).mono ?_;rintro e u9 ⟨rfl,rfl⟩))
     go_ret
     rw[←HRR.o]
     exact⟨_,[],rfl,xA.nil _ _,fun y hy=>by simp at hy,H5.o.1,HP.o.2.2.2.2.2.2.1.then H5.o.2.1 (fun x hx=> .inl hx)⟩
   ·obtain rfl:i=K:=by omega
    have hf:(acc,r2,part2)=R:=by rw[←hres,Nat.sub_self];rfl
    have HQ:=U0 (U2 hf (U2 hmap (U2 hTl (U2 hS (U2 hO (U2 hH (U2 hV (U2 hN hk))))))))
    clear hf hmap hTl hS hO hH hV hN hk hres hgl hGH
    go_wp2_with fail
    go_ret
    obtain⟨hf,hmap,hTl,hS,hO,hH,hV,hN,hk⟩:=HQ.o
    rw[←hf]
    refine⟨_,G++Z6 (.slice A i c),rfl,?_,fun y hy=> ?_,hS,hk⟩
    ·obtain⟨A3,c3,e3,h31,h32,h33,h34⟩:=hO.form
     injection e3 with e3a e3b e3c
     subst e3a e3c
     obtain⟨g3,hg3⟩:=EA (.slice A i c)
     have hal:acc.length=i:=by rw[←hmap,List.length_map,hTl]
     refine⟨A,c,g3,T,by rw[hal];rfl,by rw[hal];exact h31,h32,hmap,by rw[hal];exact h34 g3 hg3,fun t ht=>(hV t ht).more (fun y hy=>List.mem_append.2 (.inl hy)),fun hne=> ?_⟩
     have hne':acc≠[]:=hne
     obtain⟨o,hA,_⟩:=(h34 g3 hg3).2 (by have:=List.length_pos_iff.2 hne';omega)
     rw[hA];simp[V8]
    ·rcases List.mem_append.1 hy with hy|hy
     ·exact hN y hy
     ·exact⟨hH y hy,hO.lt y hy⟩
abbrev SF:=PK × RS × Int
def f1 (h:Int) (s:SF):SF:=if U6 h 1=0 then s else ({s.1 with num:=(s.2.1.count 9007199254740991).1},(s.2.1.count 9007199254740991).2,s.2.2)
def f2 (h:Int) (s:SF):SF:=if U6 h 2=0 then s else ({s.1 with seq:=(s.2.1.count 9007199254740991).1-1},(s.2.1.count 9007199254740991).2,s.2.2)
def f3 (h:Int) (s:SF):SF:=if U6 h 4=0 then s else ({s.1 with ballot:=(s.2.1.count 9007199254740991).1},(s.2.1.count 9007199254740991).2,s.2.2)
def f4 (h:Int) (s:SF):SF:=if U6 h 8=0 then s else ({s.1 with ready:=decide ((s.2.1.num 1).1=1)},FW s.2.1,ZN s.2.1 s.2.2)
def f5 (h:Int) (s:SF):SF:=if U6 h 16=0 then s else ({s.1 with req:=(sD s.2.1 s.2.2).1},(sD s.2.1 s.2.2).2.1,(sD s.2.1 s.2.2).2.2)
def f6 (h:Int) (s:SF):SF:=if U6 h 32=0 then s else ({s.1 with ans:=(rD s.2.1 s.2.2).1},(rD s.2.1 s.2.2).2.1,(rD s.2.1 s.2.2).2.2)
def f7 (h:Int) (s:SF):SF:=if U6 h 64=0 then s else ({s.1 with conf:=(yB s.2.1 s.2.2).1},(yB s.2.1 s.2.2).2.1,(yB s.2.1 s.2.2).2.2)
def f8 (h:Int) (s:SF):SF:=if U6 h 128=0 then s else ({s.1 with votes:=(dD s.2.1 s.2.2).1},(dD s.2.1 s.2.2).2.1,(dD s.2.1 s.2.2).2.2)
def f9 (h:Int) (s:SF):SF:=if U6 h 256=0 then s else ({s.1 with bytes:=(s.2.1.text 32768).1},(s.2.1.text 32768).2,s.2.2)
def bM (h:Int) (s:SF):SF:=f9 h (f8 h (f7 h (f6 h (f5 h (f4 h (f3 h (f2 h (f1 h s))))))))
theorem zL {r:RS} {part:Int} (h:(sD r part).2.1.l≠[]):r.l≠[]:=by unfold sD at h;split at h<;>exact cB h
theorem yL {r:RS} {part:Int} (h:(rD r part).2.1.l≠[]):r.l≠[]:=by unfold rD at h;split at h<;>exact cB h
theorem dG {r:RS} {part:Int} (h:(yB r part).2.1.l≠[]):r.l≠[]:=by unfold yB at h;split at h<;>exact cB h
theorem vL:∀ (k:Nat) (acc:List VT) (r:RS) (part:Int),(zF k acc r part).2.1.l≠[]→r.l≠[]
 |0,acc,r,part,h=>h
 |k+1,acc,r,part,h=>by
  unfold zF at h
  split at h
  ·exact W9 (dG (vL k _ _ _ h))
  ·exact W9 (dG h)
theorem fK {r:RS} {part:Int} (h:(dD r part).2.1.l≠[]):r.l≠[]:=nA (vL _ _ _ _ h)
section
variable {q:PK} {ev av cv vv bw:Value}
theorem rJ (x:Int):(q8 q ev av cv vv bw).toArray.setIfInBounds 3 (.int .i64 x)=(q8 {q with num:=x} ev av cv vv bw).toArray:=by simp[q8]
theorem tJ (x:Int):(q8 q ev av cv vv bw).toArray.setIfInBounds 4 (.int .i64 x)=(q8 {q with seq:=x} ev av cv vv bw).toArray:=by simp[q8]
theorem qJ (x:Int):(q8 q ev av cv vv bw).toArray.setIfInBounds 5 (.int .i64 x)=(q8 {q with ballot:=x} ev av cv vv bw).toArray:=by simp[q8]
theorem sJ (x:Bool):(q8 q ev av cv vv bw).toArray.setIfInBounds 6 (.bool x)=(q8 {q with ready:=x} ev av cv vv bw).toArray:=by simp[q8]
theorem mF (x:RQ) (u:Value) (h:q.req.name.length=32) (h':x.name.length=32):KA (q8 q ev av cv vv bw).toArray 7 (U8 x u)=(q8 {q with req:=x} u av cv vv bw).toArray:=
 FE [.int .i64 q.kind,.int .i64 q.frm,.int .i64 q.dst,.int .i64 q.num,.int .i64 q.seq,.int .i64 q.ballot,.bool q.ready] (U8 q.req ev) (U8 x u) _ (by rw[O8 h,O8 h'])
theorem SN:q8 q ev av cv vv bw=(.int .i64 q.kind:: .int .i64 q.frm:: .int .i64 q.dst:: .int .i64 q.num:: .int .i64 q.seq:: .int .i64 q.ballot:: .bool q.ready::U8 q.req ev)++(x9 q.ans av++(bA q.conf cv++[vv,bw])):=by simp[q8]
theorem TN:q8 q ev av cv vv bw=((.int .i64 q.kind:: .int .i64 q.frm:: .int .i64 q.dst:: .int .i64 q.num:: .int .i64 q.seq:: .int .i64 q.ballot:: .bool q.ready::U8 q.req ev)++x9 q.ans av)++(bA q.conf cv++[vv,bw]):=by simp[q8]
theorem IG (x:AN) (u:Value) (hr:q.req.name.length=32) (h:q.ans.name.length=32) (h':x.name.length=32):KA (q8 q ev av cv vv bw).toArray 44 (x9 x u)=(q8 {q with ans:=x} ev u cv vv bw).toArray:=by
 rw[SN,SN]
 have:=FE (.int .i64 q.kind:: .int .i64 q.frm:: .int .i64 q.dst:: .int .i64 q.num:: .int .i64 q.seq:: .int .i64 q.ballot:: .bool q.ready::U8 q.req ev) (x9 q.ans av) (x9 x u) (bA q.conf cv++[vv,bw]) (by rw[y9 h,y9 h'])
 rw[show (.int .i64 q.kind:: .int .i64 q.frm:: .int .i64 q.dst:: .int .i64 q.num:: .int .i64 q.seq:: .int .i64 q.ballot:: .bool q.ready::U8 q.req ev:List Value).length=44 by simp[O8 hr]] at this
 exact this
theorem JG (x:CF) (u:Value) (hr:q.req.name.length=32) (ha:q.ans.name.length=32):KA (q8 q ev av cv vv bw).toArray 82 (bA x u)=(q8 {q with conf:=x} ev av u vv bw).toArray:=by
 rw[TN,TN]
 have:=FE ((.int .i64 q.kind:: .int .i64 q.frm:: .int .i64 q.dst:: .int .i64 q.num:: .int .i64 q.seq:: .int .i64 q.ballot:: .bool q.ready::U8 q.req ev)++x9 q.ans av) (bA q.conf cv) (bA x u) [vv,bw] rfl
 rw[show ((.int .i64 q.kind:: .int .i64 q.frm:: .int .i64 q.dst:: .int .i64 q.num:: .int .i64 q.seq:: .int .i64 q.ballot:: .bool q.ready::U8 q.req ev:List Value)++x9 q.ans av).length=82 by simp[O8 hr,y9 ha]] at this
 exact this
theorem YE (hr:q.req.name.length=32) (ha:q.ans.name.length=32) (x:List VT) (u:Value):(q8 q ev av cv vv bw).toArray.setIfInBounds 85 u=(q8 {q with votes:=x} ev av cv u bw).toArray:=(bC hr ha u).2.2.2.1
theorem aH (hr:q.req.name.length=32) (ha:q.ans.name.length=32) (x:List UInt8) (u:Value):(q8 q ev av cv vv bw).toArray.setIfInBounds 86 u=(q8 {q with bytes:=x} ev av cv vv u).toArray:=(bC hr ha u).2.2.2.2
end
structure vR (w0 w:World) (sb p g pb:Nat) (s:SF) (ev av cv vv bw:Value) (F:List Nat):Prop where
 src:sI w sb p g s.2.1 s.2.2
 row:l5 w pb 34 (q8 s.1 ev av cv vv bw).toArray
 val:wD w F s.1 ev av cv vv bw
 new:I9 w0 w F
 kp:U1 [sb,p,pb] w0 w
 gl:s.2.1.l≠[]→g<w0.heap.size∧g≠pb
 sl:sb<w0.heap.size
 pl:p<w0.heap.size
 bl:pb<w0.heap.size
 ns:pb≠sb
 np:pb≠p
def kU (w0 w:World) (sb p g pb:Nat) (s:SF):Prop:=∃ ev av cv vv bw F,vR w0 w sb p g pb s ev av cv vv bw F
section
variable {w0 w u:World} {sb p g pb:Nat} {s:SF} {ev av cv vv bw:Value} {F:List Nat}
theorem vR.read (h:vR w0 w sb p g pb s ev av cv vv bw F) {r:RS} {part:Int} (hs:sI u sb p g r part) (hk:U1 [sb,p] w u) (hl:r.l≠[]→s.2.1.l≠[]):vR w0 u sb p g pb (s.1,r,part) ev av cv vv bw F:=
 ⟨hs,hk.row h.row (by simp[h.ns,h.np]),h.val.keep hk (fun y hy=>by have h1:=(h.new y hy).1;have h2:=h.sl;have h3:=h.pl;simp;omega),fun y hy=>⟨(h.new y hy).1,Nat.lt_of_lt_of_le (h.new y hy).2 hk.size⟩,h.kp.then hk (fun x hx=> .inl (by simp at hx;simp;omega)),fun hne=>h.gl (hl hne),h.sl,h.pl,h.bl,h.ns,h.np⟩
theorem vR.put (h:vR w0 w sb p g pb s ev av cv vv bw F) {q:PK} {ev' av' cv' vv' bw':Value} {F':List Nat} (hk:U1 [pb] w u) (hrow:l5 u pb 34 (q8 q ev' av' cv' vv' bw').toArray) (hv:wD w F' q ev' av' cv' vv' bw') (hn:I9 w0 w F'):vR w0 u sb p g pb (q,s.2.1,s.2.2) ev' av' cv' vv' bw' F':=
 ⟨h.src.keep hk (by have:=h.ns;simp;exact fun e=>this e.symm) (by have:=h.np;simp;exact fun e=>this e.symm) (fun hne=>by have:=(h.gl hne).2;simp[this]),hrow,hv.keep hk (fun y hy=>by have h1:=(hn y hy).1;have h2:=h.bl;simp;omega),fun y hy=>⟨(hn y hy).1,Nat.lt_of_lt_of_le (hn y hy).2 hk.size⟩,h.kp.then hk (fun x hx=> .inl (by simp at hx;simp[hx])),h.gl,h.sl,h.pl,h.bl,h.ns,h.np⟩
theorem vR.set (h:vR w0 w sb p g pb s ev av cv vv bw F) {q:PK} {ev' av' cv' vv' bw':Value} {F':List Nat} (k:Nat) (x:Value) (he:(q8 s.1 ev av cv vv bw).toArray.setIfInBounds k x=(q8 q ev' av' cv' vv' bw').toArray) (hv:wD w F' q ev' av' cv' vv' bw') (hn:I9 w0 w F'):vR w0 (w.setCell ⟨pb,k,none⟩ x) sb p g pb (q,s.2.1,s.2.2) ev' av' cv' vv' bw' F':=
 h.put (xC w pb k x) (by rw[←he];exact h.row.set k x) hv hn
theorem vR.setL (h:vR w0 w sb p g pb s ev av cv vv bw F) {q:PK} {ev' av' cv' vv' bw':Value} {F':List Nat} (k:Nat) (xs:List Value) (he:KA (q8 s.1 ev av cv vv bw).toArray k xs=(q8 q ev' av' cv' vv' bw').toArray) (hv:wD w F' q ev' av' cv' vv' bw') (hn:I9 w0 w F'):vR w0 (w.setCells pb k xs) sb p g pb (q,s.2.1,s.2.2) ev' av' cv' vv' bw' F':=
 h.put ((U1.refl [pb] w).setL (.inl (by simp))) (by rw[←he];exact h.row.setL) hv hn
theorem I9.app {G:List Nat} (h1:I9 w0 u F) (h2:I9 w u G) (hs:w0.heap.size≤w.heap.size):I9 w0 u (F++G):=fun y hy=>by
 rcases List.mem_append.1 hy with h|h
 ·exact h1 y h
 ·have:=h2 y h;omega
end
theorem YJ (w:World) (sb p g pb:Nat) (s0:SF) (h:Int) (hp:kU w w sb p g pb s0):
 Calls prog 96 #[.pointer (some ⟨sb,0,none⟩),.pointer (some ⟨pb,0,none⟩),.int .i64 h] w fun e w'=>e= .returned (.tuple #[])∧kU w w' sb p g pb (bM h s0):=by
 have O:=U0 hp
 clear hp
 go_enter func96,ntmps96
 go_upto_if 8 with fail
 go_cut [] (fun wx=>kU w wx sb p g pb (f1 h s0))
 case first=>
  obtain⟨ev,av,cv,vv,bw,F,hA⟩:=O.o
  have A:=U0 hA
  have hrn:=hA.val.rn
  have han:=hA.val.an
  clear hA
  by_cases hb:U6 h 1=0
  ·have hbb:(bits .and .i64 h 1 !=0)=false:=by have:=hb;unfold U6 at this;simp[this]
   have E:=U0 (show f1 h s0=s0 by unfold f1;rw[if_pos hb])
   clear hb
   go_wp2_with fail
   go_meet
   exact (by rw[E.o];exact⟨ev,av,cv,vv,bw,F,A.o⟩)
  ·have hbb:(bits .and .i64 h 1 !=0)=true:=by have:=hb;unfold U6 at this;simp[this]
   have E:=U0 (show f1 h s0=_ by unfold f1;rw[if_neg hb])
   clear hb
   have c0:=(A.o.src.row.cell 0).trans (show _=some (Value.pointer (some ⟨p,0,none⟩)) from rfl)
   go_wp2_with (first
    |(go_at_call 102;refine (TC p g s0.2.1 9007199254740991 _ A.o.src.rd).mono ?_;intro e u hq;unfold dC at hq;obtain⟨rfl,hr,hk⟩:=hq;have B:=U0 (A.o.read (A.o.src.read hr hk W9 (RS.count_short _ _)) (hk.more (by simp)) W9);have y:=(B.o.row.pk hrn han).c3;have y2:=B.o.row.free 3;clear hr hk))
   go_meet
   exact (by rw[E.o];exact⟨ev,av,cv,vv,bw,F,B.o.set 3 _ (rJ ((s0.2.1.count 9007199254740991).1)) ⟨B.o.val.rn,B.o.val.an,B.o.val.re,B.o.val.ae,B.o.val.cc,B.o.val.vs,B.o.val.bs⟩ B.o.new⟩)
 obtain⟨s1,hs1⟩:∃ s,f1 h s0=s:=⟨_,rfl⟩
 rw[hs1] at hcut
 have O:=U0 hcut
 have HS1:=U0 hs1
 clear hcut hs1
 go_upto_if 19 with fail
 go_cut [] (fun wx=>kU w wx sb p g pb (f2 h s1))
 case first=>
  obtain⟨ev,av,cv,vv,bw,F,hA⟩:=O.o
  have A:=U0 hA
  have hrn:=hA.val.rn
  have han:=hA.val.an
  clear hA
  by_cases hb:U6 h 2=0
  ·have hbb:(bits .and .i64 h 2 !=0)=false:=by have:=hb;unfold U6 at this;simp[this]
   have E:=U0 (show f2 h s1=s1 by unfold f2;rw[if_pos hb])
   clear hb
   go_wp2_with fail
   go_meet
   exact (by rw[E.o];exact⟨ev,av,cv,vv,bw,F,A.o⟩)
  ·have hbb:(bits .and .i64 h 2 !=0)=true:=by have:=hb;unfold U6 at this;simp[this]
   have E:=U0 (show f2 h s1=_ by unfold f2;rw[if_neg hb])
   clear hb
   have c0:=(A.o.src.row.cell 0).trans (show _=some (Value.pointer (some ⟨p,0,none⟩)) from rfl)
   have hws:IntKind.i64.wrap ((s1.2.1.count 9007199254740991).1-1)=(s1.2.1.count 9007199254740991).1-1:=by
    have h1:=(RS.count_range s1.2.1 9007199254740991).1
    have h2:(s1.2.1.count 9007199254740991).1≤9007199254740991:=(RS.count_range s1.2.1 9007199254740991).2
    rw[IntKind.wrap_i64];omega
   go_wp2_with (first
    |(go_at_call 102;refine (TC p g s1.2.1 9007199254740991 _ A.o.src.rd).mono ?_;intro e u hq;unfold dC at hq;obtain⟨rfl,hr,hk⟩:=hq;have B:=U0 (A.o.read (A.o.src.read hr hk W9 (RS.count_short _ _)) (hk.more (by simp)) W9);have y:=(B.o.row.pk hrn han).c4;have y2:=B.o.row.free 4;clear hr hk))
   go_meet
   exact (by rw[E.o];exact⟨ev,av,cv,vv,bw,F,B.o.set 4 _ (tJ ((s1.2.1.count 9007199254740991).1-1)) ⟨B.o.val.rn,B.o.val.an,B.o.val.re,B.o.val.ae,B.o.val.cc,B.o.val.vs,B.o.val.bs⟩ B.o.new⟩)
 obtain⟨s2,hs2⟩:∃ s,f2 h s1=s:=⟨_,rfl⟩
 rw[hs2] at hcut
 have O:=U0 hcut
 have HS2:=U0 hs2
 clear hcut hs2
 go_upto_if 31 with fail
 go_cut [] (fun wx=>kU w wx sb p g pb (f3 h s2))
 case first=>
  obtain⟨ev,av,cv,vv,bw,F,hA⟩:=O.o
  have A:=U0 hA
  have hrn:=hA.val.rn
  have han:=hA.val.an
  clear hA
  by_cases hb:U6 h 4=0
  ·have hbb:(bits .and .i64 h 4 !=0)=false:=by have:=hb;unfold U6 at this;simp[this]
   have E:=U0 (show f3 h s2=s2 by unfold f3;rw[if_pos hb])
   clear hb
   go_wp2_with fail
   go_meet
   exact (by rw[E.o];exact⟨ev,av,cv,vv,bw,F,A.o⟩)
  ·have hbb:(bits .and .i64 h 4 !=0)=true:=by have:=hb;unfold U6 at this;simp[this]
   have E:=U0 (show f3 h s2=_ by unfold f3;rw[if_neg hb])
   clear hb
   have c0:=(A.o.src.row.cell 0).trans (show _=some (Value.pointer (some ⟨p,0,none⟩)) from rfl)
   go_wp2_with (first
    |(go_at_call 102;refine (TC p g s2.2.1 9007199254740991 _ A.o.src.rd).mono ?_;intro e u hq;unfold dC at hq;obtain⟨rfl,hr,hk⟩:=hq;have B:=U0 (A.o.read (A.o.src.read hr hk W9 (RS.count_short _ _)) (hk.more (by simp)) W9);have y:=(B.o.row.pk hrn han).c5;have y2:=B.o.row.free 5;clear hr hk))
   go_meet
   exact (by rw[E.o];exact⟨ev,av,cv,vv,bw,F,B.o.set 5 _ (qJ ((s2.2.1.count 9007199254740991).1)) ⟨B.o.val.rn,B.o.val.an,B.o.val.re,B.o.val.ae,B.o.val.cc,B.o.val.vs,B.o.val.bs⟩ B.o.new⟩)
 obtain⟨s3,hs3⟩:∃ s,f3 h s2=s:=⟨_,rfl⟩
 rw[hs3] at hcut
 have O:=U0 hcut
 have HS3:=U0 hs3
 clear hcut hs3
 go_upto_if 42 with fail
 go_cut [] (fun wx=>kU w wx sb p g pb (f4 h s3))
 case first=>
  obtain⟨ev,av,cv,vv,bw,F,hA⟩:=O.o
  have A:=U0 hA
  have hrn:=hA.val.rn
  have han:=hA.val.an
  clear hA
  by_cases hb:U6 h 8=0
  ·have hbb:(bits .and .i64 h 8 !=0)=false:=by have:=hb;unfold U6 at this;simp[this]
   have E:=U0 (show f4 h s3=s3 by unfold f4;rw[if_pos hb])
   clear hb
   go_wp2_with fail
   go_meet
   exact (by rw[E.o];exact⟨ev,av,cv,vv,bw,F,A.o⟩)
  ·have hbb:(bits .and .i64 h 8 !=0)=true:=by have:=hb;unfold U6 at this;simp[this]
   have E:=U0 (show f4 h s3=_ by unfold f4;rw[if_neg hb])
   clear hb
   have c0:=(A.o.src.row.cell 0).trans (show _=some (Value.pointer (some ⟨p,0,none⟩)) from rfl)
   go_wp2_with (first
    |(go_at_call 142;refine (IK p g sb s3.2.1 s3.2.2 _ A.o.src).mono ?_;rintro e u ⟨rfl,hs,hk⟩;have B:=U0 (A.o.read hs hk nA);have y:=(B.o.row.pk hrn han).c6;have y2:=B.o.row.free 6;clear hs hk))
   go_meet
   exact (by rw[E.o];exact⟨ev,av,cv,vv,bw,F,B.o.set 6 _ (sJ _) ⟨B.o.val.rn,B.o.val.an,B.o.val.re,B.o.val.ae,B.o.val.cc,B.o.val.vs,B.o.val.bs⟩ B.o.new⟩)
 obtain⟨s4,hs4⟩:∃ s,f4 h s3=s:=⟨_,rfl⟩
 rw[hs4] at hcut
 have O:=U0 hcut
 have HS4:=U0 hs4
 clear hcut hs4
 go_upto_if 50 with fail
 go_cut [] (fun wx=>kU w wx sb p g pb (f5 h s4))
 case first=>
  obtain⟨ev,av,cv,vv,bw,F,hA⟩:=O.o
  have A:=U0 hA
  have hrn:=hA.val.rn
  have han:=hA.val.an
  clear hA
  by_cases hb:U6 h 16=0
  ·have hbb:(bits .and .i64 h 16 !=0)=false:=by have:=hb;unfold U6 at this;simp[this]
   have E:=U0 (show f5 h s4=s4 by unfold f5;rw[if_pos hb])
   clear hb
   go_wp2_with fail
   go_meet
   exact (by rw[E.o];exact⟨ev,av,cv,vv,bw,F,A.o⟩)
  ·have hbb:(bits .and .i64 h 16 !=0)=true:=by have:=hb;unfold U6 at this;simp[this]
   have E:=U0 (show f5 h s4=_ by unfold f5;rw[if_neg hb])
   clear hb
   have c0:=(A.o.src.row.cell 0).trans (show _=some (Value.pointer (some ⟨p,0,none⟩)) from rfl)
   obtain⟨X,hX⟩:∃ X,sD s4.2.1 s4.2.2=X:=⟨_,rfl⟩
   have HX:=U0 (U2 hX (fun hne:X.2.1.l≠[]=>zL (by rw[hX];exact hne)))
   rw[hX] at E
   clear hX
   go_wp2_with (first
    |(go_at_call 143;refine (aK p g sb s4.2.1 s4.2.2 _ A.o.src).mono ?_;intro e u hq;rw[HX.o.1] at hq;obtain⟨ex,G,rfl,hv,hn,hs,hk⟩:=hq;have B:=U0 (A.o.read hs hk HX.o.2);have hL:V5 ((U8 X.1 ex).length=37∧∀ v∈U8 X.1 ex,v.oneCell'=true):=U0 ⟨O8 hv.1,fB _ hv.2.one⟩;have HV:=U0 (U2 hv (U2 hn (A.o.kp.size)));clear hv hn hs hk)
    |(refine wpList_store_mid rfl 26 (.tmp 55) (.tmp 53) rfl pb 7 (U8 X.1 ex).toArray rfl rfl (B.o.row.there (by rw[U4,U4,hL.o.1,G8 hrn han];omega)) (by rw[U4,hL.o.1];exact D9) (all_oneCell_toArray hL.o.2) ?_))
   try simp only[Act.put]
   go_meet
   exact (by rw[E.o];exact⟨ex,av,cv,vv,bw,F++G,B.o.setL 7 _ (mF X.1 ex hrn HV.o.1.1) ⟨HV.o.1.1,B.o.val.an,HV.o.1.2.more (fun y hy=>List.mem_append.2 (.inr hy)),B.o.val.ae.more (fun y hy=>List.mem_append.2 (.inl hy)),B.o.val.cc.more (fun y hy=>List.mem_append.2 (.inl hy)),B.o.val.vs.more (fun y hy=>List.mem_append.2 (.inl hy)),B.o.val.bs.more (fun y hy=>List.mem_append.2 (.inl hy))⟩ (B.o.new.app HV.o.2.1 HV.o.2.2)⟩)
 obtain⟨s5,hs5⟩:∃ s,f5 h s4=s:=⟨_,rfl⟩
 rw[hs5] at hcut
 have O:=U0 hcut
 have HS5:=U0 hs5
 clear hcut hs5
 go_upto_if 58 with fail
 go_cut [] (fun wx=>kU w wx sb p g pb (f6 h s5))
 case first=>
  obtain⟨ev,av,cv,vv,bw,F,hA⟩:=O.o
  have A:=U0 hA
  have hrn:=hA.val.rn
  have han:=hA.val.an
  clear hA
  by_cases hb:U6 h 32=0
  ·have hbb:(bits .and .i64 h 32 !=0)=false:=by have:=hb;unfold U6 at this;simp[this]
   have E:=U0 (show f6 h s5=s5 by unfold f6;rw[if_pos hb])
   clear hb
   go_wp2_with fail
   go_meet
   exact (by rw[E.o];exact⟨ev,av,cv,vv,bw,F,A.o⟩)
  ·have hbb:(bits .and .i64 h 32 !=0)=true:=by have:=hb;unfold U6 at this;simp[this]
   have E:=U0 (show f6 h s5=_ by unfold f6;rw[if_neg hb])
   clear hb
   have c0:=(A.o.src.row.cell 0).trans (show _=some (Value.pointer (some ⟨p,0,none⟩)) from rfl)
   obtain⟨X,hX⟩:∃ X,rD s5.2.1 s5.2.2=X:=⟨_,rfl⟩
   have HX:=U0 (U2 hX (fun hne:X.2.1.l≠[]=>yL (by rw[hX];exact hne)))
   rw[hX] at E
   clear hX
   go_wp2_with (first
    |(go_at_call 144;refine (ZJ p g sb s5.2.1 s5.2.2 _ A.o.src).mono ?_;intro e u hq;rw[HX.o.1] at hq;obtain⟨ex,G,rfl,hv,hn,hs,hk⟩:=hq;have B:=U0 (A.o.read hs hk HX.o.2);have hL:V5 ((x9 X.1 ex).length=38∧∀ v∈x9 X.1 ex,v.oneCell'=true):=U0 ⟨y9 hv.1,IB _ hv.2.one⟩;have HV:=U0 (U2 hv (U2 hn (A.o.kp.size)));clear hv hn hs hk)
    |(refine wpList_store_mid rfl 28 (.tmp 63) (.tmp 61) rfl pb 44 (x9 X.1 ex).toArray rfl rfl (B.o.row.there (by rw[U4,U4,hL.o.1,G8 hrn han];omega)) (by rw[U4,hL.o.1];exact Q9) (all_oneCell_toArray hL.o.2) ?_))
   try simp only[Act.put]
   go_meet
   exact (by rw[E.o];exact⟨ev,ex,cv,vv,bw,F++G,B.o.setL 44 _ (IG X.1 ex hrn han HV.o.1.1) ⟨B.o.val.rn,HV.o.1.1,B.o.val.re.more (fun y hy=>List.mem_append.2 (.inl hy)),HV.o.1.2.more (fun y hy=>List.mem_append.2 (.inr hy)),B.o.val.cc.more (fun y hy=>List.mem_append.2 (.inl hy)),B.o.val.vs.more (fun y hy=>List.mem_append.2 (.inl hy)),B.o.val.bs.more (fun y hy=>List.mem_append.2 (.inl hy))⟩ (B.o.new.app HV.o.2.1 HV.o.2.2)⟩)
 obtain⟨s6,hs6⟩:∃ s,f6 h s5=s:=⟨_,rfl⟩
 rw[hs6] at hcut
 have O:=U0 hcut
 have HS6:=U0 hs6
 clear hcut hs6
 go_upto_if 66 with fail
 go_cut [] (fun wx=>kU w wx sb p g pb (f7 h s6))
 case first=>
  obtain⟨ev,av,cv,vv,bw,F,hA⟩:=O.o
  have A:=U0 hA
  have hrn:=hA.val.rn
  have han:=hA.val.an
  clear hA
  by_cases hb:U6 h 64=0
  ·have hbb:(bits .and .i64 h 64 !=0)=false:=by have:=hb;unfold U6 at this;simp[this]
   have E:=U0 (show f7 h s6=s6 by unfold f7;rw[if_pos hb])
   clear hb
   go_wp2_with fail
   go_meet
   exact (by rw[E.o];exact⟨ev,av,cv,vv,bw,F,A.o⟩)
  ·have hbb:(bits .and .i64 h 64 !=0)=true:=by have:=hb;unfold U6 at this;simp[this]
   have E:=U0 (show f7 h s6=_ by unfold f7;rw[if_neg hb])
   clear hb
   have c0:=(A.o.src.row.cell 0).trans (show _=some (Value.pointer (some ⟨p,0,none⟩)) from rfl)
   obtain⟨X,hX⟩:∃ X,yB s6.2.1 s6.2.2=X:=⟨_,rfl⟩
   have HX:=U0 (U2 hX (fun hne:X.2.1.l≠[]=>dG (by rw[hX];exact hne)))
   rw[hX] at E
   clear hX
   go_wp2_with (first
    |(go_at_call 145;refine (MG p g sb s6.2.1 s6.2.2 _ A.o.src).mono ?_;intro e u hq;rw[HX.o.1] at hq;obtain⟨ex,G,rfl,hv,hn,hs,hk⟩:=hq;have B:=U0 (A.o.read hs hk HX.o.2);have hL:V5 ((bA X.1 ex).length=3∧∀ v∈bA X.1 ex,v.oneCell'=true):=U0 ⟨rfl,MC _ hv.one⟩;have HV:=U0 (U2 hv (U2 hn (A.o.kp.size)));clear hv hn hs hk)
    |(refine wpList_store_mid rfl 31 (.tmp 71) (.tmp 69) rfl pb 82 (bA X.1 ex).toArray rfl rfl (B.o.row.there (by rw[U4,U4,hL.o.1,G8 hrn han];omega)) (by rw[U4,hL.o.1];exact S9) (all_oneCell_toArray hL.o.2) ?_))
   try simp only[Act.put]
   go_meet
   exact (by rw[E.o];exact⟨ev,av,ex,vv,bw,F++G,B.o.setL 82 _ (JG X.1 ex hrn han) ⟨B.o.val.rn,B.o.val.an,B.o.val.re.more (fun y hy=>List.mem_append.2 (.inl hy)),B.o.val.ae.more (fun y hy=>List.mem_append.2 (.inl hy)),HV.o.1.more (fun y hy=>List.mem_append.2 (.inr hy)),B.o.val.vs.more (fun y hy=>List.mem_append.2 (.inl hy)),B.o.val.bs.more (fun y hy=>List.mem_append.2 (.inl hy))⟩ (B.o.new.app HV.o.2.1 HV.o.2.2)⟩)
 obtain⟨s7,hs7⟩:∃ s,f7 h s6=s:=⟨_,rfl⟩
 rw[hs7] at hcut
 have O:=U0 hcut
 have HS7:=U0 hs7
 clear hcut hs7
 go_upto_if 74 with fail
 go_cut [] (fun wx=>kU w wx sb p g pb (f8 h s7))
 case first=>
  obtain⟨ev,av,cv,vv,bw,F,hA⟩:=O.o
  have A:=U0 hA
  have hrn:=hA.val.rn
  have han:=hA.val.an
  clear hA
  by_cases hb:U6 h 128=0
  ·have hbb:(bits .and .i64 h 128 !=0)=false:=by have:=hb;unfold U6 at this;simp[this]
   have E:=U0 (show f8 h s7=s7 by unfold f8;rw[if_pos hb])
   clear hb
   go_wp2_with fail
   go_meet
   exact (by rw[E.o];exact⟨ev,av,cv,vv,bw,F,A.o⟩)
  ·have hbb:(bits .and .i64 h 128 !=0)=true:=by have:=hb;unfold U6 at this;simp[this]
   have E:=U0 (show f8 h s7=_ by unfold f8;rw[if_neg hb])
   clear hb
   have c0:=(A.o.src.row.cell 0).trans (show _=some (Value.pointer (some ⟨p,0,none⟩)) from rfl)
   obtain⟨X,hX⟩:∃ X,dD s7.2.1 s7.2.2=X:=⟨_,rfl⟩
   have HX:=U0 (U2 hX (fun hne:X.2.1.l≠[]=>fK (by rw[hX];exact hne)))
   rw[hX] at E
   clear hX
   obtain⟨A3,c3,g3,T3,rfl,_⟩:=id A.o.val.vs
   go_wp2_with (first
    |(go_at_call 146;refine (JK p g sb s7.2.1 s7.2.2 _ A.o.src).mono ?_;intro e u hq;rw[HX.o.1] at hq;obtain⟨ex,G,rfl,hv,hn,hs,hk⟩:=hq;obtain⟨A4,c4,g4,T4,rfl,_⟩:=id hv;have B:=U0 (A.o.read hs hk HX.o.2);have y:=(B.o.row.pk hrn han).d3;have y2:=B.o.row.free 85;have HV:=U0 (U2 hv (U2 hn (A.o.kp.size)));clear hv hn hs hk))
   go_meet
   exact (by rw[E.o];exact⟨ev,av,cv,_,bw,F++G,B.o.set 85 _ (YE hrn han X.1 _) ⟨B.o.val.rn,B.o.val.an,B.o.val.re.more (fun y hy=>List.mem_append.2 (.inl hy)),B.o.val.ae.more (fun y hy=>List.mem_append.2 (.inl hy)),B.o.val.cc.more (fun y hy=>List.mem_append.2 (.inl hy)),HV.o.1.more (fun y hy=>List.mem_append.2 (.inr hy)),B.o.val.bs.more (fun y hy=>List.mem_append.2 (.inl hy))⟩ (B.o.new.app HV.o.2.1 HV.o.2.2)⟩)
 obtain⟨s8,hs8⟩:∃ s,f8 h s7=s:=⟨_,rfl⟩
 rw[hs8] at hcut
 have O:=U0 hcut
 have HS8:=U0 hs8
 clear hcut hs8
 go_upto_if 82 with fail
 have HE:=U0 (show bM h s0=f9 h s8 by unfold bM;rw[HS1.o,HS2.o,HS3.o,HS4.o,HS5.o,HS6.o,HS7.o,HS8.o])
 obtain⟨ev,av,cv,vv,bw,F,hA⟩:=O.o
 have A:=U0 hA
 have hrn:=hA.val.rn
 have han:=hA.val.an
 clear hA
 by_cases hb:U6 h 256=0
 ·have hbb:(bits .and .i64 h 256 !=0)=false:=by have:=hb;unfold U6 at this;simp[this]
  have E:=U0 (show f9 h s8=s8 by unfold f9;rw[if_pos hb])
  clear hb
  go_wp2_with fail
  go_end0
  exact⟨rfl,by rw[HE.o];exact (by rw[E.o];exact⟨ev,av,cv,vv,bw,F,A.o⟩)⟩
 ·have hbb:(bits .and .i64 h 256 !=0)=true:=by have:=hb;unfold U6 at this;simp[this]
  have E:=U0 (show f9 h s8=_ by unfold f9;rw[if_neg hb])
  clear hb
  have c0:=(A.o.src.row.cell 0).trans (show _=some (Value.pointer (some ⟨p,0,none⟩)) from rfl)
  obtain⟨A3,c3,g3,rfl,_⟩:=id A.o.val.bs
  go_wp2_with (first
   |(go_at_call 104;refine (eG p g s8.2.1 32768 _ A.o.src.rd (by have:=A.o.src.len;omega)).mono ?_;intro e u hq;unfold sF at hq;obtain⟨ue,rfl,hfr,hr,hk⟩:=hq;obtain⟨A6,c6,G,rfl,hb6,hn6⟩:=hfr.gives;have B:=U0 (A.o.read (A.o.src.read hr hk cB (zC _ _)) (hk.more (by simp)) cB);have y:=(B.o.row.pk hrn han).d4;have y2:=B.o.row.free 86;have HV:=U0 (U2 hb6 (U2 hn6 (A.o.kp.size)));clear hr hk hfr hb6 hn6))
  go_end0
  exact⟨rfl,by rw[HE.o];exact (by rw[E.o];exact⟨ev,av,cv,vv,_,F++G,B.o.set 86 _ (aH hrn han _ _) ⟨B.o.val.rn,B.o.val.an,B.o.val.re.more (fun y hy=>List.mem_append.2 (.inl hy)),B.o.val.ae.more (fun y hy=>List.mem_append.2 (.inl hy)),B.o.val.cc.more (fun y hy=>List.mem_append.2 (.inl hy)),B.o.val.vs.more (fun y hy=>List.mem_append.2 (.inl hy)),HV.o.1.more (fun y hy=>List.mem_append.2 (.inr hy))⟩ (B.o.new.app HV.o.2.1 HV.o.2.2)⟩)⟩
end Go.Proofs.YthfdkonhjpdflaaGreatDoor
