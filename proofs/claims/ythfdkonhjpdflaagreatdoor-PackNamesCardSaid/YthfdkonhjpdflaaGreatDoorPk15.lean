import Derived.Test.YthfdkonhjpdflaaGreatDoorPkC
namespace Go.Proofs.YthfdkonhjpdflaaGreatDoor
open Go.RowKit Go.Proofs.Tryz
set_option linter.unusedVariables false
set_option maxRecDepth 100000
set_option maxHeartbeats 16000000
theorem F8.one {w:World} {F:List Nat} {v:Value} {l:List Int} (h:F8 w F v l):v.oneCell'=true:=by
 obtain⟨A,c,g,rfl,_⟩:=h;rfl
theorem G7.one {w:World} {F:List Nat} {v:Value} {l:List UInt8} (h:G7 w F v l):v.oneCell'=true:=by
 obtain⟨A,c,g,rfl,_⟩:=h;rfl
theorem xA.one {w:World} {F:List Nat} {v:Value} {l:List VT} (h:xA w F v l):v.oneCell'=true:=by
 obtain⟨A,c,g,T,rfl,_⟩:=h;rfl
theorem yA {p:PK} {ev av cv vv bw:Value} (h1:ev.oneCell'=true) (h2:av.oneCell'=true) (h3:cv.oneCell'=true) (h4:vv.oneCell'=true) (h5:bw.oneCell'=true):∀ v∈q8 p ev av cv vv bw,v.oneCell'=true:=by
 intro v hv
 simp only[q8,List.mem_cons,List.mem_append,bA] at hv
 rcases hv with rfl|rfl|rfl|rfl|rfl|rfl|rfl|hv|hv|hv|hv
 ·rfl
 ·rfl
 ·rfl
 ·rfl
 ·rfl
 ·rfl
 ·rfl
 ·exact fB p.req h1 v hv
 ·exact IB p.ans h2 v hv
 ·rcases hv with rfl|rfl|rfl|hv
  ·rfl
  ·rfl
  ·exact h3
  ·cases hv
 ·rcases hv with rfl|rfl|hv
  ·exact h4
  ·exact h5
  ·cases hv
theorem S9:(prog.info? 31).map (·.size)=some 3:=by kernel_rfl
theorem aO (F:List Nat) (p:PK) (ev av cv vv bw:Value) (n:Int) (w:World) (h:wD w F p ev av cv vv bw):
 Calls prog 62 #[.agg (q8 p ev av cv vv bw).toArray,.int .i64 n] w fun e w'=>e= .returned (.agg (q8 (p.cut n) (oV (U6 n 16) I4 ev) (oV (U6 n 32) I4 av) (oV (U6 n 64) I4 cv) (oV (U6 n 128) I4 vv) (oV (U6 n 256) I4 bw)).toArray)∧U1 [] w w':=by
 have hone:=yA (p:=p.cut n) (h.cut n).re.one (h.cut n).ae.one (h.cut n).cc.one (h.cut n).vs.one (h.cut n).bs.one
 have hlen:=G8 (p:=p.cut n) (ev:=oV (U6 n 16) I4 ev) (av:=oV (U6 n 32) I4 av) (cv:=oV (U6 n 64) I4 cv) (vv:=oV (U6 n 128) I4 vv) (bw:=oV (U6 n 256) I4 bw) (h.cut n).rn (h.cut n).an
 have HB:=U0 (jT (p.cut n) (oV (U6 n 16) I4 ev) (oV (U6 n 32) I4 av) (oV (U6 n 64) I4 cv) (oV (U6 n 128) I4 vv) (oV (U6 n 256) I4 bw) (h.cut n).rn (h.cut n).an (h.cut n).vs.one (h.cut n).bs.one)
 have hev:=h.re.one
 have hav:=h.ae.one
 have hrn:=h.rn
 have han:=h.an
 obtain⟨A3,k3,g3,rfl,_⟩:=id h.cc
 obtain⟨A4,k4,g4,T4,rfl,_⟩:=id h.vs
 obtain⟨A5,k5,g5,rfl,_⟩:=id h.bs
 obtain⟨L3,hL3⟩:∃ L,p.conf.chain.length=L:=⟨_,rfl⟩
 obtain⟨L4,hL4⟩:∃ L,p.votes.length=L:=⟨_,rfl⟩
 obtain⟨L5,hL5⟩:∃ L,p.bytes.length=L:=⟨_,rfl⟩
 rw[hL3,hL4,hL5] at hlen hone HB ⊢
 clear hL3 hL4 hL5
 clear h
 have k1:=(U1.refl [] w).alloc (.cells (q8 p ev av (.slice A3 L3 k3) (.slice A4 L4 k4) (.slice A5 L5 k5)).toArray 34)
 have r1:=l5.new w 34 (q8 p ev av (.slice A3 L3 k3) (.slice A4 L4 k4) (.slice A5 L5 k5)).toArray
 have hs1:(w.alloc (.cells (q8 p ev av (.slice A3 L3 k3) (.slice A4 L4 k4) (.slice A5 L5 k5)).toArray 34)).heap.size=w.heap.size+1:=World.size_alloc _ _
 obtain⟨w1,hw1⟩:∃ w1,w.alloc (.cells (q8 p ev av (.slice A3 L3 k3) (.slice A4 L4 k4) (.slice A5 L5 k5)).toArray 34)=w1:=⟨_,rfl⟩
 rw[hw1] at k1 r1 hs1
 have k2:=(U1.refl [] w1).alloc (.cells Tryz.zeroCells34 34)
 have r2:=l5.new w1 34 Tryz.zeroCells34
 have r1':=k2.row r1 (by simp)
 rw[hs1] at r2
 have k12:=k1.then k2 (by simp)
 have HW:=U0 hw1
 clear hw1 k1 r1 k2
 go_enter func62,ntmps62
 go_upto_region 1 with (first
  |(with_reducible refine Z4 _ _ rfl 34 (.tmp 0) rfl _ rfl HW.o ?_))
 obtain⟨w2,hw2⟩:∃ w2,w1.alloc (.cells Tryz.zeroCells34 34)=w2:=⟨_,rfl⟩
 rw[hw2] at r2 r1' k12 ⊢
 clear hw2 HW
 have HP:=U0 (fun w' (hk:U1 [w.heap.size+1] w2 w')=>(hk.row r1' (by simp)).pk hrn han)
 have HR:=U0 (fun w' (hk:U1 [] w2 w')=>hk.row r2 (by simp))
 have HK:=U0 (U2 k12 (U2 hrn (U2 han (U2 hev (U2 hav (U2 hlen hone))))))
 have HIr:=U0 (show (prog.info? 26).map (·.size)=some (U8 p.req ev).length by rw[O8 hrn];exact D9)
 have HIa:=U0 (show (prog.info? 28).map (·.size)=some (x9 p.ans av).length by rw[y9 han];exact Q9)
 clear r1' r2 k12 hrn han hev hav hlen hone hs1
 have HB2:=U0 (show prog.built 34 [(0,.int .i64 p.kind),(1,.int .i64 p.frm),(2,.int .i64 p.dst),(3,.int .i64 (oI (bits .and .i64 n 1) p.num)),(4,.int .i64 (oI (bits .and .i64 n 2) p.seq)),(5,.int .i64 (oI (bits .and .i64 n 4) p.ballot)),(6,.bool (oB (bits .and .i64 n 8) p.ready)),(7,.agg (U8 (oV (bits .and .i64 n 16) I7 p.req) (oV (bits .and .i64 n 16) I4 ev)).toArray),(8,.agg (x9 (oV (bits .and .i64 n 32) l8 p.ans) (oV (bits .and .i64 n 32) I4 av)).toArray),(9,.agg (bA (oV (bits .and .i64 n 64) V7 p.conf) (oV (bits .and .i64 n 64) I4 (.slice A3 L3 k3))).toArray),(10,oV (bits .and .i64 n 128) I4 (.slice A4 L4 k4)),(11,oV (bits .and .i64 n 256) I4 (.slice A5 L5 k5))]=some (q8 (p.cut n) (oV (U6 n 16) I4 ev) (oV (U6 n 32) I4 av) (oV (U6 n 64) I4 (.slice A3 L3 k3)) (oV (U6 n 128) I4 (.slice A4 L4 k4)) (oV (U6 n 256) I4 (.slice A5 L5 k5))).toArray from HB.o)
 clear HB
 refine wp_region_held_drew (S:=U1 [w.heap.size+1] w2) (by kernel_rfl) ((U1.refl [] w2).drew.more (by simp)) (fun _=> ?_)
 have kW:=(U1.refl [] w2).drew
 obtain⟨W0,hW0⟩:∃ W,w2.drew=W:=⟨_,rfl⟩
 rw[hW0] at kW ⊢
 clear hW0
 refine T9 0 ⟨_,_,_,_,_,_⟩ _ (kW.more (by simp)) ?_
 try simp only[Act.put,F3,U3,V3]
 refine wpAnyH_take (i:=1) (oi:=⟨_,_,_,_,_,_⟩) (v:= ?_) rfl (by kernel_rfl) (by kernel_rfl) (by kernel_rfl) (fun _ _ _ h=>h) (Or.inl ⟨by rfl,?_⟩) (kW.more (by simp)) ?_
 rotate_left
 ·intro w' hSw;have xc:=(HP.o w' hSw).c0;clear hSw;(go_simp;try with_reducible rfl)
 try simp only[Act.put,F3,U3,V3]
 refine T9 2 ⟨_,_,_,_,_,_⟩ _ (kW.more (by simp)) ?_
 try simp only[Act.put,F3,U3,V3]
 refine wpAnyH_take (i:=3) (oi:=⟨_,_,_,_,_,_⟩) (v:= ?_) rfl (by kernel_rfl) (by kernel_rfl) (by kernel_rfl) (fun _ _ _ h=>h) (Or.inl ⟨by rfl,?_⟩) (kW.more (by simp)) ?_
 rotate_left
 ·intro w' hSw;have xc:=(HP.o w' hSw).c1;clear hSw;(go_simp;try with_reducible rfl)
 try simp only[Act.put,F3,U3,V3]
 refine T9 4 ⟨_,_,_,_,_,_⟩ _ (kW.more (by simp)) ?_
 try simp only[Act.put,F3,U3,V3]
 refine wpAnyH_take (i:=5) (oi:=⟨_,_,_,_,_,_⟩) (v:= ?_) rfl (by kernel_rfl) (by kernel_rfl) (by kernel_rfl) (fun _ _ _ h=>h) (Or.inl ⟨by rfl,?_⟩) (kW.more (by simp)) ?_
 rotate_left
 ·intro w' hSw;have xc:=(HP.o w' hSw).c2;clear hSw;(go_simp;try with_reducible rfl)
 try simp only[Act.put,F3,U3,V3]
 refine T9 6 ⟨_,_,_,_,_,_⟩ _ (kW.more (by simp)) ?_
 try simp only[Act.put,F3,U3,V3]
 refine T9 7 ⟨_,_,_,_,_,_⟩ _ (kW.more (by simp)) ?_
 try simp only[Act.put,F3,U3,V3]
 refine T9 8 ⟨_,_,_,_,_,_⟩ _ (kW.more (by simp)) ?_
 try simp only[Act.put,F3,U3,V3]
 refine wpAnyH_take (i:=9) (oi:=⟨_,_,_,_,_,_⟩) (v:= ?_) rfl (by kernel_rfl) (by kernel_rfl) (by kernel_rfl) (fun _ _ _ h=>h) (Or.inl ⟨by rfl,?_⟩) (kW.more (by simp)) ?_
 rotate_left
 ·intro w' hSw;have xc:=(HP.o w' hSw).c3;clear hSw;(go_simp;try with_reducible rfl)
 try simp only[Act.put,F3,U3,V3]
 refine T9 11 ⟨_,_,_,_,_,_⟩ _ (kW.more (by simp)) ?_
 try simp only[Act.put,F3,U3,V3]
 refine T9 12 ⟨_,_,_,_,_,_⟩ _ (kW.more (by simp)) ?_
 try simp only[Act.put,F3,U3,V3]
 refine T9 13 ⟨_,_,_,_,_,_⟩ _ (kW.more (by simp)) ?_
 try simp only[Act.put,F3,U3,V3]
 refine wpAnyH_take (i:=14) (oi:=⟨_,_,_,_,_,_⟩) (v:= ?_) rfl (by kernel_rfl) (by kernel_rfl) (by kernel_rfl) (fun _ _ _ h=>h) (Or.inl ⟨by rfl,?_⟩) (kW.more (by simp)) ?_
 rotate_left
 ·intro w' hSw;have xc:=(HP.o w' hSw).c4;clear hSw;(go_simp;try with_reducible rfl)
 try simp only[Act.put,F3,U3,V3]
 refine T9 16 ⟨_,_,_,_,_,_⟩ _ (kW.more (by simp)) ?_
 try simp only[Act.put,F3,U3,V3]
 refine T9 17 ⟨_,_,_,_,_,_⟩ _ (kW.more (by simp)) ?_
 try simp only[Act.put,F3,U3,V3]
 refine T9 18 ⟨_,_,_,_,_,_⟩ _ (kW.more (by simp)) ?_
 try simp only[Act.put,F3,U3,V3]
 refine wpAnyH_take (i:=19) (oi:=⟨_,_,_,_,_,_⟩) (v:= ?_) rfl (by kernel_rfl) (by kernel_rfl) (by kernel_rfl) (fun _ _ _ h=>h) (Or.inl ⟨by rfl,?_⟩) (kW.more (by simp)) ?_
 rotate_left
 ·intro w' hSw;have xc:=(HP.o w' hSw).c5;clear hSw;(go_simp;try with_reducible rfl)
 try simp only[Act.put,F3,U3,V3]
 refine T9 21 ⟨_,_,_,_,_,_⟩ _ (kW.more (by simp)) ?_
 try simp only[Act.put,F3,U3,V3]
 refine T9 22 ⟨_,_,_,_,_,_⟩ _ (kW.more (by simp)) ?_
 try simp only[Act.put,F3,U3,V3]
 refine T9 23 ⟨_,_,_,_,_,_⟩ _ (kW.more (by simp)) ?_
 try simp only[Act.put,F3,U3,V3]
 refine wpAnyH_take (i:=24) (oi:=⟨_,_,_,_,_,_⟩) (v:= ?_) rfl (by kernel_rfl) (by kernel_rfl) (by kernel_rfl) (fun _ _ _ h=>h) (Or.inl ⟨by rfl,?_⟩) (kW.more (by simp)) ?_
 rotate_left
 ·intro w' hSw;have xc:=(HP.o w' hSw).c6;clear hSw;(go_simp;try with_reducible rfl)
 try simp only[Act.put,F3,U3,V3]
 refine T9 26 ⟨_,_,_,_,_,_⟩ _ (kW.more (by simp)) ?_
 try simp only[Act.put,F3,U3,V3]
 refine T9 27 ⟨_,_,_,_,_,_⟩ _ (kW.more (by simp)) ?_
 try simp only[Act.put,F3,U3,V3]
 refine T9 28 ⟨_,_,_,_,_,_⟩ _ (kW.more (by simp)) ?_
 try simp only[Act.put,F3,U3,V3]
 refine wpAnyH_take (i:=29) (oi:=⟨_,_,_,_,_,_⟩) (v:= .agg (U8 p.req ev).toArray) rfl (by kernel_rfl) (by kernel_rfl) (by kernel_rfl) (fun _ _ _ h=>h) (uA 26 (.tmp 33) rfl w.heap.size 7 rfl (U8 p.req ev) _ (fun w' hSw=>(HP.o w' hSw).rq) underlying26 rfl HIr.o ?_) (kW.more (by simp)) ?_
 ·rfl
 try simp only[Act.put,F3,U3,V3]
 refine T9 31 ⟨_,_,_,_,_,_⟩ _ (kW.more (by simp)) ?_
 try simp only[Act.put,F3,U3,V3]
 refine T9 32 ⟨_,_,_,_,_,_⟩ _ (kW.more (by simp)) ?_
 try simp only[Act.put,F3,U3,V3]
 refine T9 33 ⟨_,_,_,_,_,_⟩ _ (kW.more (by simp)) ?_
 try simp only[Act.put,F3,U3,V3]
 refine wpAnyH_take (i:=34) (oi:=⟨_,_,_,_,_,_⟩) (v:= .agg (x9 p.ans av).toArray) rfl (by kernel_rfl) (by kernel_rfl) (by kernel_rfl) (fun _ _ _ h=>h) (uA 28 (.tmp 38) rfl w.heap.size 44 rfl (x9 p.ans av) _ (fun w' hSw=>(HP.o w' hSw).an) underlying28 rfl HIa.o ?_) (kW.more (by simp)) ?_
 ·rfl
 try simp only[Act.put,F3,U3,V3]
 refine T9 36 ⟨_,_,_,_,_,_⟩ _ (kW.more (by simp)) ?_
 try simp only[Act.put,F3,U3,V3]
 refine T9 37 ⟨_,_,_,_,_,_⟩ _ (kW.more (by simp)) ?_
 try simp only[Act.put,F3,U3,V3]
 refine T9 38 ⟨_,_,_,_,_,_⟩ _ (kW.more (by simp)) ?_
 try simp only[Act.put,F3,U3,V3]
 refine wpAnyH_take (i:=39) (oi:=⟨_,_,_,_,_,_⟩) (v:= .agg (bA p.conf (.slice A3 L3 k3)).toArray) rfl (by kernel_rfl) (by kernel_rfl) (by kernel_rfl) (fun _ _ _ h=>h) (uA 31 (.tmp 43) rfl w.heap.size 82 rfl (bA p.conf (.slice A3 L3 k3)) _ (fun w' hSw=>by have hp:=HP.o w' hSw;exact fun j v hv=>match j,hv with|0,hv=>by cases hv;exact hp.d0|1,hv=>by cases hv;exact hp.d1|2,hv=>by cases hv;exact hp.d2) underlying31 rfl S9 ?_) (kW.more (by simp)) ?_
 ·rfl
 try simp only[Act.put,F3,U3,V3]
 refine T9 41 ⟨_,_,_,_,_,_⟩ _ (kW.more (by simp)) ?_
 try simp only[Act.put,F3,U3,V3]
 refine T9 42 ⟨_,_,_,_,_,_⟩ _ (kW.more (by simp)) ?_
 try simp only[Act.put,F3,U3,V3]
 refine T9 43 ⟨_,_,_,_,_,_⟩ _ (kW.more (by simp)) ?_
 try simp only[Act.put,F3,U3,V3]
 refine wpAnyH_take (i:=44) (oi:=⟨_,_,_,_,_,_⟩) (v:= ?_) rfl (by kernel_rfl) (by kernel_rfl) (by kernel_rfl) (fun _ _ _ h=>h) (Or.inl ⟨by rfl,?_⟩) (kW.more (by simp)) ?_
 rotate_left
 ·intro w' hSw;have xc:=(HP.o w' hSw).d3;clear hSw;(go_simp;try with_reducible rfl)
 try simp only[Act.put,F3,U3,V3]
 refine T9 46 ⟨_,_,_,_,_,_⟩ _ (kW.more (by simp)) ?_
 try simp only[Act.put,F3,U3,V3]
 refine T9 47 ⟨_,_,_,_,_,_⟩ _ (kW.more (by simp)) ?_
 try simp only[Act.put,F3,U3,V3]
 refine T9 48 ⟨_,_,_,_,_,_⟩ _ (kW.more (by simp)) ?_
 try simp only[Act.put,F3,U3,V3]
 refine wpAnyH_take (i:=49) (oi:=⟨_,_,_,_,_,_⟩) (v:= ?_) rfl (by kernel_rfl) (by kernel_rfl) (by kernel_rfl) (fun _ _ _ h=>h) (Or.inl ⟨by rfl,?_⟩) (kW.more (by simp)) ?_
 rotate_left
 ·intro w' hSw;have xc:=(HP.o w' hSw).d4;clear hSw;(go_simp;try with_reducible rfl)
 try simp only[Act.put,F3,U3,V3]
 refine wpAnyH_ready (rs:=[10]) (by kernel_rfl) (by simp) ?_
 refine q9 rfl (fun K hK=> ?_)
 go_simp
 refine (iU _ _ _).mono ?_
 rintro e w' ⟨rfl,rfl⟩
 go_wp2_with fail
 refine hK.out _ _ (kW.more (by simp)) (fun _=> ?_)
 clear hK K
 try simp only[Act.put,F3,U3,V3]
 refine wpAnyH_ready (rs:=[15]) (by kernel_rfl) (by simp) ?_
 refine q9 rfl (fun K hK=> ?_)
 go_simp
 refine (iU _ _ _).mono ?_
 rintro e w' ⟨rfl,rfl⟩
 go_wp2_with fail
 refine hK.out _ _ (kW.more (by simp)) (fun _=> ?_)
 clear hK K
 try simp only[Act.put,F3,U3,V3]
 refine wpAnyH_ready (rs:=[20]) (by kernel_rfl) (by simp) ?_
 refine q9 rfl (fun K hK=> ?_)
 go_simp
 refine (iU _ _ _).mono ?_
 rintro e w' ⟨rfl,rfl⟩
 go_wp2_with fail
 refine hK.out _ _ (kW.more (by simp)) (fun _=> ?_)
 clear hK K
 try simp only[Act.put,F3,U3,V3]
 refine wpAnyH_ready (rs:=[25]) (by kernel_rfl) (by simp) ?_
 refine q9 rfl (fun K hK=> ?_)
 go_simp
 refine (onlyB _ _ _).mono ?_
 rintro e w' ⟨rfl,rfl⟩
 go_wp2_with fail
 refine hK.out _ _ (kW.more (by simp)) (fun _=> ?_)
 clear hK K
 try simp only[Act.put,F3,U3,V3]
 refine wpAnyH_ready (rs:=[30]) (by kernel_rfl) (by simp) ?_
 refine q9 rfl (fun K hK=> ?_)
 go_simp
 refine (onlyR _ _ _ _ HK.o.2.1 HK.o.2.2.2.1).mono ?_
 rintro e w' ⟨rfl,kk⟩;replace kW:=kW.then kk (by simp);clear kk
 go_wp2_with fail
 refine hK.out _ _ (kW.more (by simp)) (fun _=> ?_)
 clear hK K
 try simp only[Act.put,F3,U3,V3]
 refine wpAnyH_ready (rs:=[35]) (by kernel_rfl) (by simp) ?_
 refine q9 rfl (fun K hK=> ?_)
 go_simp
 refine (onlyA _ _ _ _ HK.o.2.2.1 HK.o.2.2.2.2.1).mono ?_
 rintro e w' ⟨rfl,kk⟩;replace kW:=kW.then kk (by simp);clear kk
 go_wp2_with fail
 refine hK.out _ _ (kW.more (by simp)) (fun _=> ?_)
 clear hK K
 try simp only[Act.put,F3,U3,V3]
 refine wpAnyH_ready (rs:=[40]) (by kernel_rfl) (by simp) ?_
 refine q9 rfl (fun K hK=> ?_)
 go_simp
 refine (onlyC _ _ _ _ _ _).mono ?_
 rintro e w' ⟨rfl,kk⟩;replace kW:=kW.then kk (by simp);clear kk
 go_wp2_with fail
 refine hK.out _ _ (kW.more (by simp)) (fun _=> ?_)
 clear hK K
 try simp only[Act.put,F3,U3,V3]
 refine wpAnyH_ready (rs:=[45]) (by kernel_rfl) (by simp) ?_
 refine q9 rfl (fun K hK=> ?_)
 go_simp
 refine (onlyVs _ _ _ _ _).mono ?_
 rintro e w' ⟨rfl,rfl⟩
 go_wp2_with fail
 refine hK.out _ _ (kW.more (by simp)) (fun _=> ?_)
 clear hK K
 try simp only[Act.put,F3,U3,V3]
 refine wpAnyH_ready (rs:=[50]) (by kernel_rfl) (by simp) ?_
 refine q9 rfl (fun K hK=> ?_)
 go_simp
 refine (onlyBs _ _ _ _ _).mono ?_
 rintro e w' ⟨rfl,rfl⟩
 go_wp2_with fail
 refine hK.out _ _ (kW.more (by simp)) (fun _=> ?_)
 clear hK K
 try simp only[Act.put,F3,U3,V3]
 have rs:=(HR.o _ kW).setL (vs:=q8 (p.cut n) (oV (U6 n 16) I4 ev) (oV (U6 n 32) I4 av) (oV (U6 n 64) I4 (.slice A3 L3 k3)) (oV (U6 n 128) I4 (.slice A4 L4 k4)) (oV (U6 n 256) I4 (.slice A5 L5 k5))) (o:=0)
 have ht:=(HR.o _ kW).there (o:=0) (n:=87) (by rw[show Tryz.zeroCells34.size=87 by kernel_rfl];exact Nat.le_refl _)
 rw[F7 (by rw[HK.o.2.2.2.2.2.1];kernel_rfl)] at rs
 have HZ:=U0 (U2 rs ht)
 have HO:=U0 (all_oneCell_toArray HK.o.2.2.2.2.2.2)
 have HL:=U0 HK.o.2.2.2.2.2.1
 have kF:=(HK.o.1.then kW (by simp)).setL (vs:=q8 (p.cut n) (oV (U6 n 16) I4 ev) (oV (U6 n 32) I4 av) (oV (U6 n 64) I4 (.slice A3 L3 k3)) (oV (U6 n 128) I4 (.slice A4 L4 k4)) (oV (U6 n 256) I4 (.slice A5 L5 k5))) (g:=w.heap.size+1) (o:=0) (.inr (by simp))
 have kS:=((kW.more (by simp)):U1 [w.heap.size+1] w2 _).setL (vs:=q8 (p.cut n) (oV (U6 n 16) I4 ev) (oV (U6 n 32) I4 av) (oV (U6 n 64) I4 (.slice A3 L3 k3)) (oV (U6 n 128) I4 (.slice A4 L4 k4)) (oV (U6 n 256) I4 (.slice A5 L5 k5))) (g:=w.heap.size+1) (o:=0) (.inl (by simp))
 obtain⟨Z,hZ⟩:∃ Z,q8 (p.cut n) (oV (U6 n 16) I4 ev) (oV (U6 n 32) I4 av) (oV (U6 n 64) I4 (.slice A3 L3 k3)) (oV (U6 n 128) I4 (.slice A4 L4 k4)) (oV (U6 n 256) I4 (.slice A5 L5 k5))=Z:=⟨_,rfl⟩
 rw[hZ] at HZ HO HL HB2 kF kS
 have HE:=U0 hZ
 have HI:=U0 (show (prog.info? 34).map (·.size)=some Z.toArray.size by rw[U4,HL.o];exact I5)
 have HT:=U0 (show World.there _ _ 0 Z.toArray.size by rw[U4,HL.o];exact HZ.o.2)
 clear rs ht hZ
 refine wpAnyH_take (i:=51) (oi:=⟨_,_,_,_,_,_⟩) (v:= .agg Z.toArray) rfl (by kernel_rfl) (by kernel_rfl) (by kernel_rfl) (fun _ _ _ h=>h) (TG 34 _ rfl ?_ _ ?_) (kW.more (by simp)) ?_
 ·rfl
 ·simp only[List.map_toArray,List.map_cons,List.map_nil]
  go_simp
  exact HB2.o
 try simp only[Act.put,F3,U3,V3]
 refine wpAnyH_ready (rs:=[52]) (by kernel_rfl) (by simp) ?_
 refine q9 rfl (fun K hK=> ?_)
 rw[if_pos (by rfl)]
 refine wp_store_mid 34 (.tmp 4) (.tmp 56) rfl (w.heap.size+1) 0 Z.toArray rfl rfl HT.o HI.o HO.o ?_
 refine hK.out _ _ kS (fun _=> ?_)
 clear hK K
 refine wpAnyH_done (by kernel_rfl) ?_ _
 go_wp2_with fail
 refine bodyPost_ret (results_cell_row rfl _ _ (w.heap.size+1) 34 _ (0,0) _ rfl HZ.o.1 underlying34 rfl HI.o) rfl ?_
 exact⟨by rw[←HE.o],kF⟩
end Go.Proofs.YthfdkonhjpdflaaGreatDoor
