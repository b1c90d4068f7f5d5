import Derived.Test.YthfdkonhjpdflaaGreatDoorPkC
namespace Go.Proofs.YthfdkonhjpdflaaGreatDoor
open Go.RowKit Go.Proofs.Tryz
set_option linter.unusedVariables false
set_option maxRecDepth 100000
set_option maxHeartbeats 16000000
theorem bq.one {w:World} {F:List Nat} {v:Value} {l:List Int} (h:bq w F v l):v.oneCell'=true:=by
 obtain⟨A,c,g,rfl,_⟩:=h;rfl
theorem aS.one {w:World} {F:List Nat} {v:Value} {l:List UInt8} (h:aS w F v l):v.oneCell'=true:=by
 obtain⟨A,c,g,rfl,_⟩:=h;rfl
theorem di.one {w:World} {F:List Nat} {v:Value} {l:List VT} (h:di w F v l):v.oneCell'=true:=by
 obtain⟨A,c,g,T,rfl,_⟩:=h;rfl
theorem dz {p:PK} {ev av cv vv bw:Value} (h1:ev.oneCell'=true) (h2:av.oneCell'=true) (h3:cv.oneCell'=true) (h4:vv.oneCell'=true) (h5:bw.oneCell'=true):∀ v∈bz p ev av cv vv bw,v.oneCell'=true:=by
 intro v hv
 simp only[bz,List.mem_cons,List.mem_append,bZ] at hv
 rcases hv with rfl|rfl|rfl|rfl|rfl|rfl|rfl|hv|hv|hv|hv
 ·rfl
 ·rfl
 ·rfl
 ·rfl
 ·rfl
 ·rfl
 ·rfl
 ·exact dR p.req h1 v hv
 ·exact eB p.ans h2 v hv
 ·rcases hv with rfl|rfl|rfl|hv
  ·rfl
  ·rfl
  ·exact h3
  ·cases hv
 ·rcases hv with rfl|rfl|hv
  ·exact h4
  ·exact h5
  ·cases hv
theorem bS:(prog.info? 31).map (·.size)=some 3:=by kernel_rfl
theorem vT (F:List Nat) (p:PK) (ev av cv vv bw:Value) (n:Int) (w:World) (h:gX w F p ev av cv vv bw):
 Calls prog 62 #[.agg (bz p ev av cv vv bw).toArray,.int .i64 n] w fun e w'=>e= .returned (.agg (bz (p.cut n) (oV (aN n 16) ay ev) (oV (aN n 32) ay av) (oV (aN n 64) ay cv) (oV (aN n 128) ay vv) (oV (aN n 256) ay bw)).toArray)∧ag [] w w':=by
 have hone:=dz (p:=p.cut n) (h.cut n).re.one (h.cut n).ae.one (h.cut n).cc.one (h.cut n).vs.one (h.cut n).bs.one
 have hlen:=bA (p:=p.cut n) (ev:=oV (aN n 16) ay ev) (av:=oV (aN n 32) ay av) (cv:=oV (aN n 64) ay cv) (vv:=oV (aN n 128) ay vv) (bw:=oV (aN n 256) ay bw) (h.cut n).rn (h.cut n).an
 have HB:=aa (Au (p.cut n) (oV (aN n 16) ay ev) (oV (aN n 32) ay av) (oV (aN n 64) ay cv) (oV (aN n 128) ay vv) (oV (aN n 256) ay bw) (h.cut n).rn (h.cut n).an (h.cut n).vs.one (h.cut n).bs.one)
 have hev:=h.re.one
 have hav:=h.ae.one
 have hrn:=h.rn
 have han:=h.an
 obtain⟨A3,k3,g3,rfl,_⟩:=id h.cc
 obtain⟨A4,k4,g4,T4,rfl,_⟩:=id h.vs
 obtain⟨A5,k5,g5,rfl,_⟩:=id h.bs
 obtain⟨L3,hL3⟩:∃ L,p.conf.chain.length=L:=⟨_,rfl⟩
 obtain⟨L4,hL4⟩:∃ L,p.votes.length=L:=⟨_,rfl⟩
 obtain⟨L5,hL5⟩:∃ L,p.bytes.length=L:=⟨_,rfl⟩
 rw[hL3,hL4,hL5] at hlen hone HB ⊢
 clear hL3 hL4 hL5
 clear h
 have k1:=(ag.refl [] w).alloc (.cells (bz p ev av (.slice A3 L3 k3) (.slice A4 L4 k4) (.slice A5 L5 k5)).toArray 34)
 have r1:=aC.new w 34 (bz p ev av (.slice A3 L3 k3) (.slice A4 L4 k4) (.slice A5 L5 k5)).toArray
 have hs1:(w.alloc (.cells (bz p ev av (.slice A3 L3 k3) (.slice A4 L4 k4) (.slice A5 L5 k5)).toArray 34)).heap.size=w.heap.size+1:=World.size_alloc _ _
 obtain⟨w1,hw1⟩:∃ w1,w.alloc (.cells (bz p ev av (.slice A3 L3 k3) (.slice A4 L4 k4) (.slice A5 L5 k5)).toArray 34)=w1:=⟨_,rfl⟩
 rw[hw1] at k1 r1 hs1
 have k2:=(ag.refl [] w1).alloc (.cells Tryz.zeroCells34 34)
 have r2:=aC.new w1 34 Tryz.zeroCells34
 have r1':=k2.row r1 (by simp)
 rw[hs1] at r2
 have k12:=k1.then k2 (by simp)
 have HW:=aa hw1
 clear hw1 k1 r1 k2
 go_enter func62,ntmps62
 go_upto_region 1 with (first
  |(with_reducible refine aA _ _ rfl 34 (.tmp 0) rfl _ rfl HW.o ?_))
 obtain⟨w2,hw2⟩:∃ w2,w1.alloc (.cells Tryz.zeroCells34 34)=w2:=⟨_,rfl⟩
 rw[hw2] at r2 r1' k12 ⊢
 clear hw2 HW
 have HP:=aa (fun w' (hk:ag [w.heap.size+1] w2 w')=>(hk.row r1' (by simp)).pk hrn han)
 have HR:=aa (fun w' (hk:ag [] w2 w')=>hk.row r2 (by simp))
 have HK:=aa (ah k12 (ah hrn (ah han (ah hev (ah hav (ah hlen hone))))))
 have HIr:=aa (show (prog.info? 26).map (·.size)=some (bE p.req ev).length by rw[bB hrn];exact bN)
 have HIa:=aa (show (prog.info? 28).map (·.size)=some (bK p.ans av).length by rw[bL han];exact bR)
 clear r1' r2 k12 hrn han hev hav hlen hone hs1
 have HB2:=aa (show prog.built 34 [(0,.int .i64 p.kind),(1,.int .i64 p.frm),(2,.int .i64 p.dst),(3,.int .i64 (oI (bits .and .i64 n 1) p.num)),(4,.int .i64 (oI (bits .and .i64 n 2) p.seq)),(5,.int .i64 (oI (bits .and .i64 n 4) p.ballot)),(6,.bool (oB (bits .and .i64 n 8) p.ready)),(7,.agg (bE (oV (bits .and .i64 n 16) aV p.req) (oV (bits .and .i64 n 16) ay ev)).toArray),(8,.agg (bK (oV (bits .and .i64 n 32) aY p.ans) (oV (bits .and .i64 n 32) ay av)).toArray),(9,.agg (bZ (oV (bits .and .i64 n 64) aW p.conf) (oV (bits .and .i64 n 64) ay (.slice A3 L3 k3))).toArray),(10,oV (bits .and .i64 n 128) ay (.slice A4 L4 k4)),(11,oV (bits .and .i64 n 256) ay (.slice A5 L5 k5))]=some (bz (p.cut n) (oV (aN n 16) ay ev) (oV (aN n 32) ay av) (oV (aN n 64) ay (.slice A3 L3 k3)) (oV (aN n 128) ay (.slice A4 L4 k4)) (oV (aN n 256) ay (.slice A5 L5 k5))).toArray from HB.o)
 clear HB
 refine wp_region_held_drew (S:=ag [w.heap.size+1] w2) (by kernel_rfl) ((ag.refl [] w2).drew.more (by simp)) (fun _=> ?_)
 have kW:=(ag.refl [] w2).drew
 obtain⟨W0,hW0⟩:∃ W,w2.drew=W:=⟨_,rfl⟩
 rw[hW0] at kW ⊢
 clear hW0
 refine bU 0 ⟨_,_,_,_,_,_⟩ _ (kW.more (by simp)) ?_
 try simp only[Act.put,aj,au,ax]
 refine wpAnyH_take (i:=1) (oi:=⟨_,_,_,_,_,_⟩) (v:= ?_) rfl (by kernel_rfl) (by kernel_rfl) (by kernel_rfl) (fun _ _ _ h=>h) (Or.inl ⟨by rfl,?_⟩) (kW.more (by simp)) ?_
 rotate_left
 ·intro w' hSw;have xc:=(HP.o w' hSw).c0;clear hSw;(go_simp;try with_reducible rfl)
 try simp only[Act.put,aj,au,ax]
 refine bU 2 ⟨_,_,_,_,_,_⟩ _ (kW.more (by simp)) ?_
 try simp only[Act.put,aj,au,ax]
 refine wpAnyH_take (i:=3) (oi:=⟨_,_,_,_,_,_⟩) (v:= ?_) rfl (by kernel_rfl) (by kernel_rfl) (by kernel_rfl) (fun _ _ _ h=>h) (Or.inl ⟨by rfl,?_⟩) (kW.more (by simp)) ?_
 rotate_left
 ·intro w' hSw;have xc:=(HP.o w' hSw).c1;clear hSw;(go_simp;try with_reducible rfl)
 try simp only[Act.put,aj,au,ax]
 refine bU 4 ⟨_,_,_,_,_,_⟩ _ (kW.more (by simp)) ?_
 try simp only[Act.put,aj,au,ax]
 refine wpAnyH_take (i:=5) (oi:=⟨_,_,_,_,_,_⟩) (v:= ?_) rfl (by kernel_rfl) (by kernel_rfl) (by kernel_rfl) (fun _ _ _ h=>h) (Or.inl ⟨by rfl,?_⟩) (kW.more (by simp)) ?_
 rotate_left
 ·intro w' hSw;have xc:=(HP.o w' hSw).c2;clear hSw;(go_simp;try with_reducible rfl)
 try simp only[Act.put,aj,au,ax]
 refine bU 6 ⟨_,_,_,_,_,_⟩ _ (kW.more (by simp)) ?_
 try simp only[Act.put,aj,au,ax]
 refine bU 7 ⟨_,_,_,_,_,_⟩ _ (kW.more (by simp)) ?_
 try simp only[Act.put,aj,au,ax]
 refine bU 8 ⟨_,_,_,_,_,_⟩ _ (kW.more (by simp)) ?_
 try simp only[Act.put,aj,au,ax]
 refine wpAnyH_take (i:=9) (oi:=⟨_,_,_,_,_,_⟩) (v:= ?_) rfl (by kernel_rfl) (by kernel_rfl) (by kernel_rfl) (fun _ _ _ h=>h) (Or.inl ⟨by rfl,?_⟩) (kW.more (by simp)) ?_
 rotate_left
 ·intro w' hSw;have xc:=(HP.o w' hSw).c3;clear hSw;(go_simp;try with_reducible rfl)
 try simp only[Act.put,aj,au,ax]
 refine bU 11 ⟨_,_,_,_,_,_⟩ _ (kW.more (by simp)) ?_
 try simp only[Act.put,aj,au,ax]
 refine bU 12 ⟨_,_,_,_,_,_⟩ _ (kW.more (by simp)) ?_
 try simp only[Act.put,aj,au,ax]
 refine bU 13 ⟨_,_,_,_,_,_⟩ _ (kW.more (by simp)) ?_
 try simp only[Act.put,aj,au,ax]
 refine wpAnyH_take (i:=14) (oi:=⟨_,_,_,_,_,_⟩) (v:= ?_) rfl (by kernel_rfl) (by kernel_rfl) (by kernel_rfl) (fun _ _ _ h=>h) (Or.inl ⟨by rfl,?_⟩) (kW.more (by simp)) ?_
 rotate_left
 ·intro w' hSw;have xc:=(HP.o w' hSw).c4;clear hSw;(go_simp;try with_reducible rfl)
 try simp only[Act.put,aj,au,ax]
 refine bU 16 ⟨_,_,_,_,_,_⟩ _ (kW.more (by simp)) ?_
 try simp only[Act.put,aj,au,ax]
 refine bU 17 ⟨_,_,_,_,_,_⟩ _ (kW.more (by simp)) ?_
 try simp only[Act.put,aj,au,ax]
 refine bU 18 ⟨_,_,_,_,_,_⟩ _ (kW.more (by simp)) ?_
 try simp only[Act.put,aj,au,ax]
 refine wpAnyH_take (i:=19) (oi:=⟨_,_,_,_,_,_⟩) (v:= ?_) rfl (by kernel_rfl) (by kernel_rfl) (by kernel_rfl) (fun _ _ _ h=>h) (Or.inl ⟨by rfl,?_⟩) (kW.more (by simp)) ?_
 rotate_left
 ·intro w' hSw;have xc:=(HP.o w' hSw).c5;clear hSw;(go_simp;try with_reducible rfl)
 try simp only[Act.put,aj,au,ax]
 refine bU 21 ⟨_,_,_,_,_,_⟩ _ (kW.more (by simp)) ?_
 try simp only[Act.put,aj,au,ax]
 refine bU 22 ⟨_,_,_,_,_,_⟩ _ (kW.more (by simp)) ?_
 try simp only[Act.put,aj,au,ax]
 refine bU 23 ⟨_,_,_,_,_,_⟩ _ (kW.more (by simp)) ?_
 try simp only[Act.put,aj,au,ax]
 refine wpAnyH_take (i:=24) (oi:=⟨_,_,_,_,_,_⟩) (v:= ?_) rfl (by kernel_rfl) (by kernel_rfl) (by kernel_rfl) (fun _ _ _ h=>h) (Or.inl ⟨by rfl,?_⟩) (kW.more (by simp)) ?_
 rotate_left
 ·intro w' hSw;have xc:=(HP.o w' hSw).c6;clear hSw;(go_simp;try with_reducible rfl)
 try simp only[Act.put,aj,au,ax]
 refine bU 26 ⟨_,_,_,_,_,_⟩ _ (kW.more (by simp)) ?_
 try simp only[Act.put,aj,au,ax]
 refine bU 27 ⟨_,_,_,_,_,_⟩ _ (kW.more (by simp)) ?_
 try simp only[Act.put,aj,au,ax]
 refine bU 28 ⟨_,_,_,_,_,_⟩ _ (kW.more (by simp)) ?_
 try simp only[Act.put,aj,au,ax]
 refine wpAnyH_take (i:=29) (oi:=⟨_,_,_,_,_,_⟩) (v:= .agg (bE p.req ev).toArray) rfl (by kernel_rfl) (by kernel_rfl) (by kernel_rfl) (fun _ _ _ h=>h) (dh 26 (.tmp 33) rfl w.heap.size 7 rfl (bE p.req ev) _ (fun w' hSw=>(HP.o w' hSw).rq) underlying26 rfl HIr.o ?_) (kW.more (by simp)) ?_
 ·rfl
 try simp only[Act.put,aj,au,ax]
 refine bU 31 ⟨_,_,_,_,_,_⟩ _ (kW.more (by simp)) ?_
 try simp only[Act.put,aj,au,ax]
 refine bU 32 ⟨_,_,_,_,_,_⟩ _ (kW.more (by simp)) ?_
 try simp only[Act.put,aj,au,ax]
 refine bU 33 ⟨_,_,_,_,_,_⟩ _ (kW.more (by simp)) ?_
 try simp only[Act.put,aj,au,ax]
 refine wpAnyH_take (i:=34) (oi:=⟨_,_,_,_,_,_⟩) (v:= .agg (bK p.ans av).toArray) rfl (by kernel_rfl) (by kernel_rfl) (by kernel_rfl) (fun _ _ _ h=>h) (dh 28 (.tmp 38) rfl w.heap.size 44 rfl (bK p.ans av) _ (fun w' hSw=>(HP.o w' hSw).an) underlying28 rfl HIa.o ?_) (kW.more (by simp)) ?_
 ·rfl
 try simp only[Act.put,aj,au,ax]
 refine bU 36 ⟨_,_,_,_,_,_⟩ _ (kW.more (by simp)) ?_
 try simp only[Act.put,aj,au,ax]
 refine bU 37 ⟨_,_,_,_,_,_⟩ _ (kW.more (by simp)) ?_
 try simp only[Act.put,aj,au,ax]
 refine bU 38 ⟨_,_,_,_,_,_⟩ _ (kW.more (by simp)) ?_
 try simp only[Act.put,aj,au,ax]
 refine wpAnyH_take (i:=39) (oi:=⟨_,_,_,_,_,_⟩) (v:= .agg (bZ p.conf (.slice A3 L3 k3)).toArray) rfl (by kernel_rfl) (by kernel_rfl) (by kernel_rfl) (fun _ _ _ h=>h) (dh 31 (.tmp 43) rfl w.heap.size 82 rfl (bZ p.conf (.slice A3 L3 k3)) _ (fun w' hSw=>by have hp:=HP.o w' hSw;exact fun j v hv=>match j,hv with|0,hv=>by cases hv;exact hp.d0|1,hv=>by cases hv;exact hp.d1|2,hv=>by cases hv;exact hp.d2) underlying31 rfl bS ?_) (kW.more (by simp)) ?_
 ·rfl
 try simp only[Act.put,aj,au,ax]
 refine bU 41 ⟨_,_,_,_,_,_⟩ _ (kW.more (by simp)) ?_
 try simp only[Act.put,aj,au,ax]
 refine bU 42 ⟨_,_,_,_,_,_⟩ _ (kW.more (by simp)) ?_
 try simp only[Act.put,aj,au,ax]
 refine bU 43 ⟨_,_,_,_,_,_⟩ _ (kW.more (by simp)) ?_
 try simp only[Act.put,aj,au,ax]
 refine wpAnyH_take (i:=44) (oi:=⟨_,_,_,_,_,_⟩) (v:= ?_) rfl (by kernel_rfl) (by kernel_rfl) (by kernel_rfl) (fun _ _ _ h=>h) (Or.inl ⟨by rfl,?_⟩) (kW.more (by simp)) ?_
 rotate_left
 ·intro w' hSw;have xc:=(HP.o w' hSw).d3;clear hSw;(go_simp;try with_reducible rfl)
 try simp only[Act.put,aj,au,ax]
 refine bU 46 ⟨_,_,_,_,_,_⟩ _ (kW.more (by simp)) ?_
 try simp only[Act.put,aj,au,ax]
 refine bU 47 ⟨_,_,_,_,_,_⟩ _ (kW.more (by simp)) ?_
 try simp only[Act.put,aj,au,ax]
 refine bU 48 ⟨_,_,_,_,_,_⟩ _ (kW.more (by simp)) ?_
 try simp only[Act.put,aj,au,ax]
 refine wpAnyH_take (i:=49) (oi:=⟨_,_,_,_,_,_⟩) (v:= ?_) rfl (by kernel_rfl) (by kernel_rfl) (by kernel_rfl) (fun _ _ _ h=>h) (Or.inl ⟨by rfl,?_⟩) (kW.more (by simp)) ?_
 rotate_left
 ·intro w' hSw;have xc:=(HP.o w' hSw).d4;clear hSw;(go_simp;try with_reducible rfl)
 try simp only[Act.put,aj,au,ax]
 refine wpAnyH_ready (rs:=[10]) (by kernel_rfl) (by simp) ?_
 refine bM rfl (fun K hK=> ?_)
 go_simp
 refine (Bh _ _ _).mono ?_
 rintro e w' ⟨rfl,rfl⟩
 go_wp2_with fail
 refine hK.out _ _ (kW.more (by simp)) (fun _=> ?_)
 clear hK K
 try simp only[Act.put,aj,au,ax]
 refine wpAnyH_ready (rs:=[15]) (by kernel_rfl) (by simp) ?_
 refine bM rfl (fun K hK=> ?_)
 go_simp
 refine (Bh _ _ _).mono ?_
 rintro e w' ⟨rfl,rfl⟩
 go_wp2_with fail
 refine hK.out _ _ (kW.more (by simp)) (fun _=> ?_)
 clear hK K
 try simp only[Act.put,aj,au,ax]
 refine wpAnyH_ready (rs:=[20]) (by kernel_rfl) (by simp) ?_
 refine bM rfl (fun K hK=> ?_)
 go_simp
 refine (Bh _ _ _).mono ?_
 rintro e w' ⟨rfl,rfl⟩
 go_wp2_with fail
 refine hK.out _ _ (kW.more (by simp)) (fun _=> ?_)
 clear hK K
 try simp only[Act.put,aj,au,ax]
 refine wpAnyH_ready (rs:=[25]) (by kernel_rfl) (by simp) ?_
 refine bM rfl (fun K hK=> ?_)
 go_simp
 refine (onlyB _ _ _).mono ?_
 rintro e w' ⟨rfl,rfl⟩
 go_wp2_with fail
 refine hK.out _ _ (kW.more (by simp)) (fun _=> ?_)
 clear hK K
 try simp only[Act.put,aj,au,ax]
 refine wpAnyH_ready (rs:=[30]) (by kernel_rfl) (by simp) ?_
 refine bM rfl (fun K hK=> ?_)
 go_simp
 refine (onlyR _ _ _ _ HK.o.2.1 HK.o.2.2.2.1).mono ?_
 rintro e w' ⟨rfl,kk⟩;replace kW:=kW.then kk (by simp);clear kk
 go_wp2_with fail
 refine hK.out _ _ (kW.more (by simp)) (fun _=> ?_)
 clear hK K
 try simp only[Act.put,aj,au,ax]
 refine wpAnyH_ready (rs:=[35]) (by kernel_rfl) (by simp) ?_
 refine bM rfl (fun K hK=> ?_)
 go_simp
 refine (onlyA _ _ _ _ HK.o.2.2.1 HK.o.2.2.2.2.1).mono ?_
 rintro e w' ⟨rfl,kk⟩;replace kW:=kW.then kk (by simp);clear kk
 go_wp2_with fail
 refine hK.out _ _ (kW.more (by simp)) (fun _=> ?_)
 clear hK K
 try simp only[Act.put,aj,au,ax]
 refine wpAnyH_ready (rs:=[40]) (by kernel_rfl) (by simp) ?_
 refine bM rfl (fun K hK=> ?_)
 go_simp
 refine (onlyC _ _ _ _ _ _).mono ?_
 rintro e w' ⟨rfl,kk⟩;replace kW:=kW.then kk (by simp);clear kk
 go_wp2_with fail
 refine hK.out _ _ (kW.more (by simp)) (fun _=> ?_)
 clear hK K
 try simp only[Act.put,aj,au,ax]
 refine wpAnyH_ready (rs:=[45]) (by kernel_rfl) (by simp) ?_
 refine bM rfl (fun K hK=> ?_)
 go_simp
 refine (onlyVs _ _ _ _ _).mono ?_
 rintro e w' ⟨rfl,rfl⟩
 go_wp2_with fail
 refine hK.out _ _ (kW.more (by simp)) (fun _=> ?_)
 clear hK K
 try simp only[Act.put,aj,au,ax]
 refine wpAnyH_ready (rs:=[50]) (by kernel_rfl) (by simp) ?_
 refine bM rfl (fun K hK=> ?_)
 go_simp
 refine (onlyBs _ _ _ _ _).mono ?_
 rintro e w' ⟨rfl,rfl⟩
 go_wp2_with fail
 refine hK.out _ _ (kW.more (by simp)) (fun _=> ?_)
 clear hK K
 try simp only[Act.put,aj,au,ax]
 have rs:=(HR.o _ kW).setL (vs:=bz (p.cut n) (oV (aN n 16) ay ev) (oV (aN n 32) ay av) (oV (aN n 64) ay (.slice A3 L3 k3)) (oV (aN n 128) ay (.slice A4 L4 k4)) (oV (aN n 256) ay (.slice A5 L5 k5))) (o:=0)
 have ht:=(HR.o _ kW).there (o:=0) (n:=87) (by rw[show Tryz.zeroCells34.size=87 by kernel_rfl];exact Nat.le_refl _)
 rw[aR (by rw[HK.o.2.2.2.2.2.1];kernel_rfl)] at rs
 have HZ:=aa (ah rs ht)
 have HO:=aa (all_oneCell_toArray HK.o.2.2.2.2.2.2)
 have HL:=aa HK.o.2.2.2.2.2.1
 have kF:=(HK.o.1.then kW (by simp)).setL (vs:=bz (p.cut n) (oV (aN n 16) ay ev) (oV (aN n 32) ay av) (oV (aN n 64) ay (.slice A3 L3 k3)) (oV (aN n 128) ay (.slice A4 L4 k4)) (oV (aN n 256) ay (.slice A5 L5 k5))) (g:=w.heap.size+1) (o:=0) (.inr (by simp))
 have kS:=((kW.more (by simp)):ag [w.heap.size+1] w2 _).setL (vs:=bz (p.cut n) (oV (aN n 16) ay ev) (oV (aN n 32) ay av) (oV (aN n 64) ay (.slice A3 L3 k3)) (oV (aN n 128) ay (.slice A4 L4 k4)) (oV (aN n 256) ay (.slice A5 L5 k5))) (g:=w.heap.size+1) (o:=0) (.inl (by simp))
 obtain⟨Z,hZ⟩:∃ Z,bz (p.cut n) (oV (aN n 16) ay ev) (oV (aN n 32) ay av) (oV (aN n 64) ay (.slice A3 L3 k3)) (oV (aN n 128) ay (.slice A4 L4 k4)) (oV (aN n 256) ay (.slice A5 L5 k5))=Z:=⟨_,rfl⟩
 rw[hZ] at HZ HO HL HB2 kF kS
 have HE:=aa hZ
 have HI:=aa (show (prog.info? 34).map (·.size)=some Z.toArray.size by rw[az,HL.o];exact aF)
 have HT:=aa (show World.there _ _ 0 Z.toArray.size by rw[az,HL.o];exact HZ.o.2)
 clear rs ht hZ
 refine wpAnyH_take (i:=51) (oi:=⟨_,_,_,_,_,_⟩) (v:= .agg Z.toArray) rfl (by kernel_rfl) (by kernel_rfl) (by kernel_rfl) (fun _ _ _ h=>h) (lQ 34 _ rfl ?_ _ ?_) (kW.more (by simp)) ?_
 ·rfl
 ·simp only[List.map_toArray,List.map_cons,List.map_nil]
  go_simp
  exact HB2.o
 try simp only[Act.put,aj,au,ax]
 refine wpAnyH_ready (rs:=[52]) (by kernel_rfl) (by simp) ?_
 refine bM rfl (fun K hK=> ?_)
 rw[if_pos (by rfl)]
 refine wp_store_mid 34 (.tmp 4) (.tmp 56) rfl (w.heap.size+1) 0 Z.toArray rfl rfl HT.o HI.o HO.o ?_
 refine hK.out _ _ kS (fun _=> ?_)
 clear hK K
 refine wpAnyH_done (by kernel_rfl) ?_ _
 go_wp2_with fail
 refine bodyPost_ret (results_cell_row rfl _ _ (w.heap.size+1) 34 _ (0,0) _ rfl HZ.o.1 underlying34 rfl HI.o) rfl ?_
 exact⟨by rw[←HE.o],kF⟩
end Go.Proofs.YthfdkonhjpdflaaGreatDoor
