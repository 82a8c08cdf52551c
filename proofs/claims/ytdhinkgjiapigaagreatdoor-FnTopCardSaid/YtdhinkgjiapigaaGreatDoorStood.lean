import Derived.Shelf.Lay
import Derived.Shelf.Sort.Plain
import Derived.Ground.Names2Prog
import Derived.Shelf.Slices.In.SortNone
import Derived.Sort.OwnSortedInts
import Derived.Test.YtdhinkgjiapigaaGreatDoorBarW
import Derived.Test.YtdhinkgjiapigaaGreatDoorConc
namespace Go.Proofs
open Go.Shelf
shelf_lay Lays.n189 Nm 189 at Tryz as Tryz.lays189
end Go.Proofs
namespace Go.Proofs.YtdhinkgjiapigaaGreatDoor
open Go.RowKit Go.Shelf
section
open Go.Sort
theorem G9 (a off b:Nat) (d:List Int) (w:World) (g:Holds (Value.int .i64) w a off d.toArray) (c:a<w.heap.size) (f:d.length<4611686018427387904) :
  Calls Tryz.prog 113 #[.slice (some ⟨a,off,none⟩) d.length b] w fun e w'=>
   e=.returned (.tuple #[])∧∃n os,w'=grow (putRow (Value.int .i64) (Sort.ahead w n) a off (d.mergeSort fun x y=>decide (x<=y)).toArray) os:=Any.slices_Sort_int Tryz.lays189 a off b d w g c f
theorem FQ (p:Option Addr) (a:Nat) (w:World) :
  Calls Tryz.prog 113 #[.slice p 0 a] w fun e w'=>e=.returned (.tuple #[])∧w'=w:=Any.slices_Sort_int_none Tryz.lays189 p a w
set_option maxHeartbeats 1000000 in
theorem Fv (l:Nat) (I:Array Value) (n0 c:Nat) (xs:List Nat) (w:World) (C:∀args w,(callFunc l args).run Tryz.prog w=.ok (.enter l args) w) (H:n0<=w.heap.size) (P:xs.length<=1048576)
  (m:nX Tryz.prog l I (fun i:Nat=>#[.int .i64 (i:Int)]) n0 c xs w) :
  Calls Tryz.prog 110 #[.func (.func l) #[] I] w fun e w'=>∃v,e=.returned v∧Below w.heap.size w w'∧w'.ownsRow w.heap.size 3 1 v xs.length (((xs.map fun i:Nat=>(i:Int)).mergeSort fun x y=>decide (x<=y)).map (Value.int .i64)):=by
 have M:=aD (A6 l I n0 c xs w C H P m);clear m;go_enter Tryz.func110,Tryz.ntmps110
 go_wp2_with fail
 refine M.out.mono ?_;rintro e u ⟨v,rfl,D,f⟩;have z:=aD D;have b:=f;rw[DG] at b;have k:(xs.map fun i:Nat=>(i:Int)).length=xs.length:=List.length_map ..;rcases b.2 with ⟨o,G⟩ | ⟨g,B,cur,Q,a,j,q,s,t,J⟩
 ·subst o;have O:=aD f;clear D f b C;obtain rfl:xs=[]:=List.eq_nil_of_length_eq_zero G
  go_wp2_with (go_at_call 113; refine (FQ none 0 _).mono ?_; rintro e w' ⟨rfl,rfl⟩)
  go_ret;exact⟨_,rfl,z.out,by simpa [oL] using O.out⟩
 ·subst Q;have K:Holds (Value.int .i64) u g 0 (xs.map fun i:Nat=>(i:Int)).toArray:=holds_of_blockI j (by rw[k]; simpa [dD] using J);have E:g<u.heap.size:=(Array.getElem?_eq_some_iff.1 j).1;have d:=G9 g 0 B (xs.map fun i:Nat=>(i:Int)) u K E (by omega);rw[k] at d
  have h:((xs.map fun i:Nat=>(i:Int)).mergeSort fun x y=>decide (x<=y)).length=xs.length:=by rw[List.length_mergeSort,k]
  have N:=aD (And.intro j (And.intro a (And.intro q (And.intro s (And.intro t h)))));have A:=aD d;clear D f b C K d j q s t J h a
  go_wp2_with (go_at_call 113; refine A.out.mono ?_; rintro e w' ⟨rfl,L,os,rfl⟩)
  go_ret;obtain⟨j,a,q,s,t,h⟩:=N.out;have F:=grownBy_sortedI (w:=u) (g:=g) (n:=L) (os:=os) ((xs.map fun i:Nat=>(i:Int)).mergeSort fun x y=>decide (x<=y)).toArray;have p:=ownsRow_sortedI (n:=L) (os:=os) (ss:=xs.map fun i:Nat=>(i:Int)) (ts:=(xs.map fun i:Nat=>(i:Int)).mergeSort fun x y=>decide (x<=y)) (by rw[h,k]) a j (by rw[k]; exact q) s t;rw[k] at p;exact⟨_,rfl,z.out.grown F z.out.size fun r e=>by cases e; exact a,p⟩
end
section
open Classical Go.Deep
set_option maxRecDepth 100000 in
set_option maxHeartbeats 8000000 in
theorem FA (p1 p2 p3 f1 f2 f3:Value) (p:aK) (d:aF) (i:Nat) (x:aT) (w:World) (hp:aZ (In w) w p1 p2 p3 p) (hf:bB (In w) w f1 f2 f3 d) (hd:d.Small 1048576) (hx:p.aB[i]?=some x) (Z:x.Small 30) (hl:∀s∈x.aA++x.over,0<=s∧s<d.aH.length) (_hw:p.aB.length<=100) :
  Calls Tryz.prog 65 #[.agg #[.int .i64 p.aA,p1,p2,p3,.int .i64 p.aI,.bool d.ok,f1,f2,f3,.int .i64 (i:Int)]] w fun e w'=>∃a c,e=.returned (.slice a (tY d.aH x).length c)∧Below w.heap.size w w':=by
 have KF:=aD fun (W:World) (h:Below w.heap.size w W)=>hf.1.keep (Q:=In W) (In.keep h).1 (In.keep h).2;obtain⟨n,r,rfl⟩:=hp.1.size;obtain⟨q,u,rfl⟩:=hp.2.2.size;obtain⟨D,A,rfl⟩:=hf.1.size;obtain⟨E,B,rfl⟩:=hf.2.1.size;obtain⟨o3,C,rfl⟩:=hf.2.2.size;obtain⟨a2,t,rfl,O⟩:=hp.2.1;have aV:i<p.aB.length:=(List.getElem?_eq_some_iff.1 hx).1;obtain h0 | ⟨k,l,rfl,J,O⟩:=O
 ·omega
 obtain⟨v0,v1,v2,v3,v4,z,g0,g1,g2,g3,g4⟩:=O i aV x hx;obtain⟨s0,R,rfl⟩:=z.1.size;obtain⟨s1,t1,rfl⟩:=z.2.1.size;obtain⟨s2,t2,rfl⟩:=z.2.2.1.size;obtain⟨P,S,rfl⟩:=z.2.2.2.1.size;obtain⟨s4,t4,rfl⟩:=z.2.2.2.2.size;have F:=eB w 107 51 #[.int .i64 p.aA,.slice n p.aE.length r,.slice (some ⟨k,l,none⟩) p.aB.length t,.slice q p.aO.length u,.int .i64 p.aI,.bool d.ok,.slice D d.aH.length A,.slice E d.aC.length B,.slice o3 d.aB.length C,.int .i64 (i:Int)] #[.slice s0 x.aA.length R,.slice s1 x.aQ.length t1,.slice s2 x.aJ.length t2,.slice P x.over.length S,.slice s4 x.aW.length t4]
 have a9:((w.alloc (.cells #[.int .i64 p.aA,.slice n p.aE.length r,.slice (some ⟨k,l,none⟩) p.aB.length t,.slice q p.aO.length u,.int .i64 p.aI,.bool d.ok,.slice D d.aH.length A,.slice E d.aC.length B,.slice o3 d.aB.length C,.int .i64 (i:Int)] 107)).alloc (.cells #[.slice s0 x.aA.length R,.slice s1 x.aQ.length t1,.slice s2 x.aJ.length t2,.slice P x.over.length S,.slice s4 x.aW.length t4] 51)).drew.heap.size=w.heap.size+2:=by simp
 have a8:Calls Tryz.prog 111 #[.slice (some ⟨w.heap.size+1+1,0,none⟩) 2 2] (((w.alloc (.cells #[.int .i64 p.aA,.slice n p.aE.length r,.slice (some ⟨k,l,none⟩) p.aB.length t,.slice q p.aO.length u,.int .i64 p.aI,.bool d.ok,.slice D d.aH.length A,.slice E d.aC.length B,.slice o3 d.aB.length C,.int .i64 (i:Int)] 107)).alloc (.cells #[.slice s0 x.aA.length R,.slice s1 x.aQ.length t1,.slice s2 x.aJ.length t2,.slice P x.over.length S,.slice s4 x.aW.length t4] 51)).drew.alloc (.cells #[.slice s0 x.aA.length R,.slice P x.over.length S] 23)) fun e m=>∃G L,e=.returned (.func (.func 185) #[] #[.pointer (some ⟨G,0,none⟩)])∧bD w [(107,#[.int .i64 p.aA,.slice n p.aE.length r,.slice (some ⟨k,l,none⟩) p.aB.length t,.slice q p.aO.length u,.int .i64 p.aI,.bool d.ok,.slice D d.aH.length A,.slice E d.aC.length B,.slice o3 d.aB.length C,.int .i64 (i:Int)]),(51,#[.slice s0 x.aA.length R,.slice s1 x.aQ.length t1,.slice s2 x.aJ.length t2,.slice P x.over.length S,.slice s4 x.aW.length t4])] m∧G<m.heap.size∧m.cell? ⟨G,0,none⟩=some L∧Ints (In m) m L (x.aA++x.over):=by
  have TL:=cZ ((w.alloc (.cells #[.int .i64 p.aA,.slice n p.aE.length r,.slice (some ⟨k,l,none⟩) p.aB.length t,.slice q p.aO.length u,.int .i64 p.aI,.bool d.ok,.slice D d.aH.length A,.slice E d.aC.length B,.slice o3 d.aB.length C,.int .i64 (i:Int)] 107)).alloc (.cells #[.slice s0 x.aA.length R,.slice s1 x.aQ.length t1,.slice s2 x.aJ.length t2,.slice P x.over.length S,.slice s4 x.aW.length t4] 51)).drew 23 #[.slice s0 x.aA.length R,.slice P x.over.length S];have TB:=(F.call (cT _)).call TL.below;have k0:=TL.c 0 0 rfl rfl;have k1:=TL.c 0 1 rfl rfl;rw[Nat.add_zero,a9] at k0 k1;refine (FU (w.heap.size+1+1) 0 2 _ _ x.aA x.over _ (by simp) k0 (by simpa using k1) (z.1.keep (In.keep TB.below).1 (In.keep TB.below).2) (z.2.2.2.1.keep (In.keep TB.below).1 (In.keep TB.below).2) (Nat.le_trans Z.1 (by omega)) (Nat.le_trans Z.2.2.2.1 (by omega))).mono ?_;rintro e m ⟨G,L,rfl,hb,Y,hc,hL⟩;exact⟨G,L,rfl,TB.call hb,Y,hc,hL⟩
 have aR:=aD a8
 have T:∀m I G L,bD w [(107,#[.int .i64 p.aA,.slice n p.aE.length r,.slice (some ⟨k,l,none⟩) p.aB.length t,.slice q p.aO.length u,.int .i64 p.aI,.bool d.ok,.slice D d.aH.length A,.slice E d.aC.length B,.slice o3 d.aB.length C,.int .i64 (i:Int)]),(51,#[.slice s0 x.aA.length R,.slice s1 x.aQ.length t1,.slice s2 x.aJ.length t2,.slice P x.over.length S,.slice s4 x.aW.length t4])] m->G<m.heap.size->m.cell? ⟨G,0,none⟩=some L->Ints (In m) m L (x.aA++x.over)->I=(m.alloc (.cells #[.func (.func 185) #[] #[.pointer (some ⟨G,0,none⟩)]] 96)).alloc (.cells #[.func (.func 112) #[.agg #[.int .i64 p.aA,.slice n p.aE.length r,.slice (some ⟨k,l,none⟩) p.aB.length t,.slice q p.aO.length u,.int .i64 p.aI,.bool d.ok,.slice D d.aH.length A,.slice E d.aC.length B,.slice o3 d.aB.length C,.int .i64 (i:Int)]] #[]] 99) ->
   Calls Tryz.prog 110 #[.func (.func 98) #[] #[.pointer (some ⟨m.heap.size,0,none⟩),.pointer (some ⟨m.heap.size+1,0,none⟩)]] I fun e w'=>∃a c,e=.returned (.slice a (tY d.aH x).length c)∧Below w.heap.size w w':=fun m I G L H Y hc hL K=>by
  have V:=eB m 96 99 #[.func (.func 185) #[] #[.pointer (some ⟨G,0,none⟩)]] #[.func (.func 112) #[.agg #[.int .i64 p.aA,.slice n p.aE.length r,.slice (some ⟨k,l,none⟩) p.aB.length t,.slice q p.aO.length u,.int .i64 p.aI,.bool d.ok,.slice D d.aH.length A,.slice E d.aC.length B,.slice o3 d.aB.length C,.int .i64 (i:Int)]] #[]];rw[← K] at V
  have bE:I.heap.size=m.heap.size+2:=by rw[K]; simp
  have M:=(H.call V.below).below;have cV:=V.c 0 0 rfl rfl;have cK:=V.c 1 0 rfl rfl;rw[Nat.add_zero] at cV;have hn:=IA fun s aX=>(hl s aX).1
  have X:∀y W,y∈rD x->Below I.heap.size I W->Calls Tryz.prog 112 ((#[.agg #[.int .i64 p.aA,.slice n p.aE.length r,.slice (some ⟨k,l,none⟩) p.aB.length t,.slice q p.aO.length u,.int .i64 p.aI,.bool d.ok,.slice D d.aH.length A,.slice E d.aC.length B,.slice o3 d.aB.length C,.int .i64 (i:Int)]]:Array Value).push (.int .i64 (y:Int))) W fun e W'=>e=.returned (.bool (d.aH.getD y false))∧Below W.heap.size W W':=fun y W hy hW=>by
   have hB:Below w.heap.size w W:=M.trans (hW.mono M.size)
   have hm:(y:Int)∈x.aA++x.over:=by rw[← hn]; exact List.mem_map.2 ⟨y,hy,rfl⟩
   obtain⟨h1,h2⟩:=hl _ hm;obtain⟨o,ho⟩:=bG d.aH (aD rfl) (show y<d.aH.length by omega)
   have hg:d.aH.getD y false=o:=by rw[List.getD_eq_getElem?_getD,ho]; rfl
   rw[hg];exact C6 _ _ _ _ _ _ _ _ _ i d.aH y o W (KF.out W hB) ho hd.1
  have aU:=AX 185 112 #[.pointer (some ⟨G,0,none⟩)] #[.agg #[.int .i64 p.aA,.slice n p.aE.length r,.slice (some ⟨k,l,none⟩) p.aB.length t,.slice q p.aO.length u,.int .i64 p.aI,.bool d.ok,.slice D d.aH.length A,.slice E d.aC.length B,.slice o3 d.aB.length C,.int .i64 (i:Int)]] I.heap.size 0 m.heap.size (m.heap.size+1) (rD x) (fun s=>d.aH.getD s false) I (by omega) (by omega) (Nat.le_refl _)
   (enters_of Tryz.func185 (by kernel_rfl) rfl) (enters_of Tryz.func112 (by kernel_rfl) rfl) cV cK
   (FH L (rD x) I.heap.size G I (by omega) (Nat.le_refl _) ((V.below.cell (p:=⟨G,0,none⟩) Y).trans hc) (by rw[hn]; exact hL.keep (fun b hb o=>V.below.cell (p:=⟨b,o,none⟩) hb) fun b hb=>Nat.lt_of_lt_of_le hb V.below.size) (by rw[Ca]; have:=Z.1; have:=Z.2.2.2.1; omega)) X
  refine (Fv 98 _ I.heap.size (3+0) ((rD x).filter fun s=>d.aH.getD s false) I (enters_of Tryz.func98 (by kernel_rfl) rfl) (Nat.le_refl _) (Nat.le_trans (List.length_filter_le _ _) (by rw[Ca]; have:=Z.1; have:=Z.2.2.2.1; omega)) aU).mono ?_;rintro e w5 ⟨v,rfl,N,a7⟩
  obtain⟨a,c,rfl⟩:∃a c,v=.slice a (tY d.aH x).length c:=by
   rcases a7.2 with ⟨rfl,h0⟩ | ⟨g,bA,cur,rfl,-⟩
   ·exact⟨none,0,by unfold tY; rw[h0]⟩
   ·exact⟨_,_,rfl⟩
  exact⟨a,c,rfl,M.trans (N.mono M.size)⟩
 have a0:=aD T;have z0:=(bC w (.cells #[.int .i64 p.aA,.slice n p.aE.length r,.slice (some ⟨k,l,none⟩) p.aB.length t,.slice q p.aO.length u,.int .i64 p.aI,.bool d.ok,.slice D d.aH.length A,.slice E d.aC.length B,.slice o3 d.aB.length C,.int .i64 (i:Int)] 107)).cell (p:=⟨k,l+i*5,none⟩) J |>.trans g0;have z1:=(bC w (.cells #[.int .i64 p.aA,.slice n p.aE.length r,.slice (some ⟨k,l,none⟩) p.aB.length t,.slice q p.aO.length u,.int .i64 p.aI,.bool d.ok,.slice D d.aH.length A,.slice E d.aC.length B,.slice o3 d.aB.length C,.int .i64 (i:Int)] 107)).cell (p:=⟨k,l+i*5+1,none⟩) J |>.trans g1;have z2:=(bC w (.cells #[.int .i64 p.aA,.slice n p.aE.length r,.slice (some ⟨k,l,none⟩) p.aB.length t,.slice q p.aO.length u,.int .i64 p.aI,.bool d.ok,.slice D d.aH.length A,.slice E d.aC.length B,.slice o3 d.aB.length C,.int .i64 (i:Int)] 107)).cell (p:=⟨k,l+i*5+2,none⟩) J |>.trans g2;have z3:=(bC w (.cells #[.int .i64 p.aA,.slice n p.aE.length r,.slice (some ⟨k,l,none⟩) p.aB.length t,.slice q p.aO.length u,.int .i64 p.aI,.bool d.ok,.slice D d.aH.length A,.slice E d.aC.length B,.slice o3 d.aB.length C,.int .i64 (i:Int)] 107)).cell (p:=⟨k,l+i*5+3,none⟩) J |>.trans g3;have z4:=(bC w (.cells #[.int .i64 p.aA,.slice n p.aE.length r,.slice (some ⟨k,l,none⟩) p.aB.length t,.slice q p.aO.length u,.int .i64 p.aI,.bool d.ok,.slice D d.aH.length A,.slice E d.aC.length B,.slice o3 d.aB.length C,.int .i64 (i:Int)] 107)).cell (p:=⟨k,l+i*5+4,none⟩) J |>.trans g4
 have u2:=(cZ w 107 #[.int .i64 p.aA,.slice n p.aE.length r,.slice (some ⟨k,l,none⟩) p.aB.length t,.slice q p.aO.length u,.int .i64 p.aI,.bool d.ok,.slice D d.aH.length A,.slice E d.aC.length B,.slice o3 d.aB.length C,.int .i64 (i:Int)]).c 0 2 rfl rfl;have u9:=(cZ w 107 #[.int .i64 p.aA,.slice n p.aE.length r,.slice (some ⟨k,l,none⟩) p.aB.length t,.slice q p.aO.length u,.int .i64 p.aI,.bool d.ok,.slice D d.aH.length A,.slice E d.aC.length B,.slice o3 d.aB.length C,.int .i64 (i:Int)]).c 0 9 rfl rfl;rw[Nat.add_zero] at u2 u9;have b0:=F.c 0 0 rfl rfl;have b1:=F.c 0 1 rfl rfl;have b2:=F.c 0 2 rfl rfl;have b3:=F.c 0 3 rfl rfl;have b4:=F.c 0 4 rfl rfl;have b5:=F.c 0 5 rfl rfl;have b6:=F.c 0 6 rfl rfl;have b7:=F.c 0 7 rfl rfl;have b8:=F.c 0 8 rfl rfl;have b9:=F.c 0 9 rfl rfl;have e0:=F.c 1 0 rfl rfl;have e3:=F.c 1 3 rfl rfl;rw[Nat.add_zero] at b0 b1 b2 b3 b4 b5 b6 b7 b8 b9
 have aY:(i:Int)<(p.aB.length:Int):=by omega
 have f:=(F.call (cT _)).call (bC _ (.cells #[.slice s0 x.aA.length R,.slice P x.over.length S] 23));have h0:=f.c 0 0 rfl rfl;have h1:=f.c 0 1 rfl rfl;have h2:=f.c 0 2 rfl rfl;have h3:=f.c 0 3 rfl rfl;have h4:=f.c 0 4 rfl rfl;have h5:=f.c 0 5 rfl rfl;have h6:=f.c 0 6 rfl rfl;have h7:=f.c 0 7 rfl rfl;have h8:=f.c 0 8 rfl rfl;have h9:=f.c 0 9 rfl rfl;rw[Nat.add_zero] at h0 h1 h2 h3 h4 h5 h6 h7 h8 h9;clear a8 T g0 g1 g2 g3 g4 O z hp hf hx hd Z hl a9 F f;go_enter Tryz.func65,Tryz.ntmps65;go_wp2
 go_region_with (first | (go_at_call 111; refine aR.out.mono ?_; rintro e m ⟨G,L,rfl,H,U,a6,a4⟩; have aN:=aD U; have aL:=aD a6; have aM:=aD a4; have aP:=aD H; clear U a6 a4; have k0:=H.c 0 0 rfl rfl; have k1:=H.c 0 1 rfl rfl; have k2:=H.c 0 2 rfl rfl; have k3:=H.c 0 3 rfl rfl; have k4:=H.c 0 4 rfl rfl; have k5:=H.c 0 5 rfl rfl; have k6:=H.c 0 6 rfl rfl; have k7:=H.c 0 7 rfl rfl; have k8:=H.c 0 8 rfl rfl; have k9:=H.c 0 9 rfl rfl; rw[Nat.add_zero] at k0 k1 k2 k3 k4 k5 k6 k7 k8 k9; clear H) | (go_at_call 55; refine (Ab _ _ _ _ _).mono ?_; rintro e I ⟨rfl,K⟩; have aS:=aD K; clear K) | (go_at_call 110; refine (a0.out _ _ _ _ aP.out aN.out aL.out aM.out aS.out).mono ?_; rintro e w5 ⟨a5,c5,rfl,N⟩; have aG:=aD N; clear N))
 all_goals
  go_wp2;go_ret;exact⟨a5,c5,rfl,aG.out⟩
end
end Go.Proofs.YtdhinkgjiapigaaGreatDoor
