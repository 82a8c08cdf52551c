import Derived.Test.YtdhinkgjiapigaaGreatDoorShK
import Derived.Test.YtdhinkgjiapigaaGreatDoorFrIC
namespace Go.Proofs.YtdhinkgjiapigaaGreatDoor
open Classical Go.Deep Go.RowKit Go.Shelf
theorem qN {p:aK}{d:aF}(a:cJ p d) (i:Nat) (h:aM) (b:d.aB[i]?=some h):bN h.state 0 4:=by
 have hi:=(List.getElem?_eq_some_iff.1 b).1;obtain⟨x,c⟩:=eU p.aB (show i<p.aB.length by have:=a.2.2.2.2.1; omega);exact (a.2.2.2.2.2.2.1 i hi x h c b).1.1
set_option maxRecDepth 100000 in
set_option maxHeartbeats 2000000 in
theorem nQ (p1 p2 p3 f1 f2 f3:Value) (p:aK) (d:aF) (w:World) (O:aZ (In w) w p1 p2 p3 p) (r:cE (In w) w p2 p.aB) (M:bB (In w) w f1 f2 f3 d) (hs:p.Small 1048576) (hd:d.Small 1048576) (q:cJ p d) (R:cF w) (a6 : 0<w.heap.size) :
  Calls Tryz.prog 46 #[.agg #[.int .i64 p.aA,p1,p2,p3,.int .i64 p.aI],.agg #[.bool d.ok,f1,f2,f3]] w fun e w'=>e=.returned (.string (tx (lF p d)))∧Below w.heap.size w w':=by
 obtain⟨S,V,rfl⟩:=O.1.size;obtain⟨T,X,rfl⟩:=O.2.1.size;obtain⟨U,Y,rfl⟩:=O.2.2.size;obtain⟨o1,m1,rfl⟩:=M.1.size;obtain⟨o2,m2,rfl⟩:=M.2.1.size;obtain⟨o3,m3,rfl⟩:=M.2.2.size;have T0:=eB w 27 40 #[.int .i64 p.aA,.slice S p.aE.length V,.slice T p.aB.length X,.slice U p.aO.length Y,.int .i64 p.aI] #[.bool d.ok,.slice o1 d.aH.length m1,.slice o2 d.aC.length m2,.slice o3 d.aB.length m3];have u:=Lib.fresh_isBuilder 81 5 ((w.alloc (.cells #[.int .i64 p.aA,.slice S p.aE.length V,.slice T p.aB.length X,.slice U p.aO.length Y,.int .i64 p.aI] 27)).alloc (.cells #[.bool d.ok,.slice o1 d.aH.length m1,.slice o2 d.aC.length m2,.slice o3 d.aB.length m3] 40));have l:=T0.call (bC _ (.cells #[.pointer none,.slice none 0 0] 81));obtain⟨m,n⟩:∃W,W=((w.alloc (.cells #[.int .i64 p.aA,.slice S p.aE.length V,.slice T p.aB.length X,.slice U p.aO.length Y,.int .i64 p.aI] 27)).alloc (.cells #[.bool d.ok,.slice o1 d.aH.length m1,.slice o2 d.aC.length m2,.slice o3 d.aB.length m3] 40)).alloc (.cells #[.pointer none,.slice none 0 0] 81):=⟨_,rfl⟩
 have hz:m.heap.size=w.heap.size+3:=by rw[n]; simp
 have P:((w.alloc (.cells #[.int .i64 p.aA,.slice S p.aE.length V,.slice T p.aB.length X,.slice U p.aO.length Y,.int .i64 p.aI] 27)).alloc (.cells #[.bool d.ok,.slice o1 d.aH.length m1,.slice o2 d.aC.length m2,.slice o3 d.aB.length m3] 40)).heap.size=w.heap.size+1+1:=by simp
 rw[P,← n] at u;rw[← n] at l;clear T0 P;have L:=l.below;have J:=aD fun (W:World) (k:Below (w.heap.size+1+1) m W)=>L.trans (k.mono (show w.heap.size<=w.heap.size+1+1 by omega));have KP:=aD fun (W:World) (k:Below (w.heap.size+1+1) m W)=>O.keep (Q:=fun c=>c<w.heap.size+1+1) (In.keep (J.out W k)).1 fun c r=>Nat.lt_of_lt_of_le (show c<w.heap.size from r) (by omega);have KC:=aD fun (W:World) (k:Below (w.heap.size+1+1) m W)=>r.keep (Q:=fun c=>c<w.heap.size+1+1) (In.keep (J.out W k)).1 fun c r=>Nat.lt_of_lt_of_le (show c<w.heap.size from r) (by omega);have KF:=aD fun (W:World) (k:Below (w.heap.size+1+1) m W)=>M.keep (Q:=fun c=>c<w.heap.size+1+1) (In.keep (J.out W k)).1 fun c r=>Nat.lt_of_lt_of_le (show c<w.heap.size from r) (by omega);have K:=aD fun (W:World) (k:Below (w.heap.size+1+1) m W)=>R.below (J.out W k) a6
 have o : 0<w.heap.size+1+1:=by omega
 have a8:d.aH.length<=100:=by have h1:=q.2.2.1; have h2:p.aA<=60:=q.1.parts.1.1.2; omega
 have a9:d.aC.length<=100:=by rw[q.2.2.2.1]; have:=q.1.parts.1.2.1; omega
 have a5:d.aB.length<=100:=by rw[q.2.2.2.2.1]; have:=q.1.parts.1.2.2.1; omega
 have C:=aD (KA (w.heap.size+1+1) (w.heap.size+1+1) [] _ _ _ _ _ _ p d m u (Nat.zero_le _) (by omega) (KP.out m (Below.refl _ _)) (KC.out m (Below.refl _ _)) (KF.out m (Below.refl _ _)) hs hd q (K.out m (Below.refl _ _)) o);have HR:=aD q;have HS:=aD hs;have HD:=aD hd;clear O r M hs hd q R u L;go_enter Tryz.func46,Tryz.ntmps46
 go_upto_region 3 with fail
 rw[← n];clear n;have b0:=l.c 0 0 rfl rfl;have b1:=l.c 0 1 rfl rfl;have b2:=l.c 0 2 rfl rfl;have b3:=l.c 0 3 rfl rfl;have b4:=l.c 0 4 rfl rfl;have q0:=l.c 1 0 rfl rfl;have q1:=l.c 1 1 rfl rfl;have q2:=l.c 1 2 rfl rfl;have q3:=l.c 1 3 rfl rfl;rw[Nat.add_zero] at b0 b1 b2 b3 b4;clear l
 go_wp2_with fail
 refine C.out.mono ?_;rintro e w3 ⟨rfl,b,g,h⟩;rw[List.nil_append] at b;have D:=aD (uF (w.heap.size+1+1) (w.heap.size+1+1) _ 12 32 w3 b (by rw[pV]; omega) (by have:=h.size; omega) rfl (K.out w3 g));have x:=aD g;have I:=aD h.size;clear b g h C
 go_wp2_with fail
 refine D.out.mono ?_;rintro e v ⟨rfl,b,g,h⟩;have a:=x.out.trans g
 have aG:w.heap.size+3<=v.heap.size:=by have:=h.size; have:=I.out; omega
 have E:=aD (Jz (w.heap.size+1+1) (w.heap.size+1+1) _ _ _ _ _ _ _ p d v b (by rw[List.length_append,pV]; show _+1<=_; omega) (by omega) (KP.out v a) (KC.out v a) (KF.out v a) HS.out HD.out HR.out (K.out v a) o);have y0:=(a.cell (p:=⟨w.heap.size,0,none⟩) (by show w.heap.size<_; omega)).trans b0;have y1:=(a.cell (p:=⟨w.heap.size,1,none⟩) (by show w.heap.size<_; omega)).trans b1;have y2:=(a.cell (p:=⟨w.heap.size,2,none⟩) (by show w.heap.size<_; omega)).trans b2;have y3:=(a.cell (p:=⟨w.heap.size,3,none⟩) (by show w.heap.size<_; omega)).trans b3;have y4:=(a.cell (p:=⟨w.heap.size,4,none⟩) (by show w.heap.size<_; omega)).trans b4;have x0:=(a.cell (p:=⟨w.heap.size+1,0,none⟩) (by show w.heap.size+1<_; omega)).trans q0;have x1:=(a.cell (p:=⟨w.heap.size+1,1,none⟩) (by show w.heap.size+1<_; omega)).trans q1;have x2:=(a.cell (p:=⟨w.heap.size+1,2,none⟩) (by show w.heap.size+1<_; omega)).trans q2;have x3:=(a.cell (p:=⟨w.heap.size+1,3,none⟩) (by show w.heap.size+1<_; omega)).trans q3;have y:=aD a;clear b g h D x I a b0 b1 b2 b3 b4
 go_wp2_with fail
 refine E.out.mono ?_;rintro e w5 ⟨rfl,b,g,h⟩;clear y0 y1 y2 y3 y4 x0 x1 x2 x3;have s:=y.out.trans g
 have aJ:w.heap.size+3<=w5.heap.size:=by have:=h.size; omega
 have a7:=vZ p d d.aC.length;have F:=aD (uF (w.heap.size+1+1) (w.heap.size+1+1) _ 12 32 w5 b (by rw[List.length_append,List.length_append,pV]; show _+1+_<=_; omega) (by omega) rfl (K.out w5 s));have z:=aD s;clear b g h E y s
 go_wp2_with fail
 refine F.out.mono ?_;rintro e w6 ⟨rfl,b,g,h⟩;have f:=z.out.trans g
 have aL:w.heap.size+3<=w6.heap.size:=by have:=h.size; omega
 have G:=aD (KR (w.heap.size+1+1) (w.heap.size+1+1) _ _ _ _ d w6 b (by rw[List.length_append,List.length_append,List.length_append,pV]; show _+1+_+1<=_; omega) (by omega) (KF.out w6 f) (qN HR.out) a5 (K.out w6 f) o);have x0:=(f.cell (p:=⟨w.heap.size+1,0,none⟩) (by show w.heap.size+1<_; omega)).trans q0;have x1:=(f.cell (p:=⟨w.heap.size+1,1,none⟩) (by show w.heap.size+1<_; omega)).trans q1;have x2:=(f.cell (p:=⟨w.heap.size+1,2,none⟩) (by show w.heap.size+1<_; omega)).trans q2;have x3:=(f.cell (p:=⟨w.heap.size+1,3,none⟩) (by show w.heap.size+1<_; omega)).trans q3;have A:=aD f;clear b g h F z f q0 q1 q2 q3
 go_wp2_with fail
 refine G.out.mono ?_;rintro e w7 ⟨rfl,b,g,h⟩;clear x0 x1 x2 x3;obtain⟨t,Z⟩:∃t,t=lF p d:=⟨_,rfl⟩;change eN _ _ (lF p d) w7 at b;rw[← Z] at b
 have N:t≠[]:=by
  rw[Z];intro e;have:=congrArg List.length e;unfold lF at this;rw[List.length_append,List.length_append] at this;change _+1+_=0 at this;omega
 have H:=aD (Ev (w.heap.size+1+1) (w.heap.size+1+1) _ w7 b N);have a4:=aD Z;clear Z N;have B:=aD (A.out.trans g);clear b g h G A
 go_wp2_with fail
 refine H.out.mono ?_;rintro e w8 ⟨rfl,b⟩;have a0:=aD (J.out w8 (B.out.trans b));clear b H B;go_wp2;go_ret;exact⟨AA a4.out,a0.out⟩
end Go.Proofs.YtdhinkgjiapigaaGreatDoor
