import Derived.Test.YtdhinkgjiapigaaGreatDoorTurn
import Derived.Test.YtdhinkgjiapigaaGreatDoorStood
import Derived.Test.YtdhinkgjiapigaaGreatDoorLockd
import Derived.Test.YtdhinkgjiapigaaGreatDoorWhyS
namespace Go.Proofs.YtdhinkgjiapigaaGreatDoor
open Classical Go.Deep Go.RowKit Go.Shelf
theorem xR {a b:Int}(h:a=b):Ending.returned (.int .i64 a)=.returned (.int .i64 b):=by rw[h]
set_option maxRecDepth 100000 in
set_option maxHeartbeats 8000000 in
theorem Ii (l m n u x o3:Option Addr) (y z A r s t:Nat) (p:aK) (d:aF) (i:Nat) (ih:Bool) (nb ns:Nat) (ts:List (Int×Int)) (lk sk:Int×Int->Bool) (w:World) (_hts:ts.length<=1048576)
  (S:∀W,Below w.heap.size w W->Calls Tryz.prog 97 #[.agg #[.bool d.ok,.slice u d.aH.length r,.slice x d.aC.length s,.slice o3 d.aB.length t],.int .i64 (i:Int)] W fun e w'=>e=.returned (.bool ih)∧Below W.heap.size W w')
  (Z:∀W,Below w.heap.size w W->Calls Tryz.prog 105 #[.agg #[.int .i64 p.aA,.slice l p.aE.length y,.slice m p.aB.length z,.slice n p.aO.length A,.int .i64 p.aI,.bool d.ok,.slice u d.aH.length r,.slice x d.aC.length s,.slice o3 d.aB.length t,.int .i64 (i:Int)]] W fun e w'=>∃v,e=.returned v∧Below W.heap.size W w'∧Lies (In w') w' v ts)
  (R:∀W,Below w.heap.size w W->Calls Tryz.prog 64 #[.agg #[.int .i64 p.aA,.slice l p.aE.length y,.slice m p.aB.length z,.slice n p.aO.length A,.int .i64 p.aI,.bool d.ok,.slice u d.aH.length r,.slice x d.aC.length s,.slice o3 d.aB.length t,.int .i64 (i:Int)]] W fun e w'=>∃a c,e=.returned (.slice a nb c)∧Below W.heap.size W w')
  (Y:∀W,Below w.heap.size w W->Calls Tryz.prog 65 #[.agg #[.int .i64 p.aA,.slice l p.aE.length y,.slice m p.aB.length z,.slice n p.aO.length A,.int .i64 p.aI,.bool d.ok,.slice u d.aH.length r,.slice x d.aC.length s,.slice o3 d.aB.length t,.int .i64 (i:Int)]] W fun e w'=>∃a c,e=.returned (.slice a ns c)∧Below W.heap.size W w')
  (T:∀W v,Below w.heap.size w W->Lies (In W) W v ts->Calls Tryz.prog 106 #[v,.func (.func 107) #[.agg #[.int .i64 p.aA,.slice l p.aE.length y,.slice m p.aB.length z,.slice n p.aO.length A,.int .i64 p.aI,.bool d.ok,.slice u d.aH.length r,.slice x d.aC.length s,.slice o3 d.aB.length t,.int .i64 (i:Int)]] #[]] W fun e w'=>e=.returned (.bool (ts.any lk))∧Below W.heap.size W w')
  (X:∀W v,Below w.heap.size w W->Lies (In W) W v ts->Calls Tryz.prog 106 #[v,.func (.func 108) #[.agg #[.int .i64 p.aA,.slice l p.aE.length y,.slice m p.aB.length z,.slice n p.aO.length A,.int .i64 p.aI,.bool d.ok,.slice u d.aH.length r,.slice x d.aC.length s,.slice o3 d.aB.length t,.int .i64 (i:Int)]] #[]] W fun e w'=>e=.returned (.bool (ts.any sk))∧Below W.heap.size W w') :
  Calls Tryz.prog 63 #[.agg #[.int .i64 p.aA,.slice l p.aE.length y,.slice m p.aB.length z,.slice n p.aO.length A,.int .i64 p.aI],.agg #[.bool d.ok,.slice u d.aH.length r,.slice x d.aC.length s,.slice o3 d.aB.length t],.int .i64 (i:Int)] w fun e w'=>e=.returned (.int .i64 (pT ih nb ns (ts.any lk) (ts.any sk)))∧Below w.heap.size w w':=by
 have q:=eB w 27 40 #[.int .i64 p.aA,.slice l p.aE.length y,.slice m p.aB.length z,.slice n p.aO.length A,.int .i64 p.aI] #[.bool d.ok,.slice u d.aH.length r,.slice x d.aC.length s,.slice o3 d.aB.length t];have b0:=q.c 0 0 rfl rfl;have b1:=q.c 0 1 rfl rfl;have b2:=q.c 0 2 rfl rfl;have b3:=q.c 0 3 rfl rfl;have b4:=q.c 0 4 rfl rfl;have e0:=q.c 1 0 rfl rfl;have e1:=q.c 1 1 rfl rfl;have e2:=q.c 1 2 rfl rfl;have e3:=q.c 1 3 rfl rfl;rw[Nat.add_zero] at b0 b1 b2 b3 b4;have T1:=iE w 27 40 107 #[.int .i64 p.aA,.slice l p.aE.length y,.slice m p.aB.length z,.slice n p.aO.length A,.int .i64 p.aI] #[.bool d.ok,.slice u d.aH.length r,.slice x d.aC.length s,.slice o3 d.aB.length t] #[.int .i64 p.aA,.slice l p.aE.length y,.slice m p.aB.length z,.slice n p.aO.length A,.int .i64 p.aI,.bool d.ok,.slice u d.aH.length r,.slice x d.aC.length s,.slice o3 d.aB.length t,.int .i64 (i:Int)];have aP:=aD T1;have aJ:=aD S;have M:=aD (Z _ T1.below);have aG:=aD R;have aN:=aD Y;have aL:=aD T;have aM:=aD X;clear S Z R Y T X q T1;go_enter Tryz.func63,Tryz.ntmps63
 go_wp2_with fail
 refine M.out.mono ?_;rintro e w2 ⟨v,rfl,k,hv⟩;obtain⟨av,cv,rfl⟩:=hv.size;have HV:=aD hv;have o:=aD (aP.out.call k);clear b0 b1 b2 b3 b4 e0 e1 e2 e3 k hv M;have e0:=o.out.c 1 0 rfl rfl; have e1:=o.out.c 1 1 rfl rfl; have e2:=o.out.c 1 2 rfl rfl; have e3:=o.out.c 1 3 rfl rfl
 go_wp2_with fail
 refine (aJ.out _ o.out.below).mono ?_;clear e0 e1 e2 e3;rintro e w3 ⟨rfl,k⟩;have b:=aD (o.out.call k);have N:=aD (HV.out.keep (Q:=In w3) (In.keep k).1 (In.keep k).2);clear k o HV
 cases ih
 case true=>
  go_wp2;go_ret;exact⟨rfl,b.out.below⟩
 have C:=b.out.c 2 0 rfl rfl; have l:=b.out.c 2 1 rfl rfl; have m:=b.out.c 2 2 rfl rfl; have n:=b.out.c 2 3 rfl rfl; have D:=b.out.c 2 4 rfl rfl; have E:=b.out.c 2 5 rfl rfl; have F:=b.out.c 2 6 rfl rfl; have G:=b.out.c 2 7 rfl rfl; have H:=b.out.c 2 8 rfl rfl; have I:=b.out.c 2 9 rfl rfl
 go_wp2_with fail
 refine (aG.out _ b.out.below).mono ?_;clear C l m n D E F G H I;rintro e w4 ⟨ab,cb,rfl,k⟩;have f:=aD (b.out.call k);have O:=aD (N.out.keep (Q:=In w4) (In.keep k).1 (In.keep k).2);clear k b N;by_cases U:0<nb
 ·have aQ:(0:Int)<(nb:Int):=by omega
  go_wp2;go_ret;exact⟨xR (a:=3) (by unfold pT; rw[if_neg (by simp),if_pos U]),f.out.below⟩
 obtain rfl:nb=0:=by omega
 clear U;have C:=f.out.c 2 0 rfl rfl; have l:=f.out.c 2 1 rfl rfl; have m:=f.out.c 2 2 rfl rfl; have n:=f.out.c 2 3 rfl rfl; have D:=f.out.c 2 4 rfl rfl; have E:=f.out.c 2 5 rfl rfl; have F:=f.out.c 2 6 rfl rfl; have G:=f.out.c 2 7 rfl rfl; have H:=f.out.c 2 8 rfl rfl; have I:=f.out.c 2 9 rfl rfl
 go_wp2_with fail
 refine (aN.out _ f.out.below).mono ?_;clear C l m n D E F G H I;rintro e w5 ⟨aS,cS,rfl,k⟩;have g:=aD (f.out.call k);have B:=aD (O.out.keep (Q:=In w5) (In.keep k).1 (In.keep k).2);clear k f O;by_cases V:0<ns
 ·have aR:(0:Int)<(ns:Int):=by omega
  go_wp2;go_ret;exact⟨xR (a:=4) (by unfold pT; rw[if_neg (by simp),if_neg (by simp),if_pos V]),g.out.below⟩
 obtain rfl:ns=0:=by omega
 clear V;have C:=g.out.c 2 0 rfl rfl; have l:=g.out.c 2 1 rfl rfl; have m:=g.out.c 2 2 rfl rfl; have n:=g.out.c 2 3 rfl rfl; have D:=g.out.c 2 4 rfl rfl; have E:=g.out.c 2 5 rfl rfl; have F:=g.out.c 2 6 rfl rfl; have G:=g.out.c 2 7 rfl rfl; have H:=g.out.c 2 8 rfl rfl; have I:=g.out.c 2 9 rfl rfl
 go_wp2_with fail
 refine (aL.out _ _ g.out.below B.out).mono ?_;clear C l m n D E F G H I;rintro e w6 ⟨rfl,k⟩;have h:=aD (g.out.call k);have P:=aD (B.out.keep (Q:=In w6) (In.keep k).1 (In.keep k).2);clear k g B;generalize hL:ts.any lk=L
 cases L
 case true=>
  go_wp2;go_ret;exact⟨xR (a:=5) (by rw[hL]; rfl),h.out.below⟩
 have C:=h.out.c 2 0 rfl rfl; have l:=h.out.c 2 1 rfl rfl; have m:=h.out.c 2 2 rfl rfl; have n:=h.out.c 2 3 rfl rfl; have D:=h.out.c 2 4 rfl rfl; have E:=h.out.c 2 5 rfl rfl; have F:=h.out.c 2 6 rfl rfl; have G:=h.out.c 2 7 rfl rfl; have H:=h.out.c 2 8 rfl rfl; have I:=h.out.c 2 9 rfl rfl
 go_wp2_with fail
 refine (aM.out _ _ h.out.below P.out).mono ?_;clear C l m n D E F G H I;rintro e w7 ⟨rfl,k⟩;have J:=aD (h.out.call k);clear k h P;generalize hK:ts.any sk=K
 cases K
 case true=>
  go_wp2;go_ret;exact⟨xR (a:=6) (by rw[hL,hK]; rfl),J.out.below⟩
 go_wp2;go_ret;exact⟨xR (a:=0) (by rw[hL,hK]; rfl),J.out.below⟩
theorem Ft (p:aK) (d:aF) (q:Int):(gS p d q).length<=p.aB.length:=by
 unfold gS;rw[List.length_map];exact Nat.le_trans (List.length_filter_le _ _) (by rw[List.length_range]; exact Nat.le_refl _)
theorem G8 (l:List Nat):(oL l).length=l.length:=by unfold oL; rw[List.length_map]
theorem Hv (p1 Y p3 f1 Z f3:Value) (p:aK) (d:aF) (i:Nat) (x:aT) (h:aM) (w:World) (N:aZ (In w) w p1 Y p3 p) (hc:cE (In w) w Y p.aB) (M:bB (In w) w f1 Z f3 d) (f:p.Small 1048576) (G:d.Small 1048576) (B:cJ p d) (R:p.aB[i]?=some x) (hh:d.aB[i]?=some h) :
  Calls Tryz.prog 63 #[.agg #[.int .i64 p.aA,p1,Y,p3,.int .i64 p.aI],.agg #[.bool d.ok,f1,Z,f3],.int .i64 (i:Int)] w fun e w'=>e=.returned (.int .i64 (kQ p d i x h))∧Below w.heap.size w w':=by
 have H:=fun (W:World) (h:Below w.heap.size w W)=>N.keep (Q:=In W) (In.keep h).1 (In.keep h).2;have KC:=fun (W:World) (h:Below w.heap.size w W)=>hc.keep (Q:=In W) (In.keep h).1 (In.keep h).2;have E:=fun (W:World) (h:Below w.heap.size w W)=>M.keep (Q:=In W) (In.keep h).1 (In.keep h).2;obtain⟨a1,c1,rfl⟩:=N.1.size;obtain⟨a2,c2,rfl⟩:=N.2.1.size;obtain⟨a3,c3,rfl⟩:=N.2.2.size;obtain⟨o1,m1,rfl⟩:=M.1.size;obtain⟨o2,m2,rfl⟩:=M.2.1.size;obtain⟨o3,m3,rfl⟩:=M.2.2.size;have hi:i<p.aB.length:=(List.getElem?_eq_some_iff.1 R).1;have A:=B.1.way R;have r:=B.1.parts.1.2.2.1;have V:=B.1.parts.2.1;have T:d.aC.length=p.aE.length:=B.2.2.2.1;have a4:(d.aH.length:Int)=p.aA:=B.2.2.1
 have n:∀l,bJ p.aA l->∀s∈l,0<=s∧s<d.aH.length:=fun l S s f=>by
  obtain⟨j,I⟩:=List.getElem?_of_mem f;have:=(S.1 j (List.getElem?_eq_some_iff.1 I).1 s I).1;exact⟨this.1,by have:=this.2; omega⟩
 have k:∀l,dJ p.aE.length l->∀y∈l,0<=y.1∧y.1<p.aE.length:=fun l S y c=>by
  obtain⟨j,I⟩:=List.getElem?_of_mem c;have:=(S.1 j (List.getElem?_eq_some_iff.1 I).1 y I).1.1;exact⟨this.1,by have:=this.2; omega⟩
 have z:x.Small 30:=⟨A.2.1.2,A.2.2.2.2.1.2,A.2.2.2.2.2.1.2,A.2.2.1.2,A.2.2.2.1.2⟩
 have J:∀y,(y∈x.aQ∨y∈x.aJ)->0<=y.1∧y.1<p.aE.length:=fun y c=>by
  rcases c with c | c
  ·exact k _ A.2.2.2.2.1 y c
  ·exact k _ A.2.2.2.2.2.1 y c
 have L:∀y∈oI d.aC x,0<=y.1∧y.1<p.aE.length:=fun y c=>J y (List.mem_append.1 (List.mem_filter.1 c).1);have D:(oI d.aC x).length<=1048576:=Nat.le_trans (List.length_filter_le _ _) (by rw[List.length_append]; have:=z.2.1; have:=z.2.2.1; omega)
 refine Ii a1 a2 a3 o1 o2 o3 c1 c2 c3 m1 m2 m3 p d i (h.state != 0) (qY p d i).length (tY d.aH x).length (oI d.aC x) (vC p d i) (tZ p d) w D
  (fun W a=>BK _ _ _ _ d.aB i h W (E W a).2.2 hh G.2.2.1) ?_ ?_ ?_ ?_ ?_
 ·intro W a;refine (Ic _ _ _ _ _ _ p d i x W (H W a) (E W a) G R z (fun y c=>by rw[T]; exact J y c) r).mono ?_;rintro e w' ⟨v,rfl,u,m,P⟩;exact⟨v,rfl,u,(BF P).keep (hU _ _) fun b u=>u.2⟩
 ·intro W a;refine (FL _ _ _ _ _ _ p d i W (H W a) (E W a) f G B hi).mono ?_;rintro e w' ⟨v,rfl,u,m,P⟩
  have hm:m=(qY p d i).length:=by have:=P.1; rw[G8] at this; omega
  subst hm;rcases P.2 with ⟨rfl,h0⟩ | ⟨g,a0,cur,rfl,-⟩
  ·exact⟨none,0,by rw[h0],u⟩
  ·exact⟨_,_,rfl,u⟩
 ·intro W a
  exact FA _ _ _ _ _ _ p d i x W (H W a) (E W a) G R z (fun s f=>by
   rcases List.mem_append.1 f with f | f
   ·exact n _ A.2.1 s f
   ·exact n _ A.2.2.1 s f) r
 ·intro W v a X;refine AY 107 _ v (oI d.aC x) (vC p d i) W X D (enters_of Tryz.func107 (by kernel_rfl) rfl) fun y W' c u=>?_;have F:=a.trans (u.mono a.size);obtain⟨h1,h2⟩:=L y c;obtain⟨q,O⟩:∃q:Nat,y.1=q:=⟨y.1.toNat,by omega⟩;unfold vC;rw[O];exact Gk _ _ _ _ _ _ p d i q y.2 W' (H W' F) (KC W' F) (E W' F) f G B (by omega) (Nat.le_trans (Ft _ _ _) f.2.1)
 ·intro W v a X;refine AY 108 _ v (oI d.aC x) (tZ p d) W X D (enters_of Tryz.func108 (by kernel_rfl) rfl) fun y W' c u=>?_;have F:=a.trans (u.mono a.size);obtain⟨h1,h2⟩:=L y c;obtain⟨q,O⟩:∃q:Nat,y.1=q:=⟨y.1.toNat,by omega⟩;obtain⟨s,C⟩:=bG p.aE (aD rfl) (show q<p.aE.length by omega);have K:bN s 0 (p.aA-1):=Classical.byContradiction fun e=>V q ⟨s,C,e⟩;obtain⟨t,ht⟩:∃t:Nat,s=t:=⟨s.toNat,by have:=K.1; omega⟩;obtain⟨o,ho⟩:=bG d.aH (aD rfl) (show t<d.aH.length by have:=K.2; omega)
  have U:tZ p d y=o:=by
   unfold tZ;rw[O,show ((q:Int)).toNat=q by simp,List.getD_eq_getElem?_getD,List.getD_eq_getElem?_getD,C,ht];show (d.aH[((t:Int)).toNat]?).getD false=o;rw[show ((t:Int)).toNat=t by simp,ho]; rfl
  rw[U,O];exact IH _ _ _ _ _ _ _ _ _ i p.aE d.aH q t y.2 o W' (H W' F).1 (E W' F).1 (by rw[C,ht]) ho f.1 G.1 ⟨_,rfl⟩ ⟨_,rfl⟩ ⟨_,rfl⟩ ⟨_,_,_,rfl⟩ ⟨_,_,_,rfl⟩ ⟨_,_,_,rfl⟩ ⟨_,_,_,rfl⟩
end Go.Proofs.YtdhinkgjiapigaaGreatDoor
