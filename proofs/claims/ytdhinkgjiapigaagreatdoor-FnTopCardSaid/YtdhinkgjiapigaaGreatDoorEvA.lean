import Derived.Test.YtdhinkgjiapigaaGreatDoorSpec3
import Derived.Test.YtdhinkgjiapigaaGreatDoorImpl
namespace Go.Proofs.YtdhinkgjiapigaaGreatDoor
open Classical Go.Deep Go.RowKit
def fI (s m n:Int) (op of lie:Int):Prop:=
 ((op=1∨op=2)∧bN of 0 (n-1)∧lie=0)∨((op=3∨op=4)∧bN of 0 (s-1)∧lie=0)∨(op=5∧bN of 0 (m-1)∧bN lie 0 2)∨(op=6∧bN of 0 (m-1)∧bN lie 1 2)∨(op=7∧of=0∧lie=0)
theorem ev1 {s m n c of b:Int}(h:c=1∨c=2):fI s m n c of b↔bN of 0 (n-1)∧b=0:=by
 unfold fI; constructor
 ·rintro (a | a | a | a | a)
  ·exact a.2
  all_goals exfalso; omega
 ·exact fun k=>.inl ⟨h,k⟩
theorem Bu {s m n c of b:Int}(h:c=3∨c=4):fI s m n c of b↔bN of 0 (s-1)∧b=0:=by
 unfold fI; constructor
 ·rintro (a | a | a | a | a)
  rotate_left
  ·exact a.2
  all_goals exfalso; omega
 ·exact fun k=>.inr (.inl ⟨h,k⟩)
theorem Bv {s m n of b:Int}:fI s m n 5 of b↔bN of 0 (m-1)∧bN b 0 2:=by
 unfold fI; constructor
 ·rintro (a | a | a | a | a)
  rotate_left 2
  ·exact a.2
  all_goals exfalso; omega
 ·exact fun k=>.inr (.inr (.inl ⟨rfl,k⟩))
theorem By {s m n of b:Int}:fI s m n 6 of b↔bN of 0 (m-1)∧bN b 1 2:=by
 unfold fI; constructor
 ·rintro (a | a | a | a | a)
  rotate_left 3
  ·exact a.2
  all_goals exfalso; omega
 ·exact fun k=>.inr (.inr (.inr (.inl ⟨rfl,k⟩)))
theorem Bz {s m n of b:Int}:fI s m n 7 of b↔of=0∧b=0:=by
 unfold fI; constructor
 ·rintro (a | a | a | a | a)
  rotate_left 4
  ·exact a.2
  all_goals exfalso; omega
 ·exact fun k=>.inr (.inr (.inr (.inr ⟨rfl,k⟩)))
theorem ev0 {s m n b of c:Int}(d:b≠1) (e:b≠2) (f:b≠3) (g:b≠4) (h:b≠5) (i:b≠6) (j:b≠7):¬fI s m n b of c:=by
 unfold fI
 rintro (a | a | a | a | a) <;> omega
set_option maxRecDepth 100000 in
set_option maxHeartbeats 4000000 in
theorem G5 (s:Int) (v x:Option Addr) (m n y z:Nat) (v3 A:Value) (c of a:Int) (w:World) (F:m<=1048576) (G:n<=1048576) (D:1<=s) (E:s<=60) :
  Calls Tryz.prog 81 #[.agg #[.int .i64 s,.slice v m y,.slice x n z,v3,A],.agg #[.int .i64 c,.int .i64 of,.int .i64 a]] w fun e w'=>e=.returned (.bool (B (fI s m n c of a)))∧Below w.heap.size w w':=by
 have d:=eB w 27 55 #[.int .i64 s,.slice v m y,.slice x n z,v3,A] #[.int .i64 c,.int .i64 of,.int .i64 a];by_cases p:c=1∨c=2
 ·have f:B (fI s m n c of a)=B (bN of 0 ((n:Int)-1)∧a=0):=lH (ev1 p);rw[f];clear f
  rcases p with rfl | rfl <;>
  ·go_enter Tryz.func81,Tryz.ntmps81
   go_wp2_with fail
   refine (mG of 0 ((n:Int)-1) _).mono ?_;rintro e w' ⟨rfl,rfl⟩;by_cases q:bN of 0 ((n:Int)-1)
   case neg=>
    rw[bE q];have Q:=aD q;clear q;go_wp2;go_ret;exact⟨bI (bE fun h=>Q.out h.1).symm,d.below⟩
   rw[bQ q];have Q:=aD q;clear q;by_cases b:a=0
   ·have i:(a == 0)=true:=by simpa using b
    have g:=aD b;clear b;go_wp2;go_ret;exact⟨bI (bQ ⟨Q.out,g.out⟩).symm,d.below⟩
   have i:(a == 0)=false:=by simpa using b
   have g:=aD b;clear b;go_wp2;go_ret;exact⟨bI (bE fun h=>g.out h.2).symm,d.below⟩
 by_cases r:c=3∨c=4
 ·have f:B (fI s m n c of a)=B (bN of 0 (s-1)∧a=0):=lH (Bu r);rw[f];clear f
  rcases r with rfl | rfl <;>
  ·go_enter Tryz.func81,Tryz.ntmps81
   go_wp2_with fail
   refine (mG of 0 (s-1) _).mono ?_;rintro e w' ⟨rfl,rfl⟩;by_cases q:bN of 0 (s-1)
   case neg=>
    rw[bE q];have Q:=aD q;clear q;go_wp2;go_ret;exact⟨bI (bE fun h=>Q.out h.1).symm,d.below⟩
   rw[bQ q];have Q:=aD q;clear q;by_cases b:a=0
   ·have i:(a == 0)=true:=by simpa using b
    have g:=aD b;clear b;go_wp2;go_ret;exact⟨bI (bQ ⟨Q.out,g.out⟩).symm,d.below⟩
   have i:(a == 0)=false:=by simpa using b
   have g:=aD b;clear b;go_wp2;go_ret;exact⟨bI (bE fun h=>g.out h.2).symm,d.below⟩
 have k:c≠1:=fun h=>p (.inl h);have l:c≠2:=fun h=>p (.inr h);have o:c≠3:=fun h=>r (.inl h);have n4:c≠4:=fun h=>r (.inr h);clear p r;by_cases j:c=5
 ·subst j;clear k l o n4;have f:B (fI s m n 5 of a)=B (bN of 0 ((m:Int)-1)∧bN a 0 2):=lH Bv;rw[f];clear f;go_enter Tryz.func81,Tryz.ntmps81
  go_wp2_with fail
  refine (mG of 0 ((m:Int)-1) _).mono ?_;rintro e w' ⟨rfl,rfl⟩;by_cases q:bN of 0 ((m:Int)-1)
  case neg=>
   rw[bE q];have Q:=aD q;clear q;go_wp2;go_ret;exact⟨bI (bE fun h=>Q.out h.1).symm,d.below⟩
  rw[bQ q];have Q:=aD q;clear q
  go_wp2_with fail
  refine (mG a 0 2 _).mono ?_;rintro e w' ⟨rfl,rfl⟩;go_wp2;go_ret;exact⟨bI (lH ⟨fun h=>⟨Q.out,h⟩,fun h=>h.2⟩),d.below⟩
 by_cases t:c=6
 ·subst t;clear k l o n4 j;have f:B (fI s m n 6 of a)=B (bN of 0 ((m:Int)-1)∧bN a 1 2):=lH By;rw[f];clear f;go_enter Tryz.func81,Tryz.ntmps81
  go_wp2_with fail
  refine (mG of 0 ((m:Int)-1) _).mono ?_;rintro e w' ⟨rfl,rfl⟩;by_cases q:bN of 0 ((m:Int)-1)
  case neg=>
   rw[bE q];have Q:=aD q;clear q;go_wp2;go_ret;exact⟨bI (bE fun h=>Q.out h.1).symm,d.below⟩
  rw[bQ q];have Q:=aD q;clear q
  go_wp2_with fail
  refine (mG a 1 2 _).mono ?_;rintro e w' ⟨rfl,rfl⟩;go_wp2;go_ret;exact⟨bI (lH ⟨fun h=>⟨Q.out,h⟩,fun h=>h.2⟩),d.below⟩
 by_cases u:c=7
 ·subst u;clear k l o n4 j t;have f:B (fI s m n 7 of a)=B (of=0∧a=0):=lH Bz;rw[f];clear f;go_enter Tryz.func81,Tryz.ntmps81;by_cases b:of=0
  case neg=>
   have i:(of == 0)=false:=by simpa using b
   have g:=aD b;clear b;go_wp2;go_ret;exact⟨bI (bE fun h=>g.out h.1).symm,d.below⟩
  have H:(of == 0)=true:=by simpa using b
  have C:=aD b;clear b;by_cases b:a=0
  ·have i:(a == 0)=true:=by simpa using b
   have g:=aD b;clear b;go_wp2;go_ret;exact⟨bI (bQ ⟨C.out,g.out⟩).symm,d.below⟩
  have i:(a == 0)=false:=by simpa using b
  have g:=aD b;clear b;go_wp2;go_ret;exact⟨bI (bE fun h=>g.out h.2).symm,d.below⟩
 rw[bE (ev0 k l o n4 j t u)]
 have I:(c == 1)=false:=by simpa using k
 have J:(c == 2)=false:=by simpa using l
 have K:(c == 3)=false:=by simpa using o
 have L:(c == 4)=false:=by simpa using n4
 have M:(c == 5)=false:=by simpa using j
 have N:(c == 6)=false:=by simpa using t
 have O:(c == 7)=false:=by simpa using u
 clear k l o n4 j t u;go_enter Tryz.func81,Tryz.ntmps81;go_wp2;go_ret;exact⟨rfl,d.below⟩
set_option maxHeartbeats 1000000 in
theorem Ai (v1 v2 v3:Value) (d:aK) (w:World) (s:aZ (In w) w v1 v2 v3 d) (t:d.Small 1048576) (r:w.cell? ⟨1,0,none⟩=some rF) :
  Calls Tryz.prog 40 #[.agg #[.int .i64 d.aA,v1,v2,v3,.int .i64 d.aI]] w fun e w'=>e=.returned (.bool (B (Right d)))∧Below w.heap.size w w':=by
 have f:=cZ w 27 #[.int .i64 d.aA,v1,v2,v3,.int .i64 d.aI];have j:=s.keep (In.keep f.below).1 (In.keep f.below).2;have i:=ck r f.below;clear s r;go_enter Tryz.func40,Tryz.ntmps40
 go_wp2_with fail
 refine (FZ v1 v2 v3 d _ j t i).mono ?_;rintro e x ⟨c,a,rfl,m,q⟩;have n:=DN (EU.2 m);have k:c=0->a=0:=fun b=>(bR.uniq _ _ _ _ _ _ (EU.2 m) (n.1 b)).2;have o:=aD n;have u:=aD k;have p:=f.call q;clear n m j t i k f q;by_cases b:c=0
 ·have k:=u.out b;subst b k;have g:B (Right d)=true:=bQ (o.out.1 rfl);have l:=aD g;clear g;go_wp2;go_ret;exact⟨bI (by rw[l.out]),p.below⟩
 ·have v:(c == 0)=false:=by simpa using b
  have g:B (Right d)=false:=bE fun h=>b (o.out.2 h);have l:=aD g;clear g;go_wp2;go_ret;exact⟨bI (by rw[l.out]),p.below⟩
set_option maxRecDepth 100000 in
set_option maxHeartbeats 4000000 in
theorem GR (s:Int) (A E:Option Addr) (m n C F:Nat) (v3 r:Value) (c of a:Int) (w:World) (I:m<=1048576) (M:n<=1048576) :
  Calls Tryz.prog 67 #[.agg #[.int .i64 s,.slice A m C,.slice E n F,v3,r],.agg #[.int .i64 c,.int .i64 of,.int .i64 a]] w fun e w'=>e=.returned (.bool (B (fI s m n c of a)))∧Below w.heap.size w w':=by
 have l:=eB w 27 55 #[.int .i64 s,.slice A m C,.slice E n F,v3,r] #[.int .i64 c,.int .i64 of,.int .i64 a];by_cases x:c=1∨c=2
 ·have f:B (fI s m n c of a)=B (bN of 0 ((n:Int)-1)∧a=0):=lH (ev1 x);rw[f];clear f
  rcases x with rfl | rfl <;>
  ·go_enter Tryz.func67,Tryz.ntmps67
   go_wp2_with fail
   refine (IP _ E n F _ v3 r of _ M).mono ?_;rintro e G ⟨rfl,o⟩;have d:=l.call o;clear o l;by_cases q:bN of 0 ((n:Int)-1)
   case neg=>
    rw[bE q];have Q:=aD q;clear q;go_wp2;go_ret;exact⟨bI (bE fun h=>Q.out h.1).symm,d.below⟩
   rw[bQ q];have Q:=aD q;clear q;have H:=d.c 1 2 rfl rfl;by_cases b:a=0
   ·have k:(a == 0)=true:=by simpa using b
    have g:=aD b;clear b;go_wp2;go_ret;exact⟨bI (bQ ⟨Q.out,g.out⟩).symm,d.below⟩
   have k:(a == 0)=false:=by simpa using b
   have g:=aD b;clear b;go_wp2;go_ret;exact⟨bI (bE fun h=>g.out h.2).symm,d.below⟩
 by_cases y:c=3∨c=4
 ·have f:B (fI s m n c of a)=B (bN of 0 (s-1)∧a=0):=lH (Bu y);rw[f];clear f
  rcases y with rfl | rfl <;>
  ·go_enter Tryz.func67,Tryz.ntmps67
   go_wp2_with fail
   refine (A7 s of _ _ v3 r _).mono ?_;rintro e G ⟨rfl,o⟩;have d:=l.call o;clear o l;by_cases q:bN of 0 (s-1)
   case neg=>
    rw[bE q];have Q:=aD q;clear q;go_wp2;go_ret;exact⟨bI (bE fun h=>Q.out h.1).symm,d.below⟩
   rw[bQ q];have Q:=aD q;clear q;have H:=d.c 1 2 rfl rfl;by_cases b:a=0
   ·have k:(a == 0)=true:=by simpa using b
    have g:=aD b;clear b;go_wp2;go_ret;exact⟨bI (bQ ⟨Q.out,g.out⟩).symm,d.below⟩
   have k:(a == 0)=false:=by simpa using b
   have g:=aD b;clear b;go_wp2;go_ret;exact⟨bI (bE fun h=>g.out h.2).symm,d.below⟩
 have t:c≠1:=fun h=>x (.inl h);have u:c≠2:=fun h=>x (.inr h);have v:c≠3:=fun h=>y (.inl h);have n4:c≠4:=fun h=>y (.inr h);clear x y;by_cases p:c=5
 ·subst p;clear t u v n4;have f:B (fI s m n 5 of a)=B (bN of 0 ((m:Int)-1)∧bN a 0 2):=lH Bv;rw[f];clear f;go_enter Tryz.func67,Tryz.ntmps67
  go_wp2_with fail
  refine (CR _ A m C _ v3 r of _ I).mono ?_;rintro e G ⟨rfl,o⟩;have d:=l.call o;clear o l;by_cases q:bN of 0 ((m:Int)-1)
  case neg=>
   rw[bE q];have Q:=aD q;clear q;go_wp2;go_ret;exact⟨bI (bE fun h=>Q.out h.1).symm,d.below⟩
  rw[bQ q];have Q:=aD q;clear q;have H:=d.c 1 2 rfl rfl;by_cases K:0<=a
  case neg=>
   go_wp2;go_ret;exact⟨bI (bE fun h=>by have:=h.2.1; omega).symm,d.below⟩
  by_cases L:a<=2
  case neg=>
   go_wp2;go_ret;exact⟨bI ((bE fun h=>by have:=h.2.2; omega).trans (by simp; try omega)).symm,d.below⟩
  go_wp2;go_ret;exact⟨bI ((bQ ⟨Q.out,K,L⟩).trans (by simp; try omega)).symm,d.below⟩
 by_cases z:c=6
 ·subst z;clear t u v n4 p;have f:B (fI s m n 6 of a)=B (bN of 0 ((m:Int)-1)∧bN a 1 2):=lH By;rw[f];clear f;go_enter Tryz.func67,Tryz.ntmps67
  go_wp2_with fail
  refine (Ay _ A m C _ v3 r of a _ I).mono ?_;rintro e G ⟨rfl,o⟩;have d:=l.call o;clear o l;go_wp2;go_ret;exact⟨rfl,d.below⟩
 by_cases D:c=7
 ·subst D;clear t u v n4 p z;have f:B (fI s m n 7 of a)=B (of=0∧a=0):=lH Bz;rw[f];clear f;go_enter Tryz.func67,Tryz.ntmps67;by_cases b:of=0
  case neg=>
   have k:(of == 0)=false:=by simpa using b
   have g:=aD b;clear b;go_wp2;go_ret;exact⟨bI (bE fun h=>g.out h.1).symm,l.below⟩
  have N:(of == 0)=true:=by simpa using b
  have J:=aD b;clear b;by_cases b:a=0
  ·have k:(a == 0)=true:=by simpa using b
   have g:=aD b;clear b;go_wp2;go_ret;exact⟨bI (bQ ⟨J.out,g.out⟩).symm,l.below⟩
  have k:(a == 0)=false:=by simpa using b
  have g:=aD b;clear b;go_wp2;go_ret;exact⟨bI (bE fun h=>g.out h.2).symm,l.below⟩
 rw[bE (ev0 t u v n4 p z D)]
 have O:(c == 1)=false:=by simpa using t
 have P:(c == 2)=false:=by simpa using u
 have R:(c == 3)=false:=by simpa using v
 have S:(c == 4)=false:=by simpa using n4
 have T:(c == 5)=false:=by simpa using p
 have U:(c == 6)=false:=by simpa using z
 have V:(c == 7)=false:=by simpa using D
 clear t u v n4 p z D;go_enter Tryz.func67,Tryz.ntmps67;go_wp2;go_ret;exact⟨rfl,l.below⟩
end Go.Proofs.YtdhinkgjiapigaaGreatDoor
