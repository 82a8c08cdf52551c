import Derived.Test.YtdhinkgjiapigabGreatDoorSpec3
import Derived.Test.YtdhinkgjiapigabGreatDoorImpl
namespace Go.Proofs.YtdhinkgjiapigabGreatDoor
open Go.RowKit Go.Deep
open Classical
def za5 (s m n:Int) (op of lie:Int):Prop:=
 ((op = 1 ∨ op = 2) ∧ InR of 0 (n - 1) ∧ lie = 0) ∨ ((op = 3 ∨ op = 4) ∧ InR of 0 (s - 1) ∧ lie = 0) ∨ (op = 5 ∧ InR of 0 (m - 1) ∧ InR lie 0 2) ∨ (op = 6 ∧ InR of 0 (m - 1) ∧ InR lie 1 2) ∨ (op = 7 ∧ of = 0 ∧ lie = 0)
theorem ev1 {s m n op of lie:Int} (h:op = 1 ∨ op = 2):za5 s m n op of lie ↔ InR of 0 (n - 1) ∧ lie = 0:=by
 unfold za5; constructor
 ·rintro (a | a | a | a | a)
  ·exact a.2
  all_goals exfalso; omega
 ·exact fun k=>.inl ⟨h,k⟩
theorem ev3 {s m n op of lie:Int} (h:op = 3 ∨ op = 4):za5 s m n op of lie ↔ InR of 0 (s - 1) ∧ lie = 0:=by
 unfold za5; constructor
 ·rintro (a | a | a | a | a)
  rotate_left
  ·exact a.2
  all_goals exfalso; omega
 ·exact fun k=>.inr (.inl ⟨h,k⟩)
theorem ev5 {s m n of lie:Int}:za5 s m n 5 of lie ↔ InR of 0 (m - 1) ∧ InR lie 0 2:=by
 unfold za5; constructor
 ·rintro (a | a | a | a | a)
  rotate_left 2
  ·exact a.2
  all_goals exfalso; omega
 ·exact fun k=>.inr (.inr (.inl ⟨rfl,k⟩))
theorem ev6 {s m n of lie:Int}:za5 s m n 6 of lie ↔ InR of 0 (m - 1) ∧ InR lie 1 2:=by
 unfold za5; constructor
 ·rintro (a | a | a | a | a)
  rotate_left 3
  ·exact a.2
  all_goals exfalso; omega
 ·exact fun k=>.inr (.inr (.inr (.inl ⟨rfl,k⟩)))
theorem ev7 {s m n of lie:Int}:za5 s m n 7 of lie ↔ of = 0 ∧ lie = 0:=by
 unfold za5; constructor
 ·rintro (a | a | a | a | a)
  rotate_left 4
  ·exact a.2
  all_goals exfalso; omega
 ·exact fun k=>.inr (.inr (.inr (.inr ⟨rfl,k⟩)))
theorem ev0 {s m n op of lie:Int} (h1:op ≠ 1) (h2:op ≠ 2) (h3:op ≠ 3) (h4:op ≠ 4) (h5:op ≠ 5) (h6:op ≠ 6) (h7:op ≠ 7):¬ za5 s m n op of lie:=by
 unfold za5
 rintro (a | a | a | a | a) <;> omega
set_option maxRecDepth 100000 in
set_option maxHeartbeats 4000000 in
theorem zlg (s:Int) (a1 a2:Option Addr) (m n c1 c2:Nat) (v3 hd:Value) (op of lie:Int) (w:World) (hm:m ≤ 1048576) (hn:n ≤ 1048576) (hs1:1 ≤ s) (hs2:s ≤ 60) :
  Calls Tryz.prog 85 #[.agg #[.int .i64 s,.slice a1 m c1,.slice a2 n c2,v3,hd],.agg #[.int .i64 op,.int .i64 of,.int .i64 lie]] w fun e w'=>e = .returned (.bool (B (za5 s m n op of lie))) ∧ Below w.heap.size w w':=by
 have T0:=zbc w 37 52 #[.int .i64 s,.slice a1 m c1,.slice a2 n c2,v3,hd] #[.int .i64 op,.int .i64 of,.int .i64 lie];by_cases e1:op = 1 ∨ op = 2
 ·have hB:B (za5 s m n op of lie) = B (InR of 0 ((n:Int) - 1) ∧ lie = 0):=zbz (ev1 e1);rw [hB];clear hB
  rcases e1 with rfl | rfl <;>
  ·go_enter Tryz.func85,Tryz.ntmps85
   go_wp2_with fail
   refine (zbg of 0 ((n:Int) - 1) _).mono ?_;rintro e w' ⟨rfl,rfl⟩;by_cases q:InR of 0 ((n:Int) - 1)
   case neg=>
    rw [zae q];have Q:=zaa q;clear q;go_wp2;go_ret;exact ⟨zad (zae fun h=>Q.out h.1).symm,T0.below⟩
   rw [zam q];have Q:=zaa q;clear q;by_cases h0:lie = 0
   ·have h0':(lie == 0) = true:=by simpa using h0
    have H0:=zaa h0;clear h0;go_wp2;go_ret;exact ⟨zad (zam ⟨Q.out,H0.out⟩).symm,T0.below⟩
   have h0':(lie == 0) = false:=by simpa using h0
   have H0:=zaa h0;clear h0;go_wp2;go_ret;exact ⟨zad (zae fun h=>H0.out h.2).symm,T0.below⟩
 by_cases e3:op = 3 ∨ op = 4
 ·have hB:B (za5 s m n op of lie) = B (InR of 0 (s - 1) ∧ lie = 0):=zbz (ev3 e3);rw [hB];clear hB
  rcases e3 with rfl | rfl <;>
  ·go_enter Tryz.func85,Tryz.ntmps85
   go_wp2_with fail
   refine (zbg of 0 (s - 1) _).mono ?_;rintro e w' ⟨rfl,rfl⟩;by_cases q:InR of 0 (s - 1)
   case neg=>
    rw [zae q];have Q:=zaa q;clear q;go_wp2;go_ret;exact ⟨zad (zae fun h=>Q.out h.1).symm,T0.below⟩
   rw [zam q];have Q:=zaa q;clear q;by_cases h0:lie = 0
   ·have h0':(lie == 0) = true:=by simpa using h0
    have H0:=zaa h0;clear h0;go_wp2;go_ret;exact ⟨zad (zam ⟨Q.out,H0.out⟩).symm,T0.below⟩
   have h0':(lie == 0) = false:=by simpa using h0
   have H0:=zaa h0;clear h0;go_wp2;go_ret;exact ⟨zad (zae fun h=>H0.out h.2).symm,T0.below⟩
 have n1:op ≠ 1:=fun h=>e1 (.inl h);have n2:op ≠ 2:=fun h=>e1 (.inr h);have n3:op ≠ 3:=fun h=>e3 (.inl h);have n4:op ≠ 4:=fun h=>e3 (.inr h);clear e1 e3;by_cases e5:op = 5
 ·subst e5;clear n1 n2 n3 n4;have hB:B (za5 s m n 5 of lie) = B (InR of 0 ((m:Int) - 1) ∧ InR lie 0 2):=zbz ev5;rw [hB];clear hB;go_enter Tryz.func85,Tryz.ntmps85
  go_wp2_with fail
  refine (zbg of 0 ((m:Int) - 1) _).mono ?_;rintro e w' ⟨rfl,rfl⟩;by_cases q:InR of 0 ((m:Int) - 1)
  case neg=>
   rw [zae q];have Q:=zaa q;clear q;go_wp2;go_ret;exact ⟨zad (zae fun h=>Q.out h.1).symm,T0.below⟩
  rw [zam q];have Q:=zaa q;clear q
  go_wp2_with fail
  refine (zbg lie 0 2 _).mono ?_;rintro e w' ⟨rfl,rfl⟩;go_wp2;go_ret;exact ⟨zad (zbz ⟨fun h=>⟨Q.out,h⟩,fun h=>h.2⟩),T0.below⟩
 by_cases e6:op = 6
 ·subst e6;clear n1 n2 n3 n4 e5;have hB:B (za5 s m n 6 of lie) = B (InR of 0 ((m:Int) - 1) ∧ InR lie 1 2):=zbz ev6;rw [hB];clear hB;go_enter Tryz.func85,Tryz.ntmps85
  go_wp2_with fail
  refine (zbg of 0 ((m:Int) - 1) _).mono ?_;rintro e w' ⟨rfl,rfl⟩;by_cases q:InR of 0 ((m:Int) - 1)
  case neg=>
   rw [zae q];have Q:=zaa q;clear q;go_wp2;go_ret;exact ⟨zad (zae fun h=>Q.out h.1).symm,T0.below⟩
  rw [zam q];have Q:=zaa q;clear q
  go_wp2_with fail
  refine (zbg lie 1 2 _).mono ?_;rintro e w' ⟨rfl,rfl⟩;go_wp2;go_ret;exact ⟨zad (zbz ⟨fun h=>⟨Q.out,h⟩,fun h=>h.2⟩),T0.below⟩
 by_cases e7:op = 7
 ·subst e7;clear n1 n2 n3 n4 e5 e6;have hB:B (za5 s m n 7 of lie) = B (of = 0 ∧ lie = 0):=zbz ev7;rw [hB];clear hB;go_enter Tryz.func85,Tryz.ntmps85;by_cases h0:of = 0
  case neg=>
   have h0':(of == 0) = false:=by simpa using h0
   have H0:=zaa h0;clear h0;go_wp2;go_ret;exact ⟨zad (zae fun h=>H0.out h.1).symm,T0.below⟩
  have k0:(of == 0) = true:=by simpa using h0
  have K0:=zaa h0;clear h0;by_cases h0:lie = 0
  ·have h0':(lie == 0) = true:=by simpa using h0
   have H0:=zaa h0;clear h0;go_wp2;go_ret;exact ⟨zad (zam ⟨K0.out,H0.out⟩).symm,T0.below⟩
  have h0':(lie == 0) = false:=by simpa using h0
  have H0:=zaa h0;clear h0;go_wp2;go_ret;exact ⟨zad (zae fun h=>H0.out h.2).symm,T0.below⟩
 rw [zae (ev0 n1 n2 n3 n4 e5 e6 e7)]
 have k1:(op == 1) = false:=by simpa using n1
 have k2:(op == 2) = false:=by simpa using n2
 have k3:(op == 3) = false:=by simpa using n3
 have k4:(op == 4) = false:=by simpa using n4
 have k5:(op == 5) = false:=by simpa using e5
 have k6:(op == 6) = false:=by simpa using e6
 have k7:(op == 7) = false:=by simpa using e7
 clear n1 n2 n3 n4 e5 e6 e7;go_enter Tryz.func85,Tryz.ntmps85;go_wp2;go_ret;exact ⟨rfl,T0.below⟩
end Go.Proofs.YtdhinkgjiapigabGreatDoor
namespace Go.Proofs.YtdhinkgjiapigabGreatDoor
open Go.RowKit Go.Deep
open Classical
set_option maxHeartbeats 1000000 in
theorem zfh (v1 v2 v3:Value) (d:PlanD) (w:World) (hp:PlanAt (In w) w v1 v2 v3 d) (hs:d.Small 1048576) (hg:w.cell? ⟨1,0,none⟩ = some zrv) :
  Calls Tryz.prog 76 #[.agg #[.int .i64 d.sections,v1,v2,v3,.int .i64 d.hold]] w fun e w'=>e = .returned (.bool (B (Right d))) ∧ Below w.heap.size w w':=by
 have T0:=zaw w 37 #[.int .i64 d.sections,v1,v2,v3,.int .i64 d.hold];have hp0:=hp.keep (In.keep T0.below).1 (In.keep T0.below).2;have hg0:=ck hg T0.below;clear hp hg;go_enter Tryz.func76,Tryz.ntmps76
 go_wp2_with fail
 refine (zhv v1 v2 v3 d _ hp0 hs hg0).mono ?_;rintro e w1 ⟨c,a,rfl,hf,hb⟩;have hr:=zkn (zqj.2 hf);have ha:c = 0 → a = 0:=fun hc=>(FaultBy.uniq _ _ _ _ _ _ (zqj.2 hf) (hr.1 hc)).2;have HR:=zaa hr;have HA:=zaa ha;have T1:=T0.call hb;clear hr hf hp0 hs hg0 ha T0 hb;by_cases hc:c = 0
 ·have ha:=HA.out hc;subst hc ha;have e1:B (Right d) = true:=zam (HR.out.1 rfl);have E1:=zaa e1;clear e1;go_wp2;go_ret;exact ⟨zad (by rw [E1.out]),T1.below⟩
 ·have hc':(c == 0) = false:=by simpa using hc
  have e1:B (Right d) = false:=zae fun h=>hc (HR.out.2 h);have E1:=zaa e1;clear e1;go_wp2;go_ret;exact ⟨zad (by rw [E1.out]),T1.below⟩
set_option maxRecDepth 100000 in
set_option maxHeartbeats 4000000 in
theorem zla (s:Int) (a1 a2:Option Addr) (m n c1 c2:Nat) (v3 hd:Value) (op of lie:Int) (w:World) (hm:m ≤ 1048576) (hn:n ≤ 1048576) :
  Calls Tryz.prog 91 #[.agg #[.int .i64 s,.slice a1 m c1,.slice a2 n c2,v3,hd],.agg #[.int .i64 op,.int .i64 of,.int .i64 lie]] w fun e w'=>e = .returned (.bool (B (za5 s m n op of lie))) ∧ Below w.heap.size w w':=by
 have T0:=zbc w 37 52 #[.int .i64 s,.slice a1 m c1,.slice a2 n c2,v3,hd] #[.int .i64 op,.int .i64 of,.int .i64 lie];by_cases e1:op = 1 ∨ op = 2
 ·have hB:B (za5 s m n op of lie) = B (InR of 0 ((n:Int) - 1) ∧ lie = 0):=zbz (ev1 e1);rw [hB];clear hB
  rcases e1 with rfl | rfl <;>
  ·go_enter Tryz.func91,Tryz.ntmps91
   go_wp2_with fail
   refine (zoh _ a2 n c2 _ v3 hd of _ hn).mono ?_;rintro e w1 ⟨rfl,hb⟩;have T1:=T0.call hb;clear hb T0;by_cases q:InR of 0 ((n:Int) - 1)
   case neg=>
    rw [zae q];have Q:=zaa q;clear q;go_wp2;go_ret;exact ⟨zad (zae fun h=>Q.out h.1).symm,T1.below⟩
   rw [zam q];have Q:=zaa q;clear q;have b2:=T1.cell (j:=1) (i:=2) rfl rfl;by_cases h0:lie = 0
   ·have h0':(lie == 0) = true:=by simpa using h0
    have H0:=zaa h0;clear h0;go_wp2;go_ret;exact ⟨zad (zam ⟨Q.out,H0.out⟩).symm,T1.below⟩
   have h0':(lie == 0) = false:=by simpa using h0
   have H0:=zaa h0;clear h0;go_wp2;go_ret;exact ⟨zad (zae fun h=>H0.out h.2).symm,T1.below⟩
 by_cases e3:op = 3 ∨ op = 4
 ·have hB:B (za5 s m n op of lie) = B (InR of 0 (s - 1) ∧ lie = 0):=zbz (ev3 e3);rw [hB];clear hB
  rcases e3 with rfl | rfl <;>
  ·go_enter Tryz.func91,Tryz.ntmps91
   go_wp2_with fail
   refine (zds s of _ _ v3 hd _).mono ?_;rintro e w1 ⟨rfl,hb⟩;have T1:=T0.call hb;clear hb T0;by_cases q:InR of 0 (s - 1)
   case neg=>
    rw [zae q];have Q:=zaa q;clear q;go_wp2;go_ret;exact ⟨zad (zae fun h=>Q.out h.1).symm,T1.below⟩
   rw [zam q];have Q:=zaa q;clear q;have b2:=T1.cell (j:=1) (i:=2) rfl rfl;by_cases h0:lie = 0
   ·have h0':(lie == 0) = true:=by simpa using h0
    have H0:=zaa h0;clear h0;go_wp2;go_ret;exact ⟨zad (zam ⟨Q.out,H0.out⟩).symm,T1.below⟩
   have h0':(lie == 0) = false:=by simpa using h0
   have H0:=zaa h0;clear h0;go_wp2;go_ret;exact ⟨zad (zae fun h=>H0.out h.2).symm,T1.below⟩
 have n1:op ≠ 1:=fun h=>e1 (.inl h);have n2:op ≠ 2:=fun h=>e1 (.inr h);have n3:op ≠ 3:=fun h=>e3 (.inl h);have n4:op ≠ 4:=fun h=>e3 (.inr h);clear e1 e3;by_cases e5:op = 5
 ·subst e5;clear n1 n2 n3 n4;have hB:B (za5 s m n 5 of lie) = B (InR of 0 ((m:Int) - 1) ∧ InR lie 0 2):=zbz ev5;rw [hB];clear hB;go_enter Tryz.func91,Tryz.ntmps91
  go_wp2_with fail
  refine (zf7 _ a1 m c1 _ v3 hd of _ hm).mono ?_;rintro e w1 ⟨rfl,hb⟩;have T1:=T0.call hb;clear hb T0;by_cases q:InR of 0 ((m:Int) - 1)
  case neg=>
   rw [zae q];have Q:=zaa q;clear q;go_wp2;go_ret;exact ⟨zad (zae fun h=>Q.out h.1).symm,T1.below⟩
  rw [zam q];have Q:=zaa q;clear q;have b2:=T1.cell (j:=1) (i:=2) rfl rfl;by_cases h1:0 ≤ lie
  case neg=>
   go_wp2;go_ret;exact ⟨zad (zae fun h=>by have:=h.2.1; omega).symm,T1.below⟩
  by_cases h2:lie ≤ 2
  case neg=>
   go_wp2;go_ret;exact ⟨zad ((zae fun h=>by have:=h.2.2; omega).trans (by simp; try omega)).symm,T1.below⟩
  go_wp2;go_ret;exact ⟨zad ((zam ⟨Q.out,h1,h2⟩).trans (by simp; try omega)).symm,T1.below⟩
 by_cases e6:op = 6
 ·subst e6;clear n1 n2 n3 n4 e5;have hB:B (za5 s m n 6 of lie) = B (InR of 0 ((m:Int) - 1) ∧ InR lie 1 2):=zbz ev6;rw [hB];clear hB;go_enter Tryz.func91,Tryz.ntmps91
  go_wp2_with fail
  refine (zg8 _ a1 m c1 _ v3 hd of lie _ hm).mono ?_;rintro e w1 ⟨rfl,hb⟩;have T1:=T0.call hb;clear hb T0;go_wp2;go_ret;exact ⟨rfl,T1.below⟩
 by_cases e7:op = 7
 ·subst e7;clear n1 n2 n3 n4 e5 e6;have hB:B (za5 s m n 7 of lie) = B (of = 0 ∧ lie = 0):=zbz ev7;rw [hB];clear hB;go_enter Tryz.func91,Tryz.ntmps91;by_cases h0:of = 0
  case neg=>
   have h0':(of == 0) = false:=by simpa using h0
   have H0:=zaa h0;clear h0;go_wp2;go_ret;exact ⟨zad (zae fun h=>H0.out h.1).symm,T0.below⟩
  have k0:(of == 0) = true:=by simpa using h0
  have K0:=zaa h0;clear h0;by_cases h0:lie = 0
  ·have h0':(lie == 0) = true:=by simpa using h0
   have H0:=zaa h0;clear h0;go_wp2;go_ret;exact ⟨zad (zam ⟨K0.out,H0.out⟩).symm,T0.below⟩
  have h0':(lie == 0) = false:=by simpa using h0
  have H0:=zaa h0;clear h0;go_wp2;go_ret;exact ⟨zad (zae fun h=>H0.out h.2).symm,T0.below⟩
 rw [zae (ev0 n1 n2 n3 n4 e5 e6 e7)]
 have k1:(op == 1) = false:=by simpa using n1
 have k2:(op == 2) = false:=by simpa using n2
 have k3:(op == 3) = false:=by simpa using n3
 have k4:(op == 4) = false:=by simpa using n4
 have k5:(op == 5) = false:=by simpa using e5
 have k6:(op == 6) = false:=by simpa using e6
 have k7:(op == 7) = false:=by simpa using e7
 clear n1 n2 n3 n4 e5 e6 e7;go_enter Tryz.func91,Tryz.ntmps91;go_wp2;go_ret;exact ⟨rfl,T0.below⟩
end Go.Proofs.YtdhinkgjiapigabGreatDoor
