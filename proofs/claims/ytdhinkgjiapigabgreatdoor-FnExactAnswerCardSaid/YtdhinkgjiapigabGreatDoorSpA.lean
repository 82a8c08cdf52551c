import Derived.Test.YtdhinkgjiapigabGreatDoorProg
import Derived.Test.YtdhinkgjiapigabGreatDoorBase
import Derived.Deep.QuietTactic
import Derived.BigQuiet
import Derived.WalkSmall
namespace Go.Proofs.YtdhinkgjiapigabGreatDoor
open Go.RowKit
open Classical
set_option maxHeartbeats 400000 in
theorem zbg (x a b:Int) (w:World) :
  Calls Tryz.prog 65 #[.int .i64 x,.int .i64 a,.int .i64 b] w fun e w'=>e = .returned (.bool (B (InR x a b))) ∧ w' = w:=by
 by_cases h1:a ≤ x
 ·by_cases h2:x ≤ b
  ·rw [zam (show InR x a b from ⟨h1,h2⟩)];go_enter Tryz.func65,Tryz.ntmps65;go_wp2;go_ret;exact ⟨by simp,rfl⟩
  ·rw [zae (show ¬ InR x a b from fun h=>h2 h.2)];go_enter Tryz.func65,Tryz.ntmps65;go_wp2;go_ret;exact ⟨by simp,rfl⟩
 ·rw [zae (show ¬ InR x a b from fun h=>h1 h.1)];go_enter Tryz.func65,Tryz.ntmps65;go_wp2;go_ret;exact ⟨by simp,rfl⟩
set_option maxHeartbeats 1000000 in
theorem zfw (v:Value) (l:List Int) (n:Int) (w:World) (hv:Ints (In w) w v l) (hl:l.length ≤ 1048576) (h1:1 ≤ n) (h60:n ≤ 60) :
  Calls Tryz.prog 212 #[v,.int .i64 n] w fun e w'=>e = .returned (.bool (B (ListOk n l))) ∧ w' = w:=by
 obtain ⟨a,cap,rfl,hc⟩:=hv;generalize hn':l.length = m at *;have Hn:Hid (l.length = m):=hn';have HC:=zaa hc;clear hc hn';go_enter Tryz.func212,Tryz.ntmps212;go_wp2
 go_loop [10] (fun i=>∃ (k:Nat),k ≤ m ∧ i = .int .i64 k ∧ ∀ j,j < k → znr n l j) (fun i=>m - (intOf i).toNat)
 case atStart=>exact ⟨0,Nat.zero_le _,rfl,fun j hj=>by omega⟩
 case round=>
  obtain ⟨k,hk,rfl,hok⟩:=hrel;have HO:=zaa hok;clear hok;by_cases hlt:k < m
  ·obtain h0 | ⟨b,off,rfl,hb0,hc⟩:=HC.out
   ·omega
   obtain ⟨x,hx⟩:=zac l Hn hlt;have g0:=hc k hlt x hx;have Hx:=zaa hx;clear hx;have hc2:=zaa hc;clear hc
   go_wp2_with fail
   refine (zbg x 0 (n - 1) w).mono ?_;rintro e w' ⟨rfl,rfl⟩;by_cases hin:InR x 0 (n - 1)
   ·rw [zam hin];have Hin:=zaa hin;clear hin;go_wp2
    go_loop [7] (fun i=>∃ (q:Nat),q ≤ k ∧ i = .int .i64 q ∧ ∀ j,j < q → l[j]? ≠ some x) (fun i=>k - (intOf i).toNat)
    case atStart=>exact ⟨0,Nat.zero_le _,rfl,fun j hj=>by omega⟩
    case round=>
     obtain ⟨q,hq,rfl,hne⟩:=hrel;have HN:=zaa hne;clear hne;by_cases hqk:q < k
     ·obtain ⟨y,hy⟩:=zac l Hn (Nat.lt_trans hqk hlt);have g1:=hc2.out q (by omega) y hy;have Hy:=zaa hy;clear hy;by_cases he:y = x
      ·subst he;go_wp2;go_ret;refine ⟨zad (zae fun h=>?_).symm,rfl⟩;exact ((h.1 k (by rw [Hn.out]; exact hlt)) _ Hx.out).2 q hqk Hy.out
      ·have he':(y == x) = false:=by simpa using he
       go_wp2
       go_round
       case rel=>exact ⟨q + 1,by omega,by go_num,fun j hj=>by
        by_cases e:j = q
        ·subst e; rw [Hy.out]; exact fun h=>he (Option.some.inj h)
        ·exact HN.out j (by omega)⟩
       case measure=>simp [intOf]; omega
     ·go_wp2
      go_round
      case rel=>exact ⟨k + 1,by omega,by go_num,fun j hj=>by
       by_cases e:j = k
       ·subst e; intro z hz; rw [Hx.out] at hz; cases hz; exact ⟨Hin.out,fun r hr=>HN.out r (by omega)⟩
       ·exact HO.out j (by omega)⟩
      case measure=>simp [intOf]; omega
   ·rw [zae hin];go_wp2;go_ret;refine ⟨zad (zae fun h=>?_).symm,rfl⟩;exact hin ((h.1 k (by rw [Hn.out]; exact hlt)) _ Hx.out).1
  ·by_cases h30:m ≤ 30
   ·go_wp2;go_ret;refine ⟨zad ?_,rfl⟩;rw [zam ⟨fun j hj=>HO.out j (by have:=Hn.out; omega),by have:=Hn.out; omega⟩];simp; omega
   ·go_wp2;go_ret;refine ⟨zad ?_,rfl⟩;rw [zae fun h=>h30 (by have:=h.2; have:=Hn.out; omega)];simp; omega
set_option maxHeartbeats 1000000 in
theorem zbx (u v:Value) (l r:List Int) (w:World) (hu:Ints (In w) w u l) (hv:Ints (In w) w v r) (hl:l.length ≤ 1048576) (hr:r.length ≤ 1048576) :
  Calls Tryz.prog 161 #[u,v] w fun e w'=>e = .returned (.bool (B (Meet l r))) ∧ w' = w:=by
 obtain ⟨a,cap,rfl,hc⟩:=hu;obtain ⟨a2,cap2,rfl,hc2⟩:=hv;generalize hn':l.length = m at *;generalize hn2:r.length = m2 at *;have Hn:Hid (l.length = m):=hn';have Hn2:Hid (r.length = m2):=hn2;have HC:=zaa hc;have HC2:=zaa hc2;clear hc hn' hc2 hn2;go_enter Tryz.func161,Tryz.ntmps161;go_wp2
 go_loop [11] (fun i=>∃ (k:Nat),k ≤ m ∧ i = .int .i64 k ∧ ∀ j x,j < k → l[j]? = some x → ¬ x ∈ r) (fun i=>m - (intOf i).toNat)
 case atStart=>exact ⟨0,Nat.zero_le _,rfl,fun j _ hj=>by omega⟩
 case round=>
  obtain ⟨k,hk,rfl,hok⟩:=hrel;have HO:=zaa hok;clear hok;by_cases hlt:k < m
  ·obtain h0 | ⟨b,off,rfl,hb0,hc⟩:=HC.out
   ·omega
   obtain ⟨x,hx⟩:=zac l Hn hlt;have g0:=hc k hlt x hx;have Hx:=zaa hx;clear hx hc;go_wp2
   go_loop [17] (fun i=>∃ (q:Nat),q ≤ m2 ∧ i = .int .i64 q ∧ ∀ j,j < q → r[j]? ≠ some x) (fun i=>m2 - (intOf i).toNat)
   case atStart=>exact ⟨0,Nat.zero_le _,rfl,fun j hj=>by omega⟩
   case round=>
    obtain ⟨q,hq,rfl,hne⟩:=hrel;have HN:=zaa hne;clear hne;by_cases hqk:q < m2
    ·obtain h0 | ⟨b2,off2,rfl,hb2,hc2⟩:=HC2.out
     ·omega
     obtain ⟨y,hy⟩:=zac r Hn2 hqk;have g1:=hc2 q (by omega) y hy;have Hy:=zaa hy;clear hy hc2;by_cases he:x = y
     ·subst he;go_wp2;go_ret;exact ⟨zad (zam ⟨x,List.mem_of_getElem? Hx.out,List.mem_of_getElem? Hy.out⟩).symm,rfl⟩
     ·have he':(x == y) = false:=by simpa using he
      go_wp2
      go_round
      case rel=>exact ⟨q + 1,by omega,by go_num,fun j hj=>by
       by_cases e:j = q
       ·subst e; rw [Hy.out]; exact fun h=>he (Option.some.inj h).symm
       ·exact HN.out j (by omega)⟩
      case measure=>simp [intOf]; omega
    ·go_wp2
     go_round
     case rel=>exact ⟨k + 1,by omega,by go_num,fun j z hj hz=>by
      by_cases e:j = k
      ·subst e; rw [Hx.out] at hz; cases hz;intro hm;obtain ⟨i,hi,hi2⟩:=List.getElem?_of_mem hm |>.imp fun i h=>(⟨(List.getElem?_eq_some_iff.1 h).1,h⟩:i < r.length ∧ r[i]? = some x);exact HN.out i (by rw [Hn2.out] at hi; omega) hi2
      ·exact HO.out j z (by omega) hz⟩
     case measure=>simp [intOf]; omega
  ·go_wp2;go_ret;refine ⟨zad (zae fun h=>?_).symm,rfl⟩;obtain ⟨x,hx,hy⟩:=h;obtain ⟨i,hi⟩:=List.getElem?_of_mem hx;have:=(List.getElem?_eq_some_iff.1 hi).1;exact HO.out i x (by rw [Hn.out] at this; omega) hi hy
end Go.Proofs.YtdhinkgjiapigabGreatDoor
namespace Go.Proofs.YtdhinkgjiapigabGreatDoor
open Go.RowKit
open Classical
theorem zgw {w:World} {o:Obj} {b off:Nat} {v:Value} (h:w.cell? ⟨b,off,none⟩ = some v):(w.alloc o).cell? ⟨b,off,none⟩ = some v:=by
 have hb:b < w.heap.size:=World.block_lt_of_cell? _ _ h;rw [World.cell?_alloc_lt _ _ ⟨b,off,none⟩ hb]; exact h
set_option maxHeartbeats 1000000 in
theorem zib (s h:Value) (v1 v2 v3 v:Value) (a1:Option Addr) (m c1:Nat) (l:List (Int × Int)) (w:World) (hv1:v1 = .slice a1 m c1) (hv:Lies (In w) w v l) (hl:l.length ≤ 1048576) (hm:m ≤ 1048576) :
  Calls Tryz.prog 213 #[.agg #[s,v1,v2,v3,h],v] w fun e w'=>e = .returned (.bool (B (LiesOk m l))) ∧ Below w.heap.size w w':=by
 subst hv1;obtain ⟨a,cap,rfl,hc⟩:=hv;generalize hn':l.length = n at *;have Hn:Hid (l.length = n):=hn';have HC:=zaa hc;clear hc hn';go_enter Tryz.func213,Tryz.ntmps213;go_wp2
 go_loopw [10] (fun i wr=>∃ (k:Nat),k ≤ n ∧ i = .int .i64 k ∧ (∀ j,j < k → zhr m l j) ∧ Below w.heap.size w wr ∧ wr.cell? ⟨w.heap.size,1,none⟩ = some (.slice a1 m c1)) (fun i _=>n - (intOf i).toNat)
 case atStart=>exact ⟨0,Nat.zero_le _,rfl,fun j hj=>by omega,(Below.refl _ _).alloc (Nat.le_refl _) _,by simp⟩
 case round=>
  obtain ⟨k,hk,rfl,hok,hbl,hbox⟩:=hrel;rename World=>wo;have HO:=zaa hok;clear hok;by_cases hlt:k < n
  ·obtain h0 | ⟨b,off,rfl,hb0,hc⟩:=HC.out
   ·omega
   obtain ⟨x,hx⟩:=zac l Hn hlt;obtain ⟨g0,g1⟩:=hc k hlt x hx;rw [← hbl.cell (p:=⟨b,_,none⟩) hb0] at g0 g1;have Hx:=zaa hx;have hc2:=zaa hc;clear hx hc;have hbx:=zgw (o:=.cells #[.int .i64 x.1,.int .i64 x.2] 175) hbox
   go_wp2_with fail
   refine (zbg x.1 0 ((m:Int) - 1) _).mono ?_;rintro e w' ⟨rfl,rfl⟩;by_cases hin:InR x.1 0 ((m:Int) - 1)
   ·rw [zam hin];have Hin:=zaa hin;clear hin
    go_wp2_with fail
    refine (zbg x.2 1 2 _).mono ?_;rintro e w' ⟨rfl,rfl⟩;by_cases hin2:InR x.2 1 2
    ·rw [zam hin2];have Hin2:=zaa hin2;clear hin2;go_wp2
     go_loopw [7] (fun i wi=>∃ (q:Nat),q ≤ k ∧ i = .int .i64 q ∧ (∀ j y,j < q → l[j]? = some y → y.1 ≠ x.1) ∧ Below (wo.heap.size + 1) (wo.alloc (.cells #[.int .i64 x.1,.int .i64 x.2] 175)) wi) (fun i _=>k - (intOf i).toNat)
     case atStart=>exact ⟨0,Nat.zero_le _,rfl,fun j _ hj=>by omega,Below.refl _ _⟩
     case round=>
      obtain ⟨q,hq,rfl,hne,hbi⟩:=hrel;have HN:=zaa hne;clear hne;by_cases hqk:q < k
      ·obtain ⟨y,hy⟩:=zac l Hn (Nat.lt_trans hqk hlt);have g2:=(hc2.out q (by omega) y hy).1;rw [← hbl.cell (p:=⟨b,_,none⟩) hb0] at g2;have g3:=(hbi.cell (p:=⟨b,off + q * 2,none⟩) (Nat.lt_succ_of_lt (Nat.lt_of_lt_of_le hb0 hbl.size))).trans (zgw g2);have g4:wr.cell? ⟨wo.heap.size,0,none⟩ = some (.int .i64 x.1):=(hbi.cell (p:=⟨wo.heap.size,0,none⟩) (Nat.lt_succ_self _)).trans (by simp);have Hy:=zaa hy
       have hqn:(q:Int) < (n:Int):=by omega
       have HB:=zaa hbi;have HB0:=zaa hbl;clear hy g0 g1 g2 hbi hbl hbx;by_cases he:y.1 = x.1
       ·rw [he] at g3;go_wp2
        go_quiet (fail)
        go_wp2;go_ret;refine ⟨zad (zae fun h=>?_).symm,HB0.out.trans (((Below.refl _ _).alloc HB0.out.size _).trans (below_drewN (HB.out.mono (by have:=HB0.out.size; omega)) _))⟩;exact ((h.1 k (by rw [Hn.out]; exact hlt)) _ Hx.out).2 q y hqk Hy.out he
       ·have he':(y.1 == x.1) = false:=by simpa using he
        go_wp2
        go_quiet (fail)
        go_wp2;go_roundw
        case rel=>exact ⟨q + 1,by omega,by go_num,fun j z hj hz=>by
         by_cases e:j = q
         ·subst e; rw [Hy.out] at hz; cases hz; exact he
         ·exact HN.out j z (by omega) hz,below_drewN HB.out _⟩
        case measure=>simp [intOf]; omega
      ·have hbox2:wr.cell? ⟨w.heap.size,1,none⟩ = some (.slice a1 m c1):=(hbi.cell (p:=⟨w.heap.size,1,none⟩) (by have:=World.block_lt_of_cell? _ _ hbox; show w.heap.size < wo.heap.size + 1; simp at this; omega)).trans hbx;have HB:=zaa hbi;have HB0:=zaa hbl;clear hbi hbl;go_wp2;go_roundw
       case rel=>exact ⟨k + 1,by omega,by go_num,fun j hj=>by
        by_cases e:j = k
        ·subst e; intro z hz; rw [Hx.out] at hz; cases hz; exact ⟨⟨Hin.out,Hin2.out⟩,fun r y hr=>HN.out r y (by omega)⟩
        ·exact HO.out j (by omega),HB0.out.trans (((Below.refl _ _).alloc HB0.out.size _).trans (HB.out.mono (by have:=HB0.out.size; omega))),hbox2⟩
       case measure=>simp [intOf]; omega
    ·rw [zae hin2];go_wp2;go_ret;refine ⟨zad (zae fun h=>?_).symm,hbl.alloc hbl.size _⟩;exact hin2 ((h.1 k (by rw [Hn.out]; exact hlt)) _ Hx.out).1.2
   ·rw [zae hin];go_wp2;go_ret;refine ⟨zad (zae fun h=>?_).symm,hbl.alloc hbl.size _⟩;exact hin ((h.1 k (by rw [Hn.out]; exact hlt)) _ Hx.out).1.1
  ·by_cases h30:n ≤ 30
   ·go_wp2;go_ret;refine ⟨zad ?_,hbl⟩;rw [zam ⟨fun j hj=>HO.out j (by have:=Hn.out; omega),by have:=Hn.out; omega⟩];simp; omega
   ·go_wp2;go_ret;refine ⟨zad ?_,hbl⟩;rw [zae fun h=>h30 (by have:=h.2; have:=Hn.out; omega)];simp; omega
end Go.Proofs.YtdhinkgjiapigabGreatDoor
