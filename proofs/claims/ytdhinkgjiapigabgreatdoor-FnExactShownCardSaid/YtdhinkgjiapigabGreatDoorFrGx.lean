import Derived.Test.YtdhinkgjiapigabGreatDoorFrG
import Derived.Test.YtdhinkgjiapigabGreatDoorBasex
import Derived.Test.YtdhinkgjiapigabGreatDoorToAx
import Derived.Deep.MidRow
import Derived.Laws.IdiomCopy
namespace Go.Proofs.YtdhinkgjiapigabGreatDoor
theorem ztq {hold:Int} {n:Nat} {h:HeldD} {s:StD} (hb:h.been.length = n) (h1:1 ≤ n) (hn:n ≤ 30) (hs:zp3 h = some s) (hk:zr1 hold n s) (he:zao n s = h):zcn hold n h:=by
 have rep:∀ (k:Nat) b,(List.replicate n false)[k]? = some b → b = false:=fun k b hb=>by
  have:=List.mem_of_getElem? hb;exact (List.mem_replicate.1 this).2
 cases s using StD.by with
 | idle=>subst he; exact ⟨by simp only [zao,InR]; omega,by simp [zao],by simp only [zao,InR]; omega,fun _=>⟨rep,rfl⟩,fun k hk=>by simp only [zao] at hk; omega,fun z=>by simp [zao] at z,fun _=>⟨rfl,fun _=>rfl,fun z=>by simp [zao] at z⟩⟩
 | set b=>subst he; exact ⟨by simp only [zao,InR]; omega,by simp [zao],by simp only [zao,InR]; omega,fun _=>⟨rep,rfl⟩,fun k hk=>by simp only [zao] at hk; omega,fun z=>by simp [zao] at z,fun _=>⟨rfl,fun z=>by simp [zao] at z,fun z=>by simp [zao] at z⟩⟩
 | clear=>subst he; exact ⟨by simp only [zao,InR]; omega,by simp [zao],by simp only [zao,InR]; omega,fun _=>⟨rep,rfl⟩,fun k hk=>by simp only [zao] at hk; omega,fun z=>by simp [zao] at z,fun _=>⟨rfl,fun z=>by simp [zao] at z,fun _=>rfl⟩⟩
 | taking t=>subst he; exact ⟨by simp only [zao,InR]; omega,by simp [zao],by simp only [zao,InR]; omega,fun _=>⟨rep,rfl⟩,fun k hk=>by simp only [zao] at hk; omega,fun _=>⟨rfl,hk⟩,fun z=>by simp [zao] at z⟩
 | used g l b=>
  obtain ⟨hk1,hk2⟩:=hk
  have hl:(l.take n).length = n:=by have:=congrArg (fun x=>x.been.length) he; exact this.trans hb
  subst he;refine ⟨by simp only [zao,InR]; omega,hl,hk1,fun z=>by simp [zao] at z,fun k hk=>?_,fun z=>by simp [zao] at z,fun _=>⟨rfl,fun z=>by simp [zao] at z,fun z=>by simp [zao] at z⟩⟩;show (l.take n)[k]? = some true;have hk':(k:Int) < g:=hk;rw [List.getElem?_take,if_pos (by have:=hk1.2; omega)];exact hk2 k hk'
theorem ztg {n:Nat} {s t:StD} (hs:zcw n s) (ht:zcw n t) (e:zao n s = zao n t):s = t:=by
 cases s using StD.by <;> cases t using StD.by <;> simp [zao] at e <;> try rfl
 ·rw [e]
 ·rw [e]
 ·obtain ⟨rfl,e2,rfl⟩:=e;rw [hs.2.2.2,ht.2.2.2,e2]
end Go.Proofs.YtdhinkgjiapigabGreatDoor
namespace Go.Proofs.YtdhinkgjiapigabGreatDoor
open Go.RowKit Go.Deep
end Go.Proofs.YtdhinkgjiapigabGreatDoor
namespace Go.Proofs.YtdhinkgjiapigabGreatDoor
open Go.RowKit Go.Deep
open Classical
end Go.Proofs.YtdhinkgjiapigabGreatDoor
namespace Go.Proofs.YtdhinkgjiapigabGreatDoor
open Go.RowKit Go.Deep
open Classical
end Go.Proofs.YtdhinkgjiapigabGreatDoor
namespace Go.Proofs.YtdhinkgjiapigabGreatDoor
open Go.RowKit Go.Deep
open Classical
end Go.Proofs.YtdhinkgjiapigabGreatDoor
namespace Go.Proofs.YtdhinkgjiapigabGreatDoor
open Go.RowKit Go.Deep
open Classical
end Go.Proofs.YtdhinkgjiapigabGreatDoor
namespace Go.Proofs.YtdhinkgjiapigabGreatDoor
open Go.RowKit Go.Deep
open Classical
set_option maxHeartbeats 1000000 in
theorem zsn (v:Value) (l:List Bool) (w:World) (hv:Bools (In w) w v l) (hl:l.length ≤ 1048576) :
  Calls Tryz.prog 300 #[v,.bool false] w fun e w'=>∃ r:Int,e = .returned (.int .i64 r) ∧ decide (0 ≤ r) = !(l.all id) ∧ w' = w:=by
 obtain ⟨a,cap,rfl,hc⟩:=hv;have HC:=zaa hc;clear hc;go_enter Tryz.func300,Tryz.ntmps300;go_wp2
 go_loop [8] (fun z=>∃ (q:Nat),q ≤ l.length ∧ z = .int .i64 q ∧ (l.take q).all id = true) (fun z=>l.length - (intOf z).toNat)
 case atStart=>exact ⟨0,Nat.zero_le _,rfl,by simp⟩
 case round=>
  obtain ⟨q,hq,rfl,hall⟩:=hrel;have HA:=zaa hall;clear hall;by_cases hql:q < l.length
  ·obtain h0 | ⟨b,off,rfl,hb0,hc⟩:=HC.out
   ·omega
   obtain ⟨y,hy⟩:=zb4 l hql;have g0:=hc q hql y hy;have Hy:=zaa hy;clear hy hc
   cases y
   ·go_wp2;go_ret;exact ⟨q,rfl,by rw [zh4 Hy.out (by rfl)]; simp,rfl⟩
   ·go_wp2
    go_round
    case rel=>exact ⟨q + 1,by omega,by go_num,zgn HA.out Hy.out rfl⟩
    case measure=>simp [intOf]; omega
  ·go_wp2;go_ret;exact ⟨-1,rfl,by rw [ziw HA.out (by omega)]; rfl,rfl⟩
set_option maxHeartbeats 1000000 in
theorem zse (v:Value) (l:List Bool) (w:World) (hv:Bools (In w) w v l) (hl:l.length ≤ 1048576) :
  Calls Tryz.prog 299 #[v,.bool false] w fun e w'=>e = .returned (.bool (!(l.all id))) ∧ w' = w:=by
 have hi:=zsn v l w hv hl;obtain ⟨a,cap,rfl,-⟩:=hv;go_enter Tryz.func299,Tryz.ntmps299
 go_wp2_with fail
 refine hi.mono ?_;rintro e w1 ⟨r,rfl,hr,rfl⟩;have HR:=zaa hr;clear hi hr;go_wp2;go_ret;exact ⟨zad (by rw [← HR.out]),rfl⟩
set_option maxHeartbeats 2000000 in
theorem zsa (v u:Value) (l r:List Bool) (w:World) (hv:Bools (In w) w v l) (hu:Bools (In w) w u r) (hl:l.length ≤ 1048576) (_hr:r.length ≤ 1048576) :
  Calls Tryz.prog 179 #[v,u] w fun e w'=>e = .returned (.bool (B (l = r))) ∧ Below w.heap.size w w':=by
 obtain ⟨a,cap,rfl,hc⟩:=hv;obtain ⟨a',cap',rfl,hc'⟩:=hu;have HC:=zaa hc;have HC':=zaa hc';clear hc hc';by_cases hne:l.length = r.length
 case neg=>
  have h1:((l.length:Int) != (r.length:Int)) = true:=by simp; omega
  have HN:=zaa hne;clear hne;go_enter Tryz.func179,Tryz.ntmps179;go_wp2;go_ret;exact ⟨zad (zae fun e=>HN.out (by rw [e])).symm,Below.refl _ _⟩
 have h1:((l.length:Int) != (r.length:Int)) = false:=by simp; omega
 have HN:=zaa hne;clear hne;go_enter Tryz.func179,Tryz.ntmps179;go_wp2
 go_loopw [13] (fun z wr=>∃ (q:Nat),q ≤ l.length ∧ z = .int .i64 q ∧ (∀ j,j < q → l[j]? = r[j]?) ∧ Below w.heap.size w wr) (fun z _=>l.length - (intOf z).toNat)
 case atStart=>exact ⟨0,Nat.zero_le _,rfl,fun j hj=>by omega,Below.refl _ _⟩
 case round=>
  obtain ⟨q,hq,rfl,hall,hbw⟩:=hrel;have HA:=zaa hall;have HBW:=zaa hbw;clear hall hbw;by_cases hql:q < l.length
  ·obtain h0 | ⟨b,off,rfl,hb0,hc⟩:=HC.out
   ·omega
   obtain h0 | ⟨b',off',rfl,hb0',hc'⟩:=HC'.out
   ·have:=HN.out; omega
   obtain ⟨y,hy⟩:=zb4 l hql;obtain ⟨y',hy'⟩:=zb4 r (i:=q) (by have:=HN.out; omega);have g0:=ckb (hc q hql y hy) HBW.out;have g1:=ckb (hc' q (by have:=HN.out; omega) y' hy') HBW.out
   have hql':(q:Int) < (r.length:Int):=by have:=HN.out; omega
   have Hy:=zaa hy;have Hy':=zaa hy';clear hy hc hy' hc';have hstop:y ≠ y' → B (l = r) = false:=fun hn=>zae fun e=>hn (by have h1:=Hy.out; rw [e,Hy'.out] at h1; exact (Option.some.inj h1).symm)
   have hnx:y = y' → ∀ j,j < q + 1 → l[j]? = r[j]?:=fun e j hj=>by
    by_cases ej:j = q
    ·subst ej; rw [Hy.out,Hy'.out,e]
    ·exact HA.out j (by omega)
   have HST:=zaa hstop;have HNX:=zaa hnx;clear hstop hnx
   cases y <;> cases y'
   ·go_wp2
    go_quiet (fail)
    go_wp2;go_roundw
    case rel=>exact ⟨q + 1,by omega,by go_num,HNX.out (by first | rfl | trivial),HBW.out.trans ((zci _ _).mono HBW.out.size)⟩
    case measure=>simp [intOf]; omega
   ·go_wp2
    go_quiet (fail)
    go_wp2;go_ret;exact ⟨zad (HST.out (by decide)).symm,HBW.out.trans ((zci _ _).mono HBW.out.size)⟩
   ·go_wp2
    go_quiet (fail)
    go_wp2;go_ret;exact ⟨zad (HST.out (by decide)).symm,HBW.out.trans ((zci _ _).mono HBW.out.size)⟩
   ·go_wp2
    go_quiet (fail)
    go_wp2;go_roundw
    case rel=>exact ⟨q + 1,by omega,by go_num,HNX.out (by first | rfl | trivial),HBW.out.trans ((zci _ _).mono HBW.out.size)⟩
    case measure=>simp [intOf]; omega
  ·go_wp2;go_ret;refine ⟨zad (zam ?_).symm,HBW.out⟩;apply List.ext_getElem?;intro j;by_cases hj:j < l.length
   ·exact HA.out j (by omega)
   ·rw [List.getElem?_eq_none (by omega),List.getElem?_eq_none (by have:=HN.out; omega)]
end Go.Proofs.YtdhinkgjiapigabGreatDoor
