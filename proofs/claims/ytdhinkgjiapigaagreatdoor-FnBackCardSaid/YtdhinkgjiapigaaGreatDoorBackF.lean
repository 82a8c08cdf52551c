import Derived.Test.YtdhinkgjiapigaaGreatDoorRunS
import Derived.Test.YtdhinkgjiapigaaGreatDoorMadeA
import Derived.Test.YtdhinkgjiapigaaGreatDoorDoI4
import Derived.Test.YtdhinkgjiapigaaGreatDoorRunH
import Derived.Deep.DeepCutAuto
namespace Go.Proofs.YtdhinkgjiapigaaGreatDoor
open Go.RowKit Go.Deep
open Classical
theorem rangeI_get {n j:Nat} {x:Int} (h:((List.range n).map fun i:Nat=>(i:Int))[j]? = some x):j < n ∧ x = (j:Int):=by
 rw [List.getElem?_map] at h
 obtain ⟨a,ha,rfl⟩:=Option.map_eq_some_iff.1 h
 have hj:j < n:=by simpa using (List.getElem?_eq_some_iff.1 ha).1
 rw [List.getElem?_range hj] at ha
 cases ha
 exact ⟨hj,rfl⟩
theorem range_get2 {m j:Nat} {x:Int × Int} (h:((List.range m).map fun i:Nat=>((i:Int),(2:Int)))[j]? = some x):j < m ∧ x = ((j:Int),2):=by
 rw [List.getElem?_map] at h
 obtain ⟨a,ha,rfl⟩:=Option.map_eq_some_iff.1 h
 have hj:j < m:=by simpa using (List.getElem?_eq_some_iff.1 ha).1
 rw [List.getElem?_range hj] at ha
 cases ha
 exact ⟨hj,rfl⟩
theorem made_right {n m:Nat} {hold:Int} (h1:1 ≤ n) (hn:n ≤ 30) (hm:m ≤ n) (hh:InR hold 1 300):Right (madeD n m hold):=by
 have hls:((List.range m).map fun i:Nat=>(i:Int)).length = m:=by simp
 have hln:((List.range n).map fun i:Nat=>(i:Int)).length = n:=by simp
 have hll:((List.range m).map fun i:Nat=>((i:Int),(2:Int))).length = m:=by simp
 refine .inr ⟨fun z=>z ⟨⟨by show (1:Int) ≤ (n:Int) + 1; omega,by show (n:Int) + 1 ≤ 60; omega⟩,?_,?_,hh⟩,.inr ⟨?_,.inr ⟨?_,.inr ⟨fun z=>z rfl,.inr ⟨?_,.inr ⟨?_,rfl,rfl⟩⟩⟩⟩⟩⟩
 ·show ((List.range m).map fun i:Nat=>(i:Int)).length ≤ 40
  omega
 ·show 1 ≤ 100
  omega
 ·rintro k ⟨s,hs,hb⟩
  obtain ⟨hk,rfl⟩:=rangeI_get (show ((List.range m).map fun i:Nat=>(i:Int))[k]? = some s from hs)
  exact hb ⟨by omega,by show (k:Int) ≤ (n:Int) + 1 - 1; omega⟩
 ·rintro i ⟨x,hx,hb⟩
  have hi:i = 0:=by
   have:i < 1:=(List.getElem?_eq_some_iff.1 hx).1
   omega
  subst hi
  cases hx
  refine hb ⟨fun e=>?_,⟨fun j _ x hx=>?_,?_⟩,⟨(fun j hj=>absurd hj (by show ¬ j < 0; omega)),by show 0 ≤ 30; omega⟩,⟨fun j hj x hx=>?_,by show 1 ≤ 30; omega⟩,⟨fun j _ x hx=>?_,?_⟩,⟨(fun j hj=>absurd hj (by show ¬ j < 0; omega)),by show 0 ≤ 30; omega⟩,fun x hx=>⟨(fun y hy=>by cases hy),?_⟩,fun ⟨x,hx,_⟩=>by cases hx⟩
  ·have:=congrArg List.length e
   rw [show (madeD n m hold).sections = (n:Int) + 1 from rfl] at *
   simp at this
   omega
  ·obtain ⟨hj,rfl⟩:=rangeI_get hx
   refine ⟨⟨by omega,by show (j:Int) ≤ (n:Int) + 1 - 1; omega⟩,fun q hq e=>?_⟩
   obtain ⟨-,e2⟩:=rangeI_get e
   omega
  ·show ((List.range n).map fun i:Nat=>(i:Int)).length ≤ 30
   omega
  ·have hj0:j = 0:=by
    have:j < 1:=hj
    omega
   subst hj0
   cases hx
   exact ⟨⟨by omega,by show (n:Int) ≤ (n:Int) + 1 - 1; omega⟩,fun q hq=>absurd hq (by omega)⟩
  ·obtain ⟨hj,rfl⟩:=range_get2 hx
   refine ⟨⟨⟨by show (0:Int) ≤ (j:Int); omega,by show (j:Int) ≤ (((List.range m).map fun i:Nat=>(i:Int)).length:Int) - 1; omega⟩,⟨by show (1:Int) ≤ 2; omega,by show (2:Int) ≤ 2; omega⟩⟩,fun q y hq e=>?_⟩
   obtain ⟨-,rfl⟩:=range_get2 e
   show (q:Int) ≠ (j:Int)
   omega
  ·show ((List.range m).map fun i:Nat=>((i:Int),(2:Int))).length ≤ 30
   omega
  ·obtain ⟨j,hj⟩:=List.getElem?_of_mem hx
   obtain ⟨hj',rfl⟩:=range_get2 hj
   refine ⟨(j:Int),?_,?_⟩
   ·show ((List.range m).map fun i:Nat=>(i:Int))[((j:Int)).toNat]? = some (j:Int)
    rw [Int.toNat_natCast,List.getElem?_map,List.getElem?_range hj']
    rfl
   ·exact List.mem_map.2 ⟨j,List.mem_range.2 (by omega),rfl⟩
 ·rintro k ⟨r,hr,hb⟩
  have hk:k = 0:=by
   have:k < 1:=(List.getElem?_eq_some_iff.1 hr).1
   omega
  subst hk
  cases hr
  exact hb rfl
 ·rintro i ⟨hi,k,hk,hp⟩
  have hi':i < 1:=hi
  have hk':k < 1:=hk
  obtain rfl:i = 0:=by omega
  obtain rfl:k = 0:=by omega
  exact Pair.irrefl hp
def fB (o0 o3:Bool) (h:HeldD):FrameD:=⟨true,[o0,false,false,o3],[],[h]⟩
def hT (t:Int):HeldD:=⟨3,0,[false,false,false],true,t⟩
def hC:HeldD:=⟨2,0,[false,false,false],true,0⟩
def hU:HeldD:=⟨4,0,[true,false,false],true,0⟩
theorem back_in (hold t:Int):stepD (madeD 3 0 hold) (fB false true (hT t)) (3,0,0) = (0,fB true true hU):=by kernel_rfl
theorem back_used (hold:Int):stepD (madeD 3 0 hold) (fB true true hU) (7,0,0) = (0,fB true true hU):=by kernel_rfl
theorem back_last (hold:Int):stepD (madeD 3 0 hold) (fB false true (hT 1)) (7,0,0) = (0,fB false true (idleD 3)):=by kernel_rfl
theorem back_tick (hold:Int) {t:Int} (h:t ≠ 1):stepD (madeD 3 0 hold) (fB false true (hT t)) (7,0,0) = (0,fB false true (hT (t - 1))):=by
 have ht:tickH (hT t) = hT (t - 1):=by
  unfold tickH
  rw [if_pos (show (hT t).state = 3 from rfl),if_neg (show ¬ (hT t).timer - 1 = 0 by show ¬ t - 1 = 0; omega)]
  rfl
 have hev:evD (madeD 3 0 hold) (fB false true (hT t)) 7 0 0 = (0,fB false true (tickH (hT t))):=by kernel_rfl
 rw [stepD_yes (show EvOf (madeD 3 0 hold) (7,0,0) from .inr (.inr (.inr (.inr ⟨rfl,rfl,rfl⟩))))]
 show doD (madeD 3 0 hold) (fB false true (hT t)) 7 0 0 = _
 unfold doD
 rw [hev,ht]
 kernel_rfl
def gB (o3:Bool) (wn:Int) (h:HeldD):FrameD:=⟨true,[false,false,false,o3],[(wn,1)],[h]⟩
theorem back2 (hold:Int):(runsD (madeD 3 1 hold) (beginD (madeD 3 1 hold)) [(3,3,0),(1,0,0),(2,0,0)]) = [(0,gB true 1 (idleD 3)),(0,gB true 2 ⟨1,0,[false,false,false],false,0⟩),(0,gB true 2 (idleD 3))]:=by kernel_rfl
theorem back1 (hold:Int):(runsD (madeD 3 0 hold) (beginD (madeD 3 0 hold)) [(1,0,0),(2,0,0)]) = [(0,fB false false hC),(0,fB false false (idleD 3))]:=by kernel_rfl
end Go.Proofs.YtdhinkgjiapigaaGreatDoor
namespace Go.Proofs.YtdhinkgjiapigaaGreatDoor
open Go.RowKit Go.Deep
open Classical
def evRound (inn k:Nat):List (Int × Int × Int):=if k = inn then [(3,0,0),(7,0,0)] else [(7,0,0)]
def evsB (inn k:Nat):List (Int × Int × Int):=[(3,3,0),(1,0,0),(2,0,0)] ++ (List.range k).flatMap (evRound inn)
theorem evsB_succ (inn k:Nat):evsB inn (k + 1) = evsB inn k ++ evRound inn k:=by
 unfold evsB
 rw [List.range_succ,List.flatMap_append,← List.append_assoc]
 simp
def stI (H inn i:Nat):Int:=if i = 0 then 0 else if i = 1 then 2 else if i < 3 + inn ∧ ¬ (inn = H ∧ i = H + 2) then 3 else if inn < H then 4 else 0
def lenB (inn k:Nat):Nat:=3 + k + if inn < k then 1 else 0
theorem evsB_length (inn k:Nat):(evsB inn k).length = lenB inn k:=by
 induction k with
 | zero=>rfl
 | succ k ih=>
  rw [evsB_succ,List.length_append,ih]
  unfold evRound lenB
  by_cases e:k = inn
  ·rw [if_pos e,if_neg (by omega),if_pos (by omega)]
   rfl
  ·rw [if_neg e]
   by_cases q:inn < k
   ·rw [if_pos q,if_pos (by omega)]
    rfl
   ·rw [if_neg q,if_neg (by omega)]
    rfl
theorem snoc_states {L:List (Int × FrameD)} {S:Nat → Int} {x:Int × FrameD} {n:Nat} (h:∀ (i:Nat) y,L[i]? = some y → ∃ g,y.2.ways = [g] ∧ g.state = S i) (hl:L.length = n) (hx:∃ g,x.2.ways = [g] ∧ g.state = S n):∀ (i:Nat) y,(L ++ [x])[i]? = some y → ∃ g,y.2.ways = [g] ∧ g.state = S i:=fun i y hy=>by
 by_cases e:i < L.length
 ·rw [List.getElem?_append_left e] at hy
  exact h i y hy
 ·have hi:i = L.length:=by
   have:=(List.getElem?_eq_some_iff.1 hy).1
   rw [List.length_append] at this
   simp at this
   omega
  subst hi
  rw [List.getElem?_append_right (Nat.le_refl _),Nat.sub_self] at hy
  cases hy
  rw [hl]
  exact hx
theorem back3 {H inn:Nat} (h1:1 ≤ H) (hin:inn ≤ H) (k:Nat) (hk:k ≤ H) :
  (runsD (madeD 3 0 (H:Int)) (beginD (madeD 3 0 (H:Int))) (evsB inn k)).length = lenB inn k ∧
  lastF (beginD (madeD 3 0 (H:Int))) (runsD (madeD 3 0 (H:Int)) (beginD (madeD 3 0 (H:Int))) (evsB inn k)) = (if inn < k then fB true true hU else if k = H then fB false true (idleD 3) else fB false true (hT ((H:Int) - k))) ∧
  ∀ (i:Nat) y,(runsD (madeD 3 0 (H:Int)) (beginD (madeD 3 0 (H:Int))) (evsB inn k))[i]? = some y → ∃ g,y.2.ways = [g] ∧ g.state = stI H inn i:=by
 induction k with
 | zero=>
  have e:runsD (madeD 3 0 (H:Int)) (beginD (madeD 3 0 (H:Int))) (evsB inn 0) = [(0,fB false true (idleD 3)),(0,fB false true hC),(0,fB false true (hT (H:Int)))]:=by kernel_rfl
  rw [e]
  refine ⟨rfl,?_,fun i y hy=>?_⟩
  ·rw [if_neg (by omega),if_neg (by omega)]
   show fB false true (hT (H:Int)) = fB false true (hT ((H:Int) - 0))
   rw [Int.sub_zero]
  ·rcases i with _ | _ | _ | i
   ·cases hy; exact ⟨_,rfl,rfl⟩
   ·cases hy; exact ⟨_,rfl,rfl⟩
   ·cases hy
    refine ⟨_,rfl,?_⟩
    unfold stI
    rw [if_neg (by omega),if_neg (by omega),if_pos ⟨by omega,by omega⟩]
    rfl
   ·cases hy
 | succ k ih=>
  obtain ⟨i1,i2,i3⟩:=ih (by omega)
  rw [evsB_succ]
  obtain ⟨L,hL⟩:∃ L,L = runsD (madeD 3 0 (H:Int)) (beginD (madeD 3 0 (H:Int))) (evsB inn k):=⟨_,rfl⟩
  obtain ⟨F,hF⟩:∃ F,F = beginD (madeD 3 0 (H:Int)):=⟨_,rfl⟩
  rw [← hF] at hL
  rw [← hF,← hL] at i1 i2 i3
  rw [← hF]
  have hone:∀ e,runsD (madeD 3 0 (H:Int)) F (evsB inn k ++ [e]) = L ++ [stepD (madeD 3 0 (H:Int)) (lastF F L) e]:=fun e=>by rw [runs_snoc,← hL]
  by_cases c1:k = inn
  ·subst c1
   unfold evRound
   rw [if_neg (by omega),if_neg (by omega)] at i2
   rw [if_pos rfl]
   rw [show ([(3,0,0),(7,0,0)]:List (Int × Int × Int)) = [(3,0,0)] ++ [(7,0,0)] from rfl,← List.append_assoc,runs_snoc,hone,lastF_snoc,i2,back_in]
   rw [show stepD (madeD 3 0 (H:Int)) ((0:Int),fB true true hU).2 (7,0,0) = (0,fB true true hU) from back_used _]
   have hl:L.length = 3 + k:=by rw [i1]; unfold lenB; rw [if_neg (by omega)]; rfl
   have h3:stI H k (3 + k) = 4:=by unfold stI; rw [if_neg (by omega),if_neg (by omega),if_neg (by omega),if_pos (by omega)]
   have h4:stI H k (3 + k + 1) = 4:=by unfold stI; rw [if_neg (by omega),if_neg (by omega),if_neg (by omega),if_pos (by omega)]
   refine ⟨?_,?_,snoc_states (n:=3 + k + 1) (snoc_states i3 hl ⟨_,rfl,h3.symm⟩) (by rw [List.length_append,hl]; rfl) ⟨_,rfl,h4.symm⟩⟩
   ·rw [List.length_append,List.length_append,hl]
    unfold lenB
    rw [if_pos (by omega)]
    rfl
   ·rw [lastF_snoc,if_pos (by omega)]
  ·unfold evRound
   rw [if_neg c1,hone,i2]
   by_cases c2:inn < k
   ·rw [if_pos c2,back_used]
    have hl:L.length = 3 + k + 1:=by rw [i1]; unfold lenB; rw [if_pos c2]
    have h3:stI H inn (3 + k + 1) = 4:=by unfold stI; rw [if_neg (by omega),if_neg (by omega),if_neg (by omega),if_pos (by omega)]
    refine ⟨?_,?_,snoc_states i3 hl ⟨_,rfl,h3.symm⟩⟩
    ·rw [List.length_append,hl]
     unfold lenB
     rw [if_pos (by omega)]
     rfl
    ·rw [lastF_snoc,if_pos (by omega)]
   ·rw [if_neg c2,if_neg (by omega)]
    have hl:L.length = 3 + k:=by rw [i1]; unfold lenB; rw [if_neg c2]; rfl
    by_cases c3:k + 1 = H
    ·have ht:(H:Int) - (k:Int) = 1:=by omega
     rw [ht,back_last]
     have h3:stI H inn (3 + k) = 0:=by unfold stI; rw [if_neg (by omega),if_neg (by omega),if_neg (by omega),if_neg (by omega)]
     refine ⟨?_,?_,snoc_states i3 hl ⟨_,rfl,h3.symm⟩⟩
     ·rw [List.length_append,hl]
      unfold lenB
      rw [if_neg (by omega)]
      rfl
     ·rw [lastF_snoc,if_neg (by omega),if_pos c3]
    ·rw [back_tick _ (by omega)]
     have h3:stI H inn (3 + k) = 3:=by unfold stI; rw [if_neg (by omega),if_neg (by omega),if_pos ⟨by omega,by omega⟩]
     refine ⟨?_,?_,snoc_states i3 hl ⟨_,rfl,h3.symm⟩⟩
     ·rw [List.length_append,hl]
      unfold lenB
      rw [if_neg (by omega)]
      rfl
     ·rw [lastF_snoc,if_neg (by omega),if_neg c3]
      show fB false true (hT ((H:Int) - (k:Int) - 1)) = fB false true (hT ((H:Int) - ((k + 1:Nat):Int)))
      rw [show (H:Int) - (k:Int) - 1 = (H:Int) - ((k + 1:Nat):Int) by omega]
end Go.Proofs.YtdhinkgjiapigaaGreatDoor
namespace Go.Proofs.YtdhinkgjiapigaaGreatDoor
open Go.RowKit Go.Deep
open Classical
def Bys (P:Nat → Prop) (w:World) (v:Value) (n:Nat):Prop:=Sl P v n fun b off i=>∃ x:Int,0 ≤ x ∧ x ≤ 255 ∧ w.cell? ⟨b,off + i,none⟩ = some (.int .u8 x)
theorem Bys.keep {P Q:Nat → Prop} {w w':World} {v:Value} {n:Nat} (h:Bys P w v n) (hs:Same P w w') (hP:∀ b,P b → Q b):Bys Q w' v n:=
 Sl.imp h hP fun b off i hb _ he=>by
  obtain ⟨x,h0,h1,hc⟩:=he
  exact ⟨x,h0,h1,by rw [hs b hb]; exact hc⟩
set_option maxHeartbeats 1000000 in
theorem wByte_any (a:Option Addr) (n c:Nat) (i:Nat) (w:World) (hv:Bys (In w) w (.slice a n c) n) (hn:n ≤ 1048576) (hi:i ≤ 1048576) :
  Calls Tryz.prog 24 #[.slice a n c,.int .i64 (i:Int)] w fun e w'=>∃ x:Int,e = .returned (.int .i64 x) ∧ 0 ≤ x ∧ x ≤ 255 ∧ w' = w:=by
 obtain ⟨a',c',e,hc⟩:=hv
 cases e
 rcases Nat.eq_zero_or_pos n with z | z
 ·subst z
  clear hc
  go_enter Tryz.func24,Tryz.ntmps24
  go_wp2
  go_ret
  exact ⟨0,rfl,by omega,by omega,rfl⟩
 ·obtain h0 | ⟨b,off,rfl,hb,hc⟩:=hc
  ·omega
  have hlt:=Nat.mod_lt i z
  obtain ⟨x,h0,h1,hx⟩:=hc (i % n) hlt
  have hne:((n:Int) == 0) = false:=by simp; omega
  have hnz:(n:Int) ≠ 0:=by omega
  obtain ⟨r,hr⟩:∃ r,r = i % n:=⟨_,rfl⟩
  rw [← hr] at hlt hx
  have hmod:(i:Int) % (n:Int) = (r:Int):=by rw [hr]; exact (Int.natCast_emod i n).symm
  have hmod2:Int.tmod (i:Int) (n:Int) = (r:Int):=by rw [Int.tmod_eq_emod_of_nonneg (by omega)]; exact hmod
  have hml:(r:Int) < (n:Int):=by omega
  have hw:IntKind.i64.wrap x = x:=by rw [IntKind.wrap_i64]; omega
  clear hr
  clear hc
  go_enter Tryz.func24,Tryz.ntmps24
  go_wp2
  go_ret
  exact ⟨x,rfl,h0,h1,rfl⟩
theorem wByte0 (a:Option Addr) (n c:Nat) (w:World) (hv:Bys (In w) w (.slice a n c) n) (hn:n ≤ 1048576) :
  Calls Tryz.prog 24 #[.slice a n c,.int .i64 0] w fun e w'=>∃ x:Int,e = .returned (.int .i64 x) ∧ 0 ≤ x ∧ x ≤ 255 ∧ w' = w:=wByte_any a n c 0 w hv hn (by omega)
theorem wByte1 (a:Option Addr) (n c:Nat) (w:World) (hv:Bys (In w) w (.slice a n c) n) (hn:n ≤ 1048576) :
  Calls Tryz.prog 24 #[.slice a n c,.int .i64 1] w fun e w'=>∃ x:Int,e = .returned (.int .i64 x) ∧ 0 ≤ x ∧ x ≤ 255 ∧ w' = w:=wByte_any a n c 1 w hv hn (by omega)
theorem made3 (m H:Nat) (k:Int) (w:World) (hm:m ≤ 1) (hk:k = (m:Int)) :
  Calls Tryz.prog 25 #[.int .i64 3,.int .i64 k,.int .i64 (H:Int)] w fun e w'=>∃ v1 v2 v3,e = .returned (.agg #[.int .i64 (madeD 3 m H).sections,v1,v2,v3,.int .i64 (madeD 3 m H).hold]) ∧ Below w.heap.size w w' ∧ PlanAt (In w') w' v1 v2 v3 (madeD 3 m H) ∧ WaysC (In w') w' v2 (madeD 3 m H).ways:=by
 subst hk
 exact madeWay_any 3 m H w (by omega) (by omega)
def evCells (l:List (Int × Int × Int)):List Value:=l.flatMap fun e=>[.int .i64 e.1,.int .i64 e.2.1,.int .i64 e.2.2]
theorem evCells_length (l:List (Int × Int × Int)):(evCells l).length = l.length * 3:=by
 unfold evCells
 induction l with
 | nil=>rfl
 | cons a l ih=>simp only [List.flatMap_cons,List.length_append,List.length_cons,List.length_nil]; omega
theorem evCells_get (l:List (Int × Int × Int)) (i:Nat) (x:Int × Int × Int) (h:l[i]? = some x):(evCells l)[i * 3]? = some (.int .i64 x.1) ∧ (evCells l)[i * 3 + 1]? = some (.int .i64 x.2.1) ∧ (evCells l)[i * 3 + 2]? = some (.int .i64 x.2.2):=by
 unfold evCells
 induction l generalizing i with
 | nil=>simp at h
 | cons a l ih=>
  cases i with
  | zero=>simp at h; subst h; exact ⟨rfl,rfl,rfl⟩
  | succ i=>
   have:=ih i (by simpa using h)
   rw [List.flatMap_cons]
   refine ⟨?_,?_,?_⟩
   ·rw [List.getElem?_append_right (by simp; omega)]
    simpa [show (i + 1) * 3 - 3 = i * 3 by omega] using this.1
   ·rw [List.getElem?_append_right (by simp; omega)]
    simpa [show (i + 1) * 3 + 1 - 3 = i * 3 + 1 by omega] using this.2.1
   ·rw [List.getElem?_append_right (by simp; omega)]
    simpa [show (i + 1) * 3 + 2 - 3 = i * 3 + 2 by omega] using this.2.2
theorem own_evs {w:World} {base:Nat} {v:Value} {l:List (Int × Int × Int)} {n:Nat} (h:w.ownsRow base 55 3 v n (evCells l)) (hl:n = l.length):Evs (fun c=>base ≤ c ∧ c < w.heap.size) w v l:=by
 subst hl
 rcases Nat.eq_zero_or_pos l.length with z | z
 ·obtain ⟨a,c,rfl⟩:=own_slice h
  exact ⟨a,c,rfl,.inl z⟩
 ·obtain ⟨g,cap,f,rfl,hb,hr,hN,hf⟩:=own_row h z
  refine ⟨_,cap,rfl,.inr ⟨g,0,rfl,⟨hb,hr.lt⟩,fun i hi x hx=>?_⟩⟩
  obtain ⟨h0,h1,h2⟩:=evCells_get l i x hx
  rw [Nat.zero_add,hr.cell (by omega),hr.cell (by omega),hr.cell (by omega),hf _ _ h0,hf _ _ h1,hf _ _ h2]
  exact ⟨rfl,rfl,rfl⟩
theorem evs_lit (W:World) (l:List (Int × Int × Int)) (hl:l.length ≤ 1000):(W.alloc (.cells (evCells l).toArray 55)).ownsRow W.heap.size 55 3 (.slice (some ⟨W.heap.size,0,none⟩) l.length l.length) l.length (evCells l):=by
 have h:=World.ownsRow_lit (base:=W.heap.size) (e:=55) (size:=3) W (evCells l).toArray l.length (Nat.le_refl _) (by unfold maxLen; omega) (by rw [List.size_toArray,evCells_length])
 simpa using h
theorem three_src {W:World} {t:TypeId} {x y z:Value}:1 = 0 ∨ ∃ A,(some (⟨W.heap.size,0,none⟩:Addr)) = some A ∧ ∀ j u,([x,y,z]:List Value)[j]? = some u → (W.alloc (.cells #[x,y,z] t)).cell? (A.add j) = some u:=by
 refine .inr ⟨_,rfl,fun j u hj=>?_⟩
 rw [addr_add,Nat.zero_add]
 have hj1:j < 3:=(List.getElem?_eq_some_iff.1 hj).1
 rw [(rowIs_new W t #[x,y,z]).cell (by simpa using hj1)]
 rcases j with _ | _ | _ | j
 ·exact hj
 ·exact hj
 ·exact hj
 ·omega
theorem three_one {x y z:Int}:∀ u ∈ ([.int .i64 x,.int .i64 y,.int .i64 z]:List Value),u.oneCell' = true:=fun u hu=>by
 simp at hu
 rcases hu with rfl | rfl | rfl <;> rfl
theorem evCells_snoc (l:List (Int × Int × Int)) (e:Int × Int × Int):evCells (l ++ [e]) = evCells l ++ [.int .i64 e.1,.int .i64 e.2.1,.int .i64 e.2.2]:=by
 unfold evCells
 rw [List.flatMap_append]
 rfl
theorem dones_at {base:Nat} {W:World} {v:Value} {l:List (Int × FrameD)} {lo:Nat → Nat} {i:Nat} {x:Int × FrameD} {g:HeldD} (h:DonesO base W v l lo) (hi:l[i]? = some x) (hw:x.2.ways = [g]):∃ gb cap u0 u1 bo n2 c2 a3 n3 c3 bw cw,v = .slice (some ⟨gb,0,none⟩) l.length cap ∧ W.cell? ⟨gb,i * 5,none⟩ = some (.int .i64 u0) ∧ W.cell? ⟨gb,i * 5 + 1,none⟩ = some (.bool u1) ∧ W.cell? ⟨gb,i * 5 + 2,none⟩ = some (.slice (some ⟨bo,0,none⟩) n2 c2) ∧ W.cell? ⟨gb,i * 5 + 3,none⟩ = some (.slice a3 n3 c3) ∧ W.cell? ⟨gb,i * 5 + 4,none⟩ = some (.slice (some ⟨bw,0,none⟩) 1 cw) ∧ W.cell? ⟨bw,0,none⟩ = some (.int .i64 g.state):=by
 obtain ⟨⟨a,cap,rfl,hc⟩,-,-,-⟩:=h
 have hil:i < l.length:=(List.getElem?_eq_some_iff.1 hi).1
 obtain z | ⟨gb,N,f,rfl,hg,hr,hN,hf⟩:=hc
 ·omega
 obtain ⟨bo,bp,bw,bb,h0,h1,h2⟩:=hf i x hi
 obtain ⟨aw,cw,e,hcw⟩:=h2.ways
 rw [hw] at hcw e
 obtain z | ⟨rfl,f2,N2,hr2,hN2,hf2⟩:=hcw
 ·exact absurd (show [g].length = 0 from z) (by simp)
 obtain ⟨k0,-⟩:=hf2 0 g rfl
 have hl1:[g].length * 5 ≤ N2:=hN2
 simp at hl1
 obtain ⟨g5,N5,c5,e5,-⟩:=h2.occ
 obtain ⟨a6,c6,e6,-⟩:=h2.points
 refine ⟨gb,cap,x.1,x.2.ok,bo,_,c5,a6,_,c6,bw,cw,rfl,by rw [hr.cell (by omega),h0],by rw [hr.cell (by omega),h1],by rw [hr.cell (by omega),e5],by rw [hr.cell (by omega),e6],by rw [hr.cell (by omega),e]; rfl,by rw [hr2.cell (by omega),show (0:Nat) = 0 * 5 by rfl,k0]⟩
end Go.Proofs.YtdhinkgjiapigaaGreatDoor
