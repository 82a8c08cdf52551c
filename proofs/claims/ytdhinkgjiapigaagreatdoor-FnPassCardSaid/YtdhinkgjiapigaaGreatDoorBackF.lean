import Derived.Test.YtdhinkgjiapigaaGreatDoorRunS
import Derived.Test.YtdhinkgjiapigaaGreatDoorMadeA
import Derived.Test.YtdhinkgjiapigaaGreatDoorDoI4
import Derived.Test.YtdhinkgjiapigaaGreatDoorRunH
import Derived.Deep.DeepCutAuto
namespace Go.Proofs.YtdhinkgjiapigaaGreatDoor
open Go.RowKit Go.Deep
open Classical
theorem rangeI_get {n j:Nat} {x:Int} (h:((List.range n).map fun i:Nat=>(i:Int))[j]? = some x):j < n ∧ x = (j:Int):=by
 rw [List.getElem?_map] at h
 obtain ⟨a,ha,rfl⟩:=Option.map_eq_some_iff.1 h
 have hj:j < n:=by simpa using (List.getElem?_eq_some_iff.1 ha).1
 rw [List.getElem?_range hj] at ha
 cases ha
 exact ⟨hj,rfl⟩
theorem range_get2 {m j:Nat} {x:Int × Int} (h:((List.range m).map fun i:Nat=>((i:Int),(2:Int)))[j]? = some x):j < m ∧ x = ((j:Int),2):=by
 rw [List.getElem?_map] at h
 obtain ⟨a,ha,rfl⟩:=Option.map_eq_some_iff.1 h
 have hj:j < m:=by simpa using (List.getElem?_eq_some_iff.1 ha).1
 rw [List.getElem?_range hj] at ha
 cases ha
 exact ⟨hj,rfl⟩
theorem made_right {n m:Nat} {hold:Int} (h1:1 ≤ n) (hn:n ≤ 30) (hm:m ≤ n) (hh:InR hold 1 300):Right (madeD n m hold):=by
 have hls:((List.range m).map fun i:Nat=>(i:Int)).length = m:=by simp
 have hln:((List.range n).map fun i:Nat=>(i:Int)).length = n:=by simp
 have hll:((List.range m).map fun i:Nat=>((i:Int),(2:Int))).length = m:=by simp
 refine .inr ⟨fun z=>z ⟨⟨by show (1:Int) ≤ (n:Int) + 1; omega,by show (n:Int) + 1 ≤ 60; omega⟩,?_,?_,hh⟩,.inr ⟨?_,.inr ⟨?_,.inr ⟨fun z=>z rfl,.inr ⟨?_,.inr ⟨?_,rfl,rfl⟩⟩⟩⟩⟩⟩
 ·show ((List.range m).map fun i:Nat=>(i:Int)).length ≤ 40
  omega
 ·show 1 ≤ 100
  omega
 ·rintro k ⟨s,hs,hb⟩
  obtain ⟨hk,rfl⟩:=rangeI_get (show ((List.range m).map fun i:Nat=>(i:Int))[k]? = some s from hs)
  exact hb ⟨by omega,by show (k:Int) ≤ (n:Int) + 1 - 1; omega⟩
 ·rintro i ⟨x,hx,hb⟩
  have hi:i = 0:=by
   have:i < 1:=(List.getElem?_eq_some_iff.1 hx).1
   omega
  subst hi
  cases hx
  refine hb ⟨fun e=>?_,⟨fun j _ x hx=>?_,?_⟩,⟨(fun j hj=>absurd hj (by show ¬ j < 0; omega)),by show 0 ≤ 30; omega⟩,⟨fun j hj x hx=>?_,by show 1 ≤ 30; omega⟩,⟨fun j _ x hx=>?_,?_⟩,⟨(fun j hj=>absurd hj (by show ¬ j < 0; omega)),by show 0 ≤ 30; omega⟩,fun x hx=>⟨(fun y hy=>by cases hy),?_⟩,fun ⟨x,hx,_⟩=>by cases hx⟩
  ·have:=congrArg List.length e
   rw [show (madeD n m hold).sections = (n:Int) + 1 from rfl] at *
   simp at this
   omega
  ·obtain ⟨hj,rfl⟩:=rangeI_get hx
   refine ⟨⟨by omega,by show (j:Int) ≤ (n:Int) + 1 - 1; omega⟩,fun q hq e=>?_⟩
   obtain ⟨-,e2⟩:=rangeI_get e
   omega
  ·show ((List.range n).map fun i:Nat=>(i:Int)).length ≤ 30
   omega
  ·have hj0:j = 0:=by
    have:j < 1:=hj
    omega
   subst hj0
   cases hx
   exact ⟨⟨by omega,by show (n:Int) ≤ (n:Int) + 1 - 1; omega⟩,fun q hq=>absurd hq (by omega)⟩
  ·obtain ⟨hj,rfl⟩:=range_get2 hx
   refine ⟨⟨⟨by show (0:Int) ≤ (j:Int); omega,by show (j:Int) ≤ (((List.range m).map fun i:Nat=>(i:Int)).length:Int) - 1; omega⟩,⟨by show (1:Int) ≤ 2; omega,by show (2:Int) ≤ 2; omega⟩⟩,fun q y hq e=>?_⟩
   obtain ⟨-,rfl⟩:=range_get2 e
   show (q:Int) ≠ (j:Int)
   omega
  ·show ((List.range m).map fun i:Nat=>((i:Int),(2:Int))).length ≤ 30
   omega
  ·obtain ⟨j,hj⟩:=List.getElem?_of_mem hx
   obtain ⟨hj',rfl⟩:=range_get2 hj
   refine ⟨(j:Int),?_,?_⟩
   ·show ((List.range m).map fun i:Nat=>(i:Int))[((j:Int)).toNat]? = some (j:Int)
    rw [Int.toNat_natCast,List.getElem?_map,List.getElem?_range hj']
    rfl
   ·exact List.mem_map.2 ⟨j,List.mem_range.2 (by omega),rfl⟩
 ·rintro k ⟨r,hr,hb⟩
  have hk:k = 0:=by
   have:k < 1:=(List.getElem?_eq_some_iff.1 hr).1
   omega
  subst hk
  cases hr
  exact hb rfl
 ·rintro i ⟨hi,k,hk,hp⟩
  have hi':i < 1:=hi
  have hk':k < 1:=hk
  obtain rfl:i = 0:=by omega
  obtain rfl:k = 0:=by omega
  exact Pair.irrefl hp
end Go.Proofs.YtdhinkgjiapigaaGreatDoor
namespace Go.Proofs.YtdhinkgjiapigaaGreatDoor
open Go.RowKit Go.Deep
open Classical
end Go.Proofs.YtdhinkgjiapigaaGreatDoor
namespace Go.Proofs.YtdhinkgjiapigaaGreatDoor
open Go.RowKit Go.Deep
open Classical
def Bys (P:Nat → Prop) (w:World) (v:Value) (n:Nat):Prop:=Sl P v n fun b off i=>∃ x:Int,0 ≤ x ∧ x ≤ 255 ∧ w.cell? ⟨b,off + i,none⟩ = some (.int .u8 x)
theorem Bys.keep {P Q:Nat → Prop} {w w':World} {v:Value} {n:Nat} (h:Bys P w v n) (hs:Same P w w') (hP:∀ b,P b → Q b):Bys Q w' v n:=
 Sl.imp h hP fun b off i hb _ he=>by
  obtain ⟨x,h0,h1,hc⟩:=he
  exact ⟨x,h0,h1,by rw [hs b hb]; exact hc⟩
set_option maxHeartbeats 1000000 in
theorem wByte_any (a:Option Addr) (n c:Nat) (i:Nat) (w:World) (hv:Bys (In w) w (.slice a n c) n) (hn:n ≤ 1048576) (hi:i ≤ 1048576) :
  Calls Tryz.prog 24 #[.slice a n c,.int .i64 (i:Int)] w fun e w'=>∃ x:Int,e = .returned (.int .i64 x) ∧ 0 ≤ x ∧ x ≤ 255 ∧ w' = w:=by
 obtain ⟨a',c',e,hc⟩:=hv
 cases e
 rcases Nat.eq_zero_or_pos n with z | z
 ·subst z
  clear hc
  go_enter Tryz.func24,Tryz.ntmps24
  go_wp2
  go_ret
  exact ⟨0,rfl,by omega,by omega,rfl⟩
 ·obtain h0 | ⟨b,off,rfl,hb,hc⟩:=hc
  ·omega
  have hlt:=Nat.mod_lt i z
  obtain ⟨x,h0,h1,hx⟩:=hc (i % n) hlt
  have hne:((n:Int) == 0) = false:=by simp; omega
  have hnz:(n:Int) ≠ 0:=by omega
  obtain ⟨r,hr⟩:∃ r,r = i % n:=⟨_,rfl⟩
  rw [← hr] at hlt hx
  have hmod:(i:Int) % (n:Int) = (r:Int):=by rw [hr]; exact (Int.natCast_emod i n).symm
  have hmod2:Int.tmod (i:Int) (n:Int) = (r:Int):=by rw [Int.tmod_eq_emod_of_nonneg (by omega)]; exact hmod
  have hml:(r:Int) < (n:Int):=by omega
  have hw:IntKind.i64.wrap x = x:=by rw [IntKind.wrap_i64]; omega
  clear hr
  clear hc
  go_enter Tryz.func24,Tryz.ntmps24
  go_wp2
  go_ret
  exact ⟨x,rfl,h0,h1,rfl⟩
theorem wByte0 (a:Option Addr) (n c:Nat) (w:World) (hv:Bys (In w) w (.slice a n c) n) (hn:n ≤ 1048576) :
  Calls Tryz.prog 24 #[.slice a n c,.int .i64 0] w fun e w'=>∃ x:Int,e = .returned (.int .i64 x) ∧ 0 ≤ x ∧ x ≤ 255 ∧ w' = w:=wByte_any a n c 0 w hv hn (by omega)
theorem wByte1 (a:Option Addr) (n c:Nat) (w:World) (hv:Bys (In w) w (.slice a n c) n) (hn:n ≤ 1048576) :
  Calls Tryz.prog 24 #[.slice a n c,.int .i64 1] w fun e w'=>∃ x:Int,e = .returned (.int .i64 x) ∧ 0 ≤ x ∧ x ≤ 255 ∧ w' = w:=wByte_any a n c 1 w hv hn (by omega)
def evCells (l:List (Int × Int × Int)):List Value:=l.flatMap fun e=>[.int .i64 e.1,.int .i64 e.2.1,.int .i64 e.2.2]
theorem evCells_length (l:List (Int × Int × Int)):(evCells l).length = l.length * 3:=by
 unfold evCells
 induction l with
 | nil=>rfl
 | cons a l ih=>simp only [List.flatMap_cons,List.length_append,List.length_cons,List.length_nil]; omega
theorem evCells_get (l:List (Int × Int × Int)) (i:Nat) (x:Int × Int × Int) (h:l[i]? = some x):(evCells l)[i * 3]? = some (.int .i64 x.1) ∧ (evCells l)[i * 3 + 1]? = some (.int .i64 x.2.1) ∧ (evCells l)[i * 3 + 2]? = some (.int .i64 x.2.2):=by
 unfold evCells
 induction l generalizing i with
 | nil=>simp at h
 | cons a l ih=>
  cases i with
  | zero=>simp at h; subst h; exact ⟨rfl,rfl,rfl⟩
  | succ i=>
   have:=ih i (by simpa using h)
   rw [List.flatMap_cons]
   refine ⟨?_,?_,?_⟩
   ·rw [List.getElem?_append_right (by simp; omega)]
    simpa [show (i + 1) * 3 - 3 = i * 3 by omega] using this.1
   ·rw [List.getElem?_append_right (by simp; omega)]
    simpa [show (i + 1) * 3 + 1 - 3 = i * 3 + 1 by omega] using this.2.1
   ·rw [List.getElem?_append_right (by simp; omega)]
    simpa [show (i + 1) * 3 + 2 - 3 = i * 3 + 2 by omega] using this.2.2
theorem own_evs {w:World} {base:Nat} {v:Value} {l:List (Int × Int × Int)} {n:Nat} (h:w.ownsRow base 55 3 v n (evCells l)) (hl:n = l.length):Evs (fun c=>base ≤ c ∧ c < w.heap.size) w v l:=by
 subst hl
 rcases Nat.eq_zero_or_pos l.length with z | z
 ·obtain ⟨a,c,rfl⟩:=own_slice h
  exact ⟨a,c,rfl,.inl z⟩
 ·obtain ⟨g,cap,f,rfl,hb,hr,hN,hf⟩:=own_row h z
  refine ⟨_,cap,rfl,.inr ⟨g,0,rfl,⟨hb,hr.lt⟩,fun i hi x hx=>?_⟩⟩
  obtain ⟨h0,h1,h2⟩:=evCells_get l i x hx
  rw [Nat.zero_add,hr.cell (by omega),hr.cell (by omega),hr.cell (by omega),hf _ _ h0,hf _ _ h1,hf _ _ h2]
  exact ⟨rfl,rfl,rfl⟩
theorem evs_lit (W:World) (l:List (Int × Int × Int)) (hl:l.length ≤ 1000):(W.alloc (.cells (evCells l).toArray 55)).ownsRow W.heap.size 55 3 (.slice (some ⟨W.heap.size,0,none⟩) l.length l.length) l.length (evCells l):=by
 have h:=World.ownsRow_lit (base:=W.heap.size) (e:=55) (size:=3) W (evCells l).toArray l.length (Nat.le_refl _) (by unfold maxLen; omega) (by rw [List.size_toArray,evCells_length])
 simpa using h
theorem three_src {W:World} {t:TypeId} {x y z:Value}:1 = 0 ∨ ∃ A,(some (⟨W.heap.size,0,none⟩:Addr)) = some A ∧ ∀ j u,([x,y,z]:List Value)[j]? = some u → (W.alloc (.cells #[x,y,z] t)).cell? (A.add j) = some u:=by
 refine .inr ⟨_,rfl,fun j u hj=>?_⟩
 rw [addr_add,Nat.zero_add]
 have hj1:j < 3:=(List.getElem?_eq_some_iff.1 hj).1
 rw [(rowIs_new W t #[x,y,z]).cell (by simpa using hj1)]
 rcases j with _ | _ | _ | j
 ·exact hj
 ·exact hj
 ·exact hj
 ·omega
theorem three_one {x y z:Int}:∀ u ∈ ([.int .i64 x,.int .i64 y,.int .i64 z]:List Value),u.oneCell' = true:=fun u hu=>by
 simp at hu
 rcases hu with rfl | rfl | rfl <;> rfl
theorem evCells_snoc (l:List (Int × Int × Int)) (e:Int × Int × Int):evCells (l ++ [e]) = evCells l ++ [.int .i64 e.1,.int .i64 e.2.1,.int .i64 e.2.2]:=by
 unfold evCells
 rw [List.flatMap_append]
 rfl
end Go.Proofs.YtdhinkgjiapigaaGreatDoor
