import Derived.Test.YtdhinkgjiapigaaGreatDoorRunJq
namespace Go.Proofs.YtdhinkgjiapigaaGreatDoor
open Classical
def zfu (p:PlanD) (es:List (Int × Int × Int)) (i:Nat):FrameD:=zhy (zaq p) (zdu p (zaq p) (es.take i))
theorem zi8 {p:PlanD} (hp:Right p) (es:List (Int × Int × Int)) {i:Nat} (hi:i ≤ es.length):zas p (zfu p es i):=zij hp es i hi
theorem zq2 (p:PlanD) (es:List (Int × Int × Int)) (k:Nat) (hk:k ≤ es.length):∀ i,i < k → ∃ e,es[i]? = some e ∧ (zdu p (zaq p) (es.take k))[i]? = some (zdx p (zfu p es i) e):=by
 induction k with
 | zero=>intro i hi; omega
 | succ k ih=>
  intro i hi;obtain ⟨e,he⟩:=zac es (zaa rfl) (show k < es.length by omega);rw [zd9 p (zaq p) he];have hl:=zez p (zaq p) es k (by omega);by_cases h:i = k
  ·subst h;refine ⟨e,he,?_⟩;rw [List.getElem?_append_right (by omega),hl,Nat.sub_self];rfl
  ·obtain ⟨e',he',hr⟩:=ih (by omega) i (by omega);refine ⟨e',he',?_⟩;rw [List.getElem?_append_left (by rw [hl]; omega)];exact hr
theorem zrp {p:PlanD} {es:List (Int × Int × Int)} {i:Nat} (hi:i < es.length):∃ e,es[i]? = some e ∧ (zdu p (zaq p) es)[i]? = some (zdx p (zfu p es i) e):=by
 have:=zq2 p es es.length (Nat.le_refl _) i hi;rw [List.take_length] at this;exact this
theorem zqk {p:PlanD} {es:List (Int × Int × Int)} {i:Nat} {e:Int × Int × Int} (he:es[i]? = some e):zfu p es (i + 1) = (zdx p (zfu p es i) e).2:=by
 unfold zfu;rw [zd9 p (zaq p) he];unfold zhy;rw [List.getLast?_append];rfl
theorem zq3 (p:PlanD) (es:List (Int × Int × Int)):(zdu p (zaq p) es).length = es.length:=by
 have:=zez p (zaq p) es es.length (Nat.le_refl _);rw [List.take_length] at this;exact this
end Go.Proofs.YtdhinkgjiapigaaGreatDoor
namespace Go.Proofs.YtdhinkgjiapigaaGreatDoor
open Classical
end Go.Proofs.YtdhinkgjiapigaaGreatDoor
