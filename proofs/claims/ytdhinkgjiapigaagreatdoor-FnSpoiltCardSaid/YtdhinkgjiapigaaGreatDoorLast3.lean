import Derived.Test.YtdhinkgjiapigaaGreatDoorDrawE
import Derived.Test.YtdhinkgjiapigaaGreatDoorDltp
namespace Go.Proofs.YtdhinkgjiapigaaGreatDoor
open Go
section
variable {P : Program} {md : Region.Mode} {ops : Array Oper} {Q : Exit → Act → World → Prop} {S : World → Prop}
theorem zvs {m i:Nat} {oi:Oper} {v:Value} (hi:ops[i]? = some oi) (hsel:∀ (j:Nat) (o:Oper) cs b,ops[j]? = some o → o.op ≠ .select cs b) (hQ:∀ c a w,Q (.panic c) (a.put oi.dst v) w → Q (.panic c) a w)
  (hm:ops.size ≤ m):∀ (fuel:Nat) (listed:Array Bool) (a:Act) (w:World),
   (∀ j oj,ops[j]? = some oj → j ≠ i → listed.getD j true = false → (∀ e ∈ oj.after,Region.binds md e = true → e.on ≠ i) → oi.apart ops oj = true) →
   i ∈ Region.ready md ops listed → YieldsIf P ops S oi v a → S w →
   zbq P md ops Q S m fuel (listed.setIfInBounds i true) (a.put oi.dst v) w → zbq P md ops Q S m (fuel + 1) listed a w:=by
 intro fuel
 induction fuel with
 | zero=>
  intro listed a w _ hr hy hS H;refine ⟨fun h=>(by rw [h] at hr; cases hr),fun j hj=>?_⟩;by_cases e:j = i
  ·subst e;exact hy.wpOp hi hS ⟨fun _=>hS,H⟩
  ·have k:=ready_mono hj e;rw [H.1] at k
   cases k
 | succ fuel ih=>
  intro listed a w hf hr hy hS H;refine ⟨fun h=>(by rw [h] at hr; cases hr),fun j hj=>?_⟩;by_cases e:j = i
  ·subst e;exact hy.wpOp hi hS ⟨fun _=>hS,H⟩
  obtain ⟨hjun,oj,hoj,hall⟩:=mem_ready.1 hj
  have hnot:∀ d ∈ oj.after,Region.binds md d = true → d.on ≠ i:=fun d hd hb q=>by
   have h1:=hall d hd hb;have h0:=(mem_ready.1 hr).1;rw [q] at h1;rcases Nat.lt_or_ge i listed.size with z | z
   ·simp [z] at h0 h1;rw [h0] at h1
    cases h1
   ·simp [Array.getElem?_eq_none z] at h1
  have hjm:j ≠ m:=fun q=>by
   have:=(Array.getElem?_eq_some_iff.1 hoj).1;omega
  have h2:=wpOp_putIf hoj (hf j oj hoj e hjun hnot) (fun cs b=>hsel i oi cs b hi) (fun cs b=>hsel j oj cs b hoj) hQ hy (H.2 j (ready_mono hj e));refine wpOp_mono (fun a' w' h3=>⟨h3.2.1,ih (listed.setIfInBounds j true) a' w' (fun k ok hk hki hun hno=>?_) (ready_mono hr (Ne.symm e)) h3.1 (h3.2.1 hjm) ?_⟩) h2
  ·refine hf k ok hk hki ?_ hno;by_cases q:j = k
   ·subst q; exact hjun
   ·rw [getD_set_ne true q] at hun; exact hun
  ·rw [Array.setIfInBounds_comm _ _ e];exact h3.2.2
end
section
variable {P : Program} {Q : Exit → Act → World → Prop} {S : World → Prop} {l : List Oper}
def tfOk (l:List Oper) (listed:Array Bool) (m i:Nat):Bool:=Region.noSelect l.toArray && (Region.free .any l.toArray listed i && ((Region.ready .any l.toArray listed).contains i && decide (l.toArray.size ≤ m)))
theorem tfOk.all {listed:Array Bool} {m i:Nat} (h:tfOk l listed m i = true):Region.noSelect l.toArray = true ∧ Region.free .any l.toArray listed i = true ∧ (Region.ready .any l.toArray listed).contains i = true ∧ l.toArray.size ≤ m:=by
 unfold tfOk at h;rw [Bool.and_eq_true,Bool.and_eq_true,Bool.and_eq_true,decide_eq_true_iff] at h;exact h
theorem tfY {m i:Nat} {oi:Oper} {v:Value} {fuel:Nat} {listed:Array Bool} {a:Act} {w:World} (hi:At l i oi) (hc:tfOk l listed m i = true) (hQ:∀ c a w,Q (.panic c) (a.put oi.dst v) w → Q (.panic c) a w) (hy:YieldsIf P l.toArray S oi v a) (hS:S w)
  (h:zbq P .any l.toArray Q S m fuel (listed.setIfInBounds i true) (a.put oi.dst v) w):zbq P .any l.toArray Q S m (fuel + 1) listed a w:=
 zvs hi.arr (Region.noSelect_spec (tfOk.all hc).1) hQ (tfOk.all hc).2.2.2 fuel listed a w (Region.free_spec hi.arr (tfOk.all hc).2.1) (by simpa using (tfOk.all hc).2.2.1) hy hS h
theorem tfG {m i:Nat} {oi:Oper} {v:Value} {fuel:Nat} {listed:Array Bool} {a:Act} {w:World} (hi:At l i oi) (hc:tfOk l listed m i = true) (hQ:∀ c a w,Q (.panic c) (a.put oi.dst v) w → Q (.panic c) a w) (hg:Region.wanted oi (yielded l.toArray a.tmps) = true) (hy:∀ w,S w → (execOp a.eval oi).run P w = .ok (.value v) w) (hS:S w)
  (h:zbq P .any l.toArray Q S m fuel (listed.setIfInBounds i true) (a.put oi.dst v) w):zbq P .any l.toArray Q S m (fuel + 1) listed a w:=tfY hi hc hQ (.inl ⟨hg,hy⟩) hS h
theorem zwt {id:Nat} (m n:Nat) {a:Act} {w:World} (hm:P.follows .mixedOrders = true) (hn:l.toArray.size = n) (hS:S w.drew) (h:S w.drew → zbq P .any l.toArray Q S m n (Array.replicate n false) a w.drew):(Code.region id l.toArray true).wp P Q a w:=by
 subst hn;exact zh3 hm (h hS)
theorem tfI {m:Nat} {oi:Oper} {v:Value} {fuel:Nat} {listed:Array Bool} {a:Act} {w:World} (hi:l[m - (fuel + 1)]? = some oi) (hc:tfOk l listed m (m - (fuel + 1)) = true) (hQ:∀ c a w,Q (.panic c) (a.put oi.dst v) w → Q (.panic c) a w) (hg:Region.wanted oi (yielded l.toArray a.tmps) = true) (hy:∀ w,S w → (execOp a.eval oi).run P w = .ok (.value v) w) (hS:S w)
  (h:zbq P .any l.toArray Q S m fuel (listed.setIfInBounds (m - (fuel + 1)) true) (a.put oi.dst v) w):zbq P .any l.toArray Q S m (fuel + 1) listed a w:=tfY hi hc hQ (.inl ⟨hg,hy⟩) hS h
end
end Go.Proofs.YtdhinkgjiapigaaGreatDoor
