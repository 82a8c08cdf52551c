import Derived.Test.YtdhinkgjiapigaaGreatDoorRunS
namespace Go.Proofs.YtdhinkgjiapigaaGreatDoor
open Classical Go.Deep Go.RowKit
theorem lA {W:World}{c t N:Nat}{f:Nat->Value}(h:W.rowIs c t N f) (b o:Nat) (u:Value):∃f',(W.setCell ⟨b,o,none⟩ u).rowIs c t N f':=by
 by_cases e:b=c
 ·subst e;exact⟨_,h.set o u⟩
 ·exact⟨f,((But.refl (fun x=>x≠b) W).setCell (p:=⟨b,o,none⟩) (fun z=>z rfl) u).row h (Ne.symm e)⟩
structure ShT (W:World) (bo no bp np bw nw:Nat) (bb nb:Nat->Nat):Prop where
 aH:∃f N,W.rowIs bo 4 N f∧no<=N
 pts:np≠0->∃f N,W.rowIs bp 46 N f∧np*2<=N
 aB:nw≠0->∃f N,W.rowIs bw 44 N f∧nw*5<=N∧∀k,k<nw->∃cap,f (k*5+2)=.slice (some ⟨bb k,0,none⟩) (nb k) cap
 aL:∀k,k<nw->∃f N,W.rowIs (bb k) 4 N f∧nb k<=N
section
variable {W W' : World}{bo no bp np bw nw : Nat}{bb nb : Nat->Nat}
theorem ShT.set (h:ShT W bo no bp np bw nw bb nb) (b o:Nat) (u:Value) (m:nw≠0->b=bw->o % 5≠2):ShT (W.setCell ⟨b,o,none⟩ u) bo no bp np bw nw bb nb:=by
 refine⟨?_,fun z=>?_,fun z=>?_,fun k j=>?_⟩
 ·obtain⟨f,N,d,c⟩:=h.aH;obtain⟨g,a⟩:=lA d b o u;exact⟨g,N,a,c⟩
 ·obtain⟨f,N,d,c⟩:=h.pts z;obtain⟨g,a⟩:=lA d b o u;exact⟨g,N,a,c⟩
 ·obtain⟨f,N,d,c,l⟩:=h.aB z;by_cases e:b=bw
  ·have q:=m z e;subst e;refine⟨_,N,d.set o u,c,fun k j=>?_⟩;obtain⟨i,n⟩:=l k j;refine⟨i,?_⟩;rw[← n];exact if_neg (by omega)
  ·exact⟨f,N,((But.refl (fun x=>x≠b) W).setCell (p:=⟨b,o,none⟩) (fun z=>z rfl) u).row d (Ne.symm e),c,l⟩
 ·obtain⟨f,N,d,c⟩:=h.aL k j;obtain⟨g,a⟩:=lA d b o u;exact⟨g,N,a,c⟩
theorem ShT.call (h:ShT W bo no bp np bw nw bb nb) (c:Below W.heap.size W W'):ShT W' bo no bp np bw nw bb nb:=by
 refine⟨?_,fun z=>?_,fun z=>?_,fun k e=>?_⟩
 ·obtain⟨f,N,b,a⟩:=h.aH;exact⟨f,N,dP b c,a⟩
 ·obtain⟨f,N,b,a⟩:=h.pts z;exact⟨f,N,dP b c,a⟩
 ·obtain⟨f,N,b,a,d⟩:=h.aB z;exact⟨f,N,dP b c,a,d⟩
 ·obtain⟨f,N,b,a⟩:=h.aL k e;exact⟨f,N,dP b c,a⟩
end
def nK (d:aF) (k:Nat):Nat:=((d.aB[k]?).map fun x=>x.aL.length).getD 0
theorem sY {d:aF}{m:Nat}(h:∀x∈d.aB,x.aL.length<=m) (k:Nat):nK d k<=m:=by
 unfold nK
 cases e:d.aB[k]? with
 | none=>exact Nat.zero_le _
 | some x=>exact h x (List.mem_of_getElem? e)
theorem aP.shape {P:Nat->Prop}{W:World}{v1 v2 v3:Value}{d:aF}{bo bp bw:Nat}{bb:Nat->Nat}(h:aP P W v1 v2 v3 d bo bp bw bb) :
  (∃c,v1=.slice (some ⟨bo,0,none⟩) d.aH.length c)∧(∃a c,v2=.slice a d.aC.length c∧(d.aC.length≠0->a=some ⟨bp,0,none⟩))∧(∃a c,v3=.slice a d.aB.length c∧(d.aB.length≠0->a=some ⟨bw,0,none⟩))∧ShT W bo d.aH.length bp d.aC.length bw d.aB.length bb (nK d):=by
 obtain⟨f,N,c,B,i,b,-⟩:=h.aH;obtain⟨u,w,C,t⟩:=h.aC;obtain⟨v,y,D,m⟩:=h.aB;have l:∀k,k<d.aB.length->∃x,d.aB[k]?=some x∧nK d k=x.aL.length:=fun k g=>⟨d.aB[k],List.getElem?_eq_getElem g,by unfold nK; rw[List.getElem?_eq_getElem g]; rfl⟩;refine⟨⟨c,B⟩,⟨u,w,C,fun z=>(t.resolve_left z).1⟩,⟨v,y,D,fun z=>(m.resolve_left z).1⟩,⟨f,N,i,b⟩,fun z=>?_,fun z=>?_,fun k g=>?_⟩
 ·obtain⟨-,f,N,i,b,-⟩:=t.resolve_left z;exact⟨f,N,i,b⟩
 ·obtain⟨-,f,N,i,b,o⟩:=m.resolve_left z;refine⟨f,N,i,b,fun k g=>?_⟩;obtain⟨x,q,e⟩:=l k g;obtain⟨-,-,⟨s,r,j,A,-⟩,-⟩:=o k x q;rw[e];exact⟨j,A⟩
 ·obtain⟨-,f,N,i,b,o⟩:=m.resolve_left (by omega);obtain⟨x,q,e⟩:=l k g;obtain⟨-,-,⟨s,r,j,-,p,n,-⟩,-⟩:=o k x q;rw[e];exact⟨s,r,p,n⟩
theorem sW {lo:Nat->Nat}{n:Nat}(h:∀j,j<n->lo j<=lo (j+1)):∀b,b<=n->lo 0<=lo b:=fun b a=>by
 induction b with
 | zero=>exact Nat.le_refl _
 | succ b ih=>exact Nat.le_trans (ih (by omega)) (h b (by omega))
end Go.Proofs.YtdhinkgjiapigaaGreatDoor
