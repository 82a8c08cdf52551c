import Derived.Test.YtdhinkgjiapigaaGreatDoorMarkA
import Derived.Test.YtdhinkgjiapigaaGreatDoorToA
namespace Go.Proofs.YtdhinkgjiapigaaGreatDoor
open Go.RowKit Go.Deep
def m3 (k:Int):Bool:=k % 3 == 0
def marksB (k:Int) (n:Nat):List Bool:=(List.range n).map fun i:Nat=>m3 (k + i)
def markH (k:Int) (x:HeldD):HeldD:=⟨k,k + 1,marksB (k + 1 + 1) x.been.length,m3 (k + 1 + 1 + x.been.length),k + 1 + 1 + x.been.length + 1⟩
def cntH (l:List HeldD):Nat:=(l.map fun x=>4 + x.been.length).sum
def posH (k:Int) (l:List HeldD) (j:Nat):Int:=k + cntH (l.take j)
def markHs (k:Int) (l:List HeldD):List HeldD:=l.mapIdx fun i x=>markH (posH k l i) x
theorem markHs_length (k:Int) (l:List HeldD):(markHs k l).length = l.length:=by simp [markHs]
theorem markHs_get {k:Int} {l:List HeldD} {i:Nat} {x:HeldD} (h:l[i]? = some x):(markHs k l)[i]? = some (markH (posH k l i) x):=by simp [markHs,h]
end Go.Proofs.YtdhinkgjiapigaaGreatDoor
namespace Go.Proofs.YtdhinkgjiapigaaGreatDoor
open Go.RowKit Go.Deep
def MarkR (P:Nat → Prop) (W0:World) (v1 v2 v3:Value) (d:FrameD) (k:Int) (bo bp bw:Nat) (i:Nat) (W:World):Prop:=
 ∃ (cur:List HeldD) (bb:Nat → Nat),cur.length = d.ways.length ∧ (∀ (j:Nat) h,j < i → d.ways[j]? = some h → cur[j]? = some (markH (posH k d.ways j) h)) ∧ (∀ j:Nat,i ≤ j → cur[j]? = d.ways[j]?) ∧
  OFrame P W v1 v2 v3 { d with ways:=cur } bo bp bw bb ∧ But (fun c=>¬ P c) W0 W
theorem MarkR.end {P:Nat → Prop} {W0:World} {v1 v2 v3:Value} {d:FrameD} {k:Int} {bo bp bw:Nat} {n:Nat} {W:World} (h:MarkR P W0 v1 v2 v3 d k bo bp bw n W) (hn:n = d.ways.length) :
  ∃ bb,OFrame P W v1 v2 v3 { d with ways:=markHs k d.ways } bo bp bw bb ∧ But (fun c=>¬ P c) W0 W:=by
 obtain ⟨cur,bb,h0,h1,-,hf,hb⟩:=h
 have:cur = markHs k d.ways:=by
  apply List.ext_getElem?
  intro j
  by_cases hj:j < d.ways.length
  ·obtain ⟨x,hx⟩:=lt_get d.ways hj
   rw [h1 j x (by omega) hx,markHs_get hx]
  ·rw [List.getElem?_eq_none (by omega),List.getElem?_eq_none (by rw [markHs_length]; omega)]
 rw [this] at hf
 exact ⟨bb,hf,hb⟩
end Go.Proofs.YtdhinkgjiapigaaGreatDoor
namespace Go.Proofs.YtdhinkgjiapigaaGreatDoor
open Go.RowKit Go.Deep
def FrameM (B0:Nat) (w:World) (v1 v2 v3:Value) (d:FrameD):Prop:=
 (∃ bo bp bw bb,OFrame (fun c=>B0 ≤ c) w v1 v2 v3 d bo bp bw bb) ∨ (v1 = .slice none 0 0 ∧ v2 = .slice none 0 0 ∧ v3 = .slice none 0 0 ∧ d.occ = [] ∧ d.points = [] ∧ d.ways = [])
theorem FrameM.read {B0:Nat} {w:World} {v1 v2 v3:Value} {d:FrameD} (h:FrameM B0 w v1 v2 v3 d):FrameAt (In w) w v1 v2 v3 d:=by
 rcases h with ⟨bo,bp,bw,bb,h⟩ | ⟨rfl,rfl,rfl,e1,e2,e3⟩
 ·exact (h.bound (Q:=In w) fun c _ hc=>hc).read
 ·exact ⟨⟨_,_,by rw [e1]; rfl,.inl (by rw [e1]; rfl)⟩,⟨_,_,by rw [e2]; rfl,.inl (by rw [e2]; rfl)⟩,⟨_,_,by rw [e3]; rfl,.inl (by rw [e3]; rfl)⟩⟩
theorem FrameM.slices {B0:Nat} {w:World} {v1 v2 v3:Value} {d:FrameD} (h:FrameM B0 w v1 v2 v3 d):∃ a1 c1 a2 c2 a3 c3,v1 = .slice a1 d.occ.length c1 ∧ v2 = .slice a2 d.points.length c2 ∧ v3 = .slice a3 d.ways.length c3:=by
 obtain ⟨⟨a1,c1,e1,-⟩,⟨a2,c2,e2,-⟩,⟨a3,c3,e3,-⟩⟩:=h.read
 exact ⟨a1,c1,a2,c2,a3,c3,e1,e2,e3⟩
end Go.Proofs.YtdhinkgjiapigaaGreatDoor
namespace Go.Proofs.YtdhinkgjiapigaaGreatDoor
open Go.RowKit Go.Deep
theorem rowIs_type {w:World} {b t t' n n':Nat} {f f':Nat → Value} (h:w.rowIs b t n f) (g:w.rowIs b t' n' f'):t = t':=by
 obtain ⟨x,hx,-⟩:=h
 obtain ⟨y,hy,-⟩:=g
 rw [hx] at hy
 cases hy
 rfl
theorem OBools.row {w:World} {v:Value} {l:List Bool} {b:Nat} (h:OBools w v l b):∃ N f,w.rowIs b 4 N f:=by
 obtain ⟨f,N,c,-,hr,-⟩:=h
 exact ⟨N,f,hr⟩
theorem OHelds.been {w:World} {v:Value} {l:List HeldD} {bw:Nat} {bb:Nat → Nat} (h:OHelds w v l bw bb) {i:Nat} (hi:i < l.length):∃ N f,w.rowIs (bb i) 4 N f:=by
 obtain ⟨a,cap,-,h0 | ⟨-,f,N,hr,-,hf⟩⟩:=h
 ·omega
 ·obtain ⟨y,hy⟩:=lt_get l hi
  exact (hf i y hy).2.2.1.row
theorem OHelds.row {w:World} {v:Value} {l:List HeldD} {bw:Nat} {bb:Nat → Nat} (h:OHelds w v l bw bb) (hi:l.length ≠ 0):∃ N f,w.rowIs bw 44 N f:=by
 obtain ⟨a,cap,-,h0 | ⟨-,f,N,hr,-⟩⟩:=h
 ·omega
 ·exact ⟨N,f,hr⟩
theorem OPoints.row {w:World} {v:Value} {l:List (Int × Int)} {b:Nat} (h:OPoints w v l b) (hi:l.length ≠ 0):∃ N f,w.rowIs b 46 N f:=by
 obtain ⟨a,cap,-,h0 | ⟨-,f,N,hr,-⟩⟩:=h
 ·omega
 ·exact ⟨N,f,hr⟩
theorem OFrame.setOcc {P:Nat → Prop} {w w':World} {v1 v2 v3:Value} {d:FrameD} {bo bp bw:Nat} {bb:Nat → Nat} {l:List Bool} (h:OFrame P w v1 v2 v3 d bo bp bw bb) (hb:But (fun c=>c ≠ bo) w w') (ho:OBools w' v1 l bo):OFrame P w' v1 v2 v3 { d with occ:=l } bo bp bw bb:=by
 obtain ⟨No,fo,hro⟩:=h.occ.row
 refine ⟨ho,h.points.but hb fun z e=>?_,h.ways.but hb (fun z e=>?_) fun i hi=>h.off i hi,h.po,h.pp,h.pw,h.pb,h.inj,h.off⟩
 ·obtain ⟨N,f,hr⟩:=h.points.row z
  rw [e] at hr
  exact absurd (rowIs_type hr hro) (by decide)
 ·obtain ⟨N,f,hr⟩:=h.ways.row z
  rw [e] at hr
  exact absurd (rowIs_type hr hro) (by decide)
theorem OFrame.setPoints {P:Nat → Prop} {w w':World} {v1 v2 v3:Value} {d:FrameD} {bo bp bw:Nat} {bb:Nat → Nat} {l:List (Int × Int)} (h:OFrame P w v1 v2 v3 d bo bp bw bb) (h1:bp ≠ bo) (h2:d.ways.length ≠ 0 → bp ≠ bw) (h3:∀ i,i < d.ways.length → bp ≠ bb i) (hb:But (fun c=>c ≠ bp) w w') (hp:OPoints w' v2 l bp) (hl:l.length = d.points.length):OFrame P w' v1 v2 v3 { d with points:=l } bo bp bw bb:=
 ⟨h.occ.but hb (Ne.symm h1),hp,h.ways.but hb (fun z=>Ne.symm (h2 z)) fun i hi=>Ne.symm (h3 i hi),h.po,fun z=>h.pp (by rw [← hl]; exact z),h.pw,h.pb,h.inj,h.off⟩
end Go.Proofs.YtdhinkgjiapigaaGreatDoor
