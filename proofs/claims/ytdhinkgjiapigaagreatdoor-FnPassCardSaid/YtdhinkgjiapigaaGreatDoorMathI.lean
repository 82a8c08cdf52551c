import Derived.Test.YtdhinkgjiapigaaGreatDoorSettle2
import Derived.Test.YtdhinkgjiapigaaGreatDoorSpec5
namespace Go.Proofs.YtdhinkgjiapigaaGreatDoor
abbrev StD:=Unit ⊕ Bool ⊕ Unit ⊕ Int ⊕ (Int × List Bool × Bool)
abbrev StD.idle:StD:=.inl ()
abbrev StD.set (shown:Bool):StD:=.inr (.inl shown)
abbrev StD.clear:StD:=.inr (.inr (.inl ()))
abbrev StD.taking (t:Int):StD:=.inr (.inr (.inr (.inl t)))
abbrev StD.used (gone:Int) (been:List Bool) (shown:Bool):StD:=.inr (.inr (.inr (.inr (gone,been,shown))))
theorem StD.by {motive:StD → Prop} (idle:motive .idle) (set:∀ b,motive (.set b)) (clear:motive .clear) (taking:∀ t,motive (.taking t)) (used:∀ g l b,motive (.used g l b)) (s:StD):motive s:=
 match s with
 | .inl ()=>idle
 | .inr (.inl b)=>set b
 | .inr (.inr (.inl ()))=>clear
 | .inr (.inr (.inr (.inl t)))=>taking t
 | .inr (.inr (.inr (.inr (g,l,b))))=>used g l b
def pad (l:List Bool):List Bool:=l ++ List.replicate (30 - l.length) false
def stOf (h:HeldD):Option StD:=
 if h.state = 0 then some .idle else if h.state = 1 then some (.set h.shown) else if h.state = 2 then some .clear else if h.state = 3 then some (.taking h.timer) else if h.state = 4 then some (.used h.gone (pad h.been) h.shown) else none
def heldOf (n:Nat):StD → HeldD
 | .inl _=>⟨0,0,List.replicate n false,false,0⟩
 | .inr (.inl b)=>⟨1,0,List.replicate n false,b,0⟩
 | .inr (.inr (.inl _))=>⟨2,0,List.replicate n false,true,0⟩
 | .inr (.inr (.inr (.inl t)))=>⟨3,0,List.replicate n false,true,t⟩
 | .inr (.inr (.inr (.inr (g,l,b))))=>⟨4,g,l.take n,b,0⟩
def stOk (hold:Int) (n:Nat):StD → Prop
 | .inr (.inr (.inr (.inl t)))=>InR t 1 hold
 | .inr (.inr (.inr (.inr (g,l,_))))=>InR g 0 ((n:Int) - 1) ∧ ∀ k:Nat,(k:Int) < g → l[k]? = some true
 | _=>True
def stFit (n:Nat):StD → Prop
 | .inr (.inr (.inr (.inr (g,l,_))))=>l.length = 30 ∧ 0 ≤ g ∧ g < n ∧ l = pad (l.take n)
 | _=>True
def enteredD:StD → StD
 | .inr (.inl b)=>.used 0 (List.replicate 30 false) b
 | .inr (.inr (.inl _))=>.used 0 (List.replicate 30 false) true
 | .inr (.inr (.inr (.inl _)))=>.used 0 (List.replicate 30 false) true
 | s=>s
def passedD (occ:List Bool) (secs:List Int) (g:Int) (l:List Bool) (b:Bool):StD:=
 if goneD occ secs (beenD occ secs (l.take secs.length)) g.toNat = secs.length then .idle else .used (goneD occ secs (beenD occ secs (l.take secs.length)) g.toNat) (pad (beenD occ secs (l.take secs.length))) b
def signalD (occ:List Bool) (points:List (Int × Int)) (w:WayD) (b:Bool):StD:=if provedB occ points w = true then .clear else .set b
def nowD (occ:List Bool) (points:List (Int × Int)) (w:WayD):StD → StD
 | .inr (.inl b)=>signalD occ points w b
 | .inr (.inr (.inl _))=>signalD occ points w true
 | .inr (.inr (.inr (.inr (g,l,b))))=>passedD occ w.sections g l b
 | s=>s
def settledD (occ:List Bool) (points:List (Int × Int)) (w:WayD) (s:StD):StD:=
 nowD occ points w (if occAt occ (w.sections.getD 0 0) = true then enteredD s else s)
theorem pad_length {l:List Bool} (h:l.length ≤ 30):(pad l).length = 30:=by unfold pad; rw [List.length_append,List.length_replicate]; omega
theorem pad_take {l:List Bool}:(pad l).take l.length = l:=by unfold pad; rw [List.take_left']; rfl
theorem pad_take' {l:List Bool} {n:Nat} (h:l.length = n):(pad l).take n = l:=by subst h; exact pad_take
theorem pad_fit {l:List Bool} (_h:l.length ≤ 30) {n:Nat} (hn:l.length = n):pad l = pad ((pad l).take n):=by subst hn; rw [pad_take]
theorem replicate_pad {n:Nat} (h:n ≤ 30):List.replicate 30 false = pad (List.replicate n false):=by
 unfold pad
 rw [List.length_replicate,List.replicate_append_replicate]
 congr 1
 omega
theorem take_rep {n:Nat} (h:n ≤ 30):(List.replicate 30 false).take n = List.replicate n false:=by
 rw [List.take_replicate,Nat.min_eq_left h]
theorem heldOk_of {hold:Int} {n:Nat} {h:HeldD} (hn:n ≤ 30) (hk:HeldOk hold n h):∃ s,stOf h = some s ∧ stOk hold n s ∧ stFit n s ∧ heldOf n s = h:=by
 obtain ⟨state,gone,been,shown,timer⟩:=h
 obtain ⟨h1,h2,h3,h4,h5,h6,h7⟩:=hk
 simp only at h1 h2 h3 h4 h5 h6 h7
 have hrep:state ≠ 4 → been = List.replicate n false ∧ gone = 0:=fun hs=>by
  refine ⟨List.eq_replicate_iff.2 ⟨h2,fun b hb=>?_⟩,(h4 hs).2⟩
  obtain ⟨i,hi⟩:=List.getElem?_of_mem hb
  exact (h4 hs).1 i b hi
 have hs:state = 0 ∨ state = 1 ∨ state = 2 ∨ state = 3 ∨ state = 4:=by have:=h1.1; have:=h1.2; omega
 rcases hs with rfl | rfl | rfl | rfl | rfl
 ·obtain ⟨rfl,rfl⟩:=hrep (by decide)
  obtain ⟨rfl,h8,-⟩:=h7 (by decide)
  obtain rfl:=h8 rfl
  exact ⟨.idle,rfl,trivial,trivial,rfl⟩
 ·obtain ⟨rfl,rfl⟩:=hrep (by decide)
  obtain ⟨rfl,-,-⟩:=h7 (by decide)
  exact ⟨.set shown,rfl,trivial,trivial,rfl⟩
 ·obtain ⟨rfl,rfl⟩:=hrep (by decide)
  obtain ⟨rfl,-,h8⟩:=h7 (by decide)
  obtain rfl:=h8 rfl
  exact ⟨.clear,rfl,trivial,trivial,rfl⟩
 ·obtain ⟨rfl,rfl⟩:=hrep (by decide)
  obtain ⟨rfl,h8⟩:=h6 rfl
  exact ⟨.taking timer,rfl,h8,trivial,rfl⟩
 ·obtain ⟨rfl,-,-⟩:=h7 (by decide)
  subst h2
  refine ⟨.used gone (pad been) shown,rfl,⟨h3,fun k hk=>?_⟩,⟨pad_length hn,h3.1,by have:=h3.2; omega,pad_fit hn rfl⟩,?_⟩
  ·have:=h5 k hk
   unfold pad
   rw [List.getElem?_append_left (List.getElem?_eq_some_iff.1 this).1]
   exact this
  ·show HeldD.mk 4 gone ((pad been).take been.length) shown 0 = _; rw [pad_take]
theorem passed_held {occ:List Bool} {secs:List Int} {g:Int} {l:List Bool} {b:Bool} (h:stFit secs.length (.used g l b)) (hn:secs.length ≤ 30) :
  heldOf secs.length (passedD occ secs g l b) = passD occ secs (heldOf secs.length (.used g l b)) ∧ stFit secs.length (passedD occ secs g l b):=by
 have hl:(l.take secs.length).length = secs.length:=by rw [List.length_take]; have:=h.1; omega
 have hb:(beenD occ secs (l.take secs.length)).length = secs.length:=beenD_length hl
 have hg:=goTo_le (okAt occ secs (beenD occ secs (l.take secs.length))) ((beenD occ secs (l.take secs.length)).length - g.toNat) g.toNat
 have hlt:=h.2.2.1
 have hge:=h.2.1
 unfold passedD passD
 rw [show (heldOf secs.length (.used g l b)).been = l.take secs.length from rfl,show (heldOf secs.length (.used g l b)).gone = g from rfl,hb]
 by_cases e:goneD occ secs (beenD occ secs (l.take secs.length)) g.toNat = secs.length
 ·rw [if_pos e,if_pos e]
  exact ⟨rfl,trivial⟩
 ·rw [if_neg e,if_neg e]
  refine ⟨?_,pad_length (by omega),by omega,?_,pad_fit (by omega) hb⟩
  ·show HeldD.mk 4 _ ((pad (beenD occ secs (l.take secs.length))).take secs.length) b 0 = _
   rw [pad_take' hb]
   rfl
  ·unfold goneD at e ⊢
   omega
theorem fit_entered {n:Nat} {s:StD} (h:stFit n s) (h1:1 ≤ n) (hn:n ≤ 30):stFit n (enteredD s):=by
 have hu:∀ b,stFit n (.used 0 (List.replicate 30 false) b):=fun b=>⟨by simp,by omega,by omega,by rw [take_rep hn]; exact replicate_pad hn⟩
 cases s using StD.by with
 | idle=>exact h
 | set b=>exact hu b
 | clear=>exact hu true
 | taking t=>exact hu true
 | used g l b=>exact h
theorem settled_held {occ:List Bool} {points:List (Int × Int)} {w:WayD} {s:StD} (h:stFit w.sections.length s) (h1:1 ≤ w.sections.length) (hn:w.sections.length ≤ 30) :
  heldOf w.sections.length (settledD occ points w s) = settle1 occ points w (heldOf w.sections.length s) ∧ stFit w.sections.length (settledD occ points w s):=by
 have hu:∀ b,heldOf w.sections.length (passedD occ w.sections 0 (List.replicate 30 false) b) = passD occ w.sections ⟨4,0,List.replicate w.sections.length false,b,0⟩ ∧ stFit w.sections.length (passedD occ w.sections 0 (List.replicate 30 false) b):=fun b=>by
  have:=passed_held (occ:=occ) (secs:=w.sections) (g:=0) (l:=List.replicate 30 false) (b:=b) (fit_entered (s:=.set b) trivial h1 hn) hn
  rw [show heldOf w.sections.length (.used 0 (List.replicate 30 false) b) = ⟨4,0,List.replicate w.sections.length false,b,0⟩ by simp only [heldOf,take_rep hn]] at this
  exact this
 unfold settledD
 cases ho:occAt occ (w.sections.getD 0 0) with
 | true=>
  rw [if_pos rfl]
  cases s using StD.by with
  | idle=>exact ⟨(settle1_idle rfl).symm,trivial⟩
  | set b=>rw [settle1_in (by simp [heldOf]) (by simp [heldOf]) ho]; exact hu b
  | clear=>rw [settle1_in (by simp [heldOf]) (by simp [heldOf]) ho]; exact hu true
  | taking t=>rw [settle1_in (by simp [heldOf]) (by simp [heldOf]) ho]; exact hu true
  | used g l b=>rw [settle1_used rfl]; exact passed_held h hn
 | false=>
  rw [if_neg (by decide)]
  cases s using StD.by with
  | idle=>exact ⟨(settle1_idle rfl).symm,trivial⟩
  | set b=>
   cases hp:provedB occ points w with
   | true=>rw [settle1_clear (.inl rfl) ho hp]; show heldOf _ (signalD occ points w _) = _ ∧ stFit _ (signalD occ points w _); unfold signalD; rw [if_pos hp]; exact ⟨rfl,trivial⟩
   | false=>rw [settle1_set (.inl rfl) ho hp]; show heldOf _ (signalD occ points w _) = _ ∧ stFit _ (signalD occ points w _); unfold signalD; rw [if_neg (by rw [hp]; decide)]; exact ⟨rfl,trivial⟩
  | clear=>
   cases hp:provedB occ points w with
   | true=>rw [settle1_clear (.inr rfl) ho hp]; show heldOf _ (signalD occ points w _) = _ ∧ stFit _ (signalD occ points w _); unfold signalD; rw [if_pos hp]; exact ⟨rfl,trivial⟩
   | false=>rw [settle1_set (.inr rfl) ho hp]; show heldOf _ (signalD occ points w _) = _ ∧ stFit _ (signalD occ points w _); unfold signalD; rw [if_neg (by rw [hp]; decide)]; exact ⟨rfl,trivial⟩
  | taking t=>rw [settle1_else (by simp [heldOf]) (by simp [heldOf]) (by simp [heldOf]) ho]; exact ⟨rfl,trivial⟩
  | used g l b=>rw [settle1_used rfl]; exact passed_held h hn
end Go.Proofs.YtdhinkgjiapigaaGreatDoor
