import Derived.Test.YtdhinkgjiapigabGreatDoorDoS3
import Derived.Deep.RegionHeld3
import Derived.Deep.DeepCutAuto
namespace Go.Proofs.YtdhinkgjiapigabGreatDoor
open Go.RowKit Go.Deep
open Classical
def idles (ways:List WayD):List HeldD:=ways.map fun x=>idleD x.sections.length
def beginD (p:PlanD):FrameD:=⟨true,List.replicate p.sections.toNat false,List.replicate p.switches.length (1,1),idles p.ways⟩
def beginOf (p:PlanD) [Decidable (Right p)]:FrameD:=if Right p then beginD p else noFrame
theorem idles_get {ways:List WayD} {k:Nat} {x:WayD} (h:ways[k]? = some x):(idles ways)[k]? = some (idleD x.sections.length):=by unfold idles; rw [List.getElem?_map,h]; rfl
theorem idles_length (ways:List WayD):(idles ways).length = ways.length:=by unfold idles; rw [List.length_map]
theorem cells2_ones (k:Nat):cells2 (List.replicate k ((1,1):Int × Int)) ++ [.int .i64 1,.int .i64 1] = cells2 (List.replicate (k + 1) (1,1)):=by
 rw [List.replicate_succ']
 unfold cells2
 rw [List.flatMap_append]
 rfl
theorem BegF.call {w:World} {pc:Array Value} {n fb:Nat} {W W':World} {u1 u2 u3:Value} {bo:Nat} (h:BegF w pc n fb W u1 u2 u3 bo) (hB:Below W.heap.size W W'):BegF w pc n fb W' u1 u2 u3 bo:=
 h.but (K:=fun _=>True) (But.of_calls hB) fun _ _=>trivial
theorem BegF.lay2 {w:World} {pc:Array Value} {n fb:Nat} {W:World} {u1 u2 u3:Value} {bo:Nat} (h:BegF w pc n fb W u1 u2 u3 bo) (u:Value):BegF w pc n fb (W.setCell ⟨fb,2,none⟩ u) u1 u u3 bo:=by
 have h1:=h.po
 have h2:=h.pf
 have ne:∀ c:Nat,c ≠ fb → c ≠ (⟨fb,2,none⟩:Addr).block:=fun c hc=>hc
 refine ⟨h.below.setCell (by show w.heap.size ≤ fb; omega) _,h.box.setOther (ne _ (by omega)) _,h.res.imp fun _ z=>z.setOther (ne _ (by omega)) _,?_,h.occ.of_block (Below.heap_setCell _ _ _ _ (ne _ (by omega))),h1,h2⟩
 refine (h.out.set 2 u).congr fun i hi=>?_
 rcases i with _ | _ | _ | _ | i
 ·rfl
 ·rfl
 ·rfl
 ·rfl
 ·omega
theorem BegF.lay3 {w:World} {pc:Array Value} {n fb:Nat} {W:World} {u1 u2 u3:Value} {bo:Nat} (h:BegF w pc n fb W u1 u2 u3 bo) (u:Value):BegF w pc n fb (W.setCell ⟨fb,3,none⟩ u) u1 u2 u bo:=by
 have h1:=h.po
 have h2:=h.pf
 have ne:∀ c:Nat,c ≠ fb → c ≠ (⟨fb,3,none⟩:Addr).block:=fun c hc=>hc
 refine ⟨h.below.setCell (by show w.heap.size ≤ fb; omega) _,h.box.setOther (ne _ (by omega)) _,h.res.imp fun _ z=>z.setOther (ne _ (by omega)) _,?_,h.occ.of_block (Below.heap_setCell _ _ _ _ (ne _ (by omega))),h1,h2⟩
 refine (h.out.set 3 u).congr fun i hi=>?_
 rcases i with _ | _ | _ | _ | i
 ·rfl
 ·rfl
 ·rfl
 ·rfl
 ·omega
theorem own_far {W W':World} {base e size:Nat} {v:Value} {n:Nat} {xs:List Value} (h:W.ownsRow base e size v n xs) {K:Nat → Prop} (hB:But K W W') (hk:∀ c,base ≤ c → c < W.heap.size → K c):W'.ownsRow base e size v n xs:=
 own_but h hB fun _ hg=>hk _ (own_block h hg).1 (own_block h hg).2.1
theorem idleHeld0 (u0 u1 u2 u3 u4:Value) (secs:List Int) (w:World) (hu:Ints (In w) w u0 secs) (hn1:1 ≤ secs.length) (hn:secs.length ≤ 30) :
  Calls Tryz.prog 149 #[.agg #[],.agg #[u0,u1,u2,u3,u4]] w fun e w'=>∃ a c b,e = .returned (.agg #[.int .i64 0,.int .i64 0,.slice a secs.length c,.bool false,.int .i64 0]) ∧ OBools w' (.slice a secs.length c) (idleD secs.length).been b ∧ w.heap.size ≤ b ∧ Below w.heap.size w w':=by
 refine (idleHeld_any u0 u1 u2 u3 u4 secs w hu hn1 hn).mono ?_
 rintro e w' ⟨v,b,rfl,ho,hb,hbl⟩
 obtain ⟨f,N,c,rfl,hr⟩:=ho
 have hl:(heldOf secs.length StD.idle).been.length = secs.length:=by simp [heldOf]
 rw [hl] at *
 exact ⟨_,_,b,rfl,⟨f,N,c,by simp [idleD],by rw [← hl] at *; exact hr⟩,hb,hbl⟩
end Go.Proofs.YtdhinkgjiapigabGreatDoor
namespace Go.Proofs.YtdhinkgjiapigabGreatDoor
open Go.RowKit Go.Deep
open Classical
end Go.Proofs.YtdhinkgjiapigabGreatDoor
namespace Go.Proofs.YtdhinkgjiapigabGreatDoor
open Go.RowKit Go.Deep
open Classical
end Go.Proofs.YtdhinkgjiapigabGreatDoor
namespace Go.Proofs.YtdhinkgjiapigabGreatDoor
open Go.RowKit Go.Deep
open Classical
end Go.Proofs.YtdhinkgjiapigabGreatDoor
namespace Go.Proofs.YtdhinkgjiapigabGreatDoor
open Go.RowKit Go.Deep
open Classical
end Go.Proofs.YtdhinkgjiapigabGreatDoor
