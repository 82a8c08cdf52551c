import Derived.Test.YtdhinkgjiapigabGreatDoorSettle2
import Derived.Test.YtdhinkgjiapigabGreatDoorSpec5
import Derived.Test.YtdhinkgjiapigabGreatDoorFrA
import Derived.Deep.MidRow
import Derived.Laws.IdiomCopy
namespace Go.Proofs.YtdhinkgjiapigabGreatDoor
abbrev StD:=Unit ⊕ Bool ⊕ Unit ⊕ Int ⊕ (Int × List Bool × Bool)
abbrev StD.idle:StD:=.inl ()
abbrev StD.set (shown:Bool):StD:=.inr (.inl shown)
abbrev StD.clear:StD:=.inr (.inr (.inl ()))
abbrev StD.taking (t:Int):StD:=.inr (.inr (.inr (.inl t)))
abbrev StD.used (gone:Int) (been:List Bool) (shown:Bool):StD:=.inr (.inr (.inr (.inr (gone,been,shown))))
theorem StD.by {motive:StD → Prop} (idle:motive .idle) (set:∀ b,motive (.set b)) (clear:motive .clear) (taking:∀ t,motive (.taking t)) (used:∀ g l b,motive (.used g l b)) (s:StD):motive s:=
 match s with
 | .inl ()=>idle
 | .inr (.inl b)=>set b
 | .inr (.inr (.inl ()))=>clear
 | .inr (.inr (.inr (.inl t)))=>taking t
 | .inr (.inr (.inr (.inr (g,l,b))))=>used g l b
def pad (l:List Bool):List Bool:=l ++ List.replicate (30 - l.length) false
def zp3 (h:HeldD):Option StD:=
 if h.state = 0 then some .idle else if h.state = 1 then some (.set h.shown) else if h.state = 2 then some .clear else if h.state = 3 then some (.taking h.timer) else if h.state = 4 then some (.used h.gone (pad h.been) h.shown) else none
def zao (n:Nat):StD → HeldD
 | .inl _=>⟨0,0,List.replicate n false,false,0⟩
 | .inr (.inl b)=>⟨1,0,List.replicate n false,b,0⟩
 | .inr (.inr (.inl _))=>⟨2,0,List.replicate n false,true,0⟩
 | .inr (.inr (.inr (.inl t)))=>⟨3,0,List.replicate n false,true,t⟩
 | .inr (.inr (.inr (.inr (g,l,b))))=>⟨4,g,l.take n,b,0⟩
def zr1 (hold:Int) (n:Nat):StD → Prop
 | .inr (.inr (.inr (.inl t)))=>InR t 1 hold
 | .inr (.inr (.inr (.inr (g,l,_))))=>InR g 0 ((n:Int) - 1) ∧ ∀ k:Nat,(k:Int) < g → l[k]? = some true
 | _=>True
def zcw (n:Nat):StD → Prop
 | .inr (.inr (.inr (.inr (g,l,_))))=>l.length = 30 ∧ 0 ≤ g ∧ g < n ∧ l = pad (l.take n)
 | _=>True
def zgq:StD → StD
 | .inr (.inl b)=>.used 0 (List.replicate 30 false) b
 | .inr (.inr (.inl _))=>.used 0 (List.replicate 30 false) true
 | .inr (.inr (.inr (.inl _)))=>.used 0 (List.replicate 30 false) true
 | s=>s
def zcr (occ:List Bool) (secs:List Int) (g:Int) (l:List Bool) (b:Bool):StD:=
 if zbd occ secs (za2 occ secs (l.take secs.length)) g.toNat = secs.length then .idle else .used (zbd occ secs (za2 occ secs (l.take secs.length)) g.toNat) (pad (za2 occ secs (l.take secs.length))) b
def zbv (occ:List Bool) (points:List (Int × Int)) (w:WayD) (b:Bool):StD:=if za9 occ points w = true then .clear else .set b
def zrw (occ:List Bool) (points:List (Int × Int)) (w:WayD):StD → StD
 | .inr (.inl b)=>zbv occ points w b
 | .inr (.inr (.inl _))=>zbv occ points w true
 | .inr (.inr (.inr (.inr (g,l,b))))=>zcr occ w.sections g l b
 | s=>s
def zcf (occ:List Bool) (points:List (Int × Int)) (w:WayD) (s:StD):StD:=
 zrw occ points w (if za1 occ (w.sections.getD 0 0) = true then zgq s else s)
theorem zcz {l:List Bool} (h:l.length ≤ 30):(pad l).length = 30:=by unfold pad; rw [List.length_append,List.length_replicate]; omega
theorem zjl {l:List Bool}:(pad l).take l.length = l:=by unfold pad; rw [List.take_left']; rfl
theorem zow {l:List Bool} {n:Nat} (h:l.length = n):(pad l).take n = l:=by subst h; exact zjl
theorem zov {l:List Bool} (_h:l.length ≤ 30) {n:Nat} (hn:l.length = n):pad l = pad ((pad l).take n):=by subst hn; rw [zjl]
theorem zjo {n:Nat} (h:n ≤ 30):List.replicate 30 false = pad (List.replicate n false):=by
 unfold pad;rw [List.length_replicate,List.replicate_append_replicate];congr 1;omega
theorem zmg {n:Nat} (h:n ≤ 30):(List.replicate 30 false).take n = List.replicate n false:=by
 rw [List.take_replicate,Nat.min_eq_left h]
theorem zof {hold:Int} {n:Nat} {h:HeldD} (hn:n ≤ 30) (hk:zcn hold n h):∃ s,zp3 h = some s ∧ zr1 hold n s ∧ zcw n s ∧ zao n s = h:=by
 obtain ⟨state,gone,been,shown,timer⟩:=h;obtain ⟨h1,h2,h3,h4,h5,h6,h7⟩:=hk;simp only at h1 h2 h3 h4 h5 h6 h7
 have hrep:state ≠ 4 → been = List.replicate n false ∧ gone = 0:=fun hs=>by
  refine ⟨List.eq_replicate_iff.2 ⟨h2,fun b hb=>?_⟩,(h4 hs).2⟩;obtain ⟨i,hi⟩:=List.getElem?_of_mem hb;exact (h4 hs).1 i b hi
 have hs:state = 0 ∨ state = 1 ∨ state = 2 ∨ state = 3 ∨ state = 4:=by have:=h1.1; have:=h1.2; omega
 rcases hs with rfl | rfl | rfl | rfl | rfl
 ·obtain ⟨rfl,rfl⟩:=hrep (by decide);obtain ⟨rfl,h8,-⟩:=h7 (by decide);obtain rfl:=h8 rfl;exact ⟨.idle,rfl,trivial,trivial,rfl⟩
 ·obtain ⟨rfl,rfl⟩:=hrep (by decide);obtain ⟨rfl,-,-⟩:=h7 (by decide);exact ⟨.set shown,rfl,trivial,trivial,rfl⟩
 ·obtain ⟨rfl,rfl⟩:=hrep (by decide);obtain ⟨rfl,-,h8⟩:=h7 (by decide);obtain rfl:=h8 rfl;exact ⟨.clear,rfl,trivial,trivial,rfl⟩
 ·obtain ⟨rfl,rfl⟩:=hrep (by decide);obtain ⟨rfl,h8⟩:=h6 rfl;exact ⟨.taking timer,rfl,h8,trivial,rfl⟩
 ·obtain ⟨rfl,-,-⟩:=h7 (by decide);subst h2;refine ⟨.used gone (pad been) shown,rfl,⟨h3,fun k hk=>?_⟩,⟨zcz hn,h3.1,by have:=h3.2; omega,zov hn rfl⟩,?_⟩
  ·have:=h5 k hk;unfold pad;rw [List.getElem?_append_left (List.getElem?_eq_some_iff.1 this).1];exact this
  ·show HeldD.mk 4 gone ((pad been).take been.length) shown 0 = _; rw [zjl]
theorem zey {occ:List Bool} {secs:List Int} {g:Int} {l:List Bool} {b:Bool} (h:zcw secs.length (.used g l b)) (hn:secs.length ≤ 30) :
  zao secs.length (zcr occ secs g l b) = zcb occ secs (zao secs.length (.used g l b)) ∧ zcw secs.length (zcr occ secs g l b):=by
 have hl:(l.take secs.length).length = secs.length:=by rw [List.length_take]; have:=h.1; omega
 have hb:(za2 occ secs (l.take secs.length)).length = secs.length:=za4 hl;have hg:=zn8 (zkj occ secs (za2 occ secs (l.take secs.length))) ((za2 occ secs (l.take secs.length)).length - g.toNat) g.toNat;have hlt:=h.2.2.1;have hge:=h.2.1;unfold zcr zcb;rw [show (zao secs.length (.used g l b)).been = l.take secs.length from rfl,show (zao secs.length (.used g l b)).gone = g from rfl,hb];by_cases e:zbd occ secs (za2 occ secs (l.take secs.length)) g.toNat = secs.length
 ·rw [if_pos e,if_pos e];exact ⟨rfl,trivial⟩
 ·rw [if_neg e,if_neg e];refine ⟨?_,zcz (by omega),by omega,?_,zov (by omega) hb⟩
  ·show HeldD.mk 4 _ ((pad (za2 occ secs (l.take secs.length))).take secs.length) b 0 = _;rw [zow hb];rfl
  ·unfold zbd at e ⊢;omega
theorem zg5 {n:Nat} {s:StD} (h:zcw n s) (h1:1 ≤ n) (hn:n ≤ 30):zcw n (zgq s):=by
 have hu:∀ b,zcw n (.used 0 (List.replicate 30 false) b):=fun b=>⟨by simp,by omega,by omega,by rw [zmg hn]; exact zjo hn⟩
 cases s using StD.by with
 | idle=>exact h
 | set b=>exact hu b
 | clear=>exact hu true
 | taking t=>exact hu true
 | used g l b=>exact h
theorem zkq {occ:List Bool} {points:List (Int × Int)} {w:WayD} {s:StD} (h:zcw w.sections.length s) (h1:1 ≤ w.sections.length) (hn:w.sections.length ≤ 30) :
  zao w.sections.length (zcf occ points w s) = zar occ points w (zao w.sections.length s) ∧ zcw w.sections.length (zcf occ points w s):=by
 have hu:∀ b,zao w.sections.length (zcr occ w.sections 0 (List.replicate 30 false) b) = zcb occ w.sections ⟨4,0,List.replicate w.sections.length false,b,0⟩ ∧ zcw w.sections.length (zcr occ w.sections 0 (List.replicate 30 false) b):=fun b=>by
  have:=zey (occ:=occ) (secs:=w.sections) (g:=0) (l:=List.replicate 30 false) (b:=b) (zg5 (s:=.set b) trivial h1 hn) hn;rw [show zao w.sections.length (.used 0 (List.replicate 30 false) b) = ⟨4,0,List.replicate w.sections.length false,b,0⟩ by simp only [zao,zmg hn]] at this;exact this
 unfold zcf
 cases ho:za1 occ (w.sections.getD 0 0) with
 | true=>
  rw [if_pos rfl]
  cases s using StD.by with
  | idle=>exact ⟨(zbj rfl).symm,trivial⟩
  | set b=>rw [zdo (by simp [zao]) (by simp [zao]) ho]; exact hu b
  | clear=>rw [zdo (by simp [zao]) (by simp [zao]) ho]; exact hu true
  | taking t=>rw [zdo (by simp [zao]) (by simp [zao]) ho]; exact hu true
  | used g l b=>rw [zb9 rfl]; exact zey h hn
 | false=>
  rw [if_neg (by decide)]
  cases s using StD.by with
  | idle=>exact ⟨(zbj rfl).symm,trivial⟩
  | set b=>
   cases hp:za9 occ points w with
   | true=>rw [zce (.inl rfl) ho hp]; show zao _ (zbv occ points w _) = _ ∧ zcw _ (zbv occ points w _); unfold zbv; rw [if_pos hp]; exact ⟨rfl,trivial⟩
   | false=>rw [zc8 (.inl rfl) ho hp]; show zao _ (zbv occ points w _) = _ ∧ zcw _ (zbv occ points w _); unfold zbv; rw [if_neg (by rw [hp]; decide)]; exact ⟨rfl,trivial⟩
  | clear=>
   cases hp:za9 occ points w with
   | true=>rw [zce (.inr rfl) ho hp]; show zao _ (zbv occ points w _) = _ ∧ zcw _ (zbv occ points w _); unfold zbv; rw [if_pos hp]; exact ⟨rfl,trivial⟩
   | false=>rw [zc8 (.inr rfl) ho hp]; show zao _ (zbv occ points w _) = _ ∧ zcw _ (zbv occ points w _); unfold zbv; rw [if_neg (by rw [hp]; decide)]; exact ⟨rfl,trivial⟩
  | taking t=>rw [zda (by simp [zao]) (by simp [zao]) (by simp [zao]) ho]; exact ⟨rfl,trivial⟩
  | used g l b=>rw [zb9 rfl]; exact zey h hn
end Go.Proofs.YtdhinkgjiapigabGreatDoor
namespace Go.Proofs.YtdhinkgjiapigabGreatDoor
open Go.RowKit Go.Deep
def zbl (g:Int) (l:List Bool) (b:Bool):Array Value:=(.int .i64 g :: (l.map Value.bool ++ [.bool b])).toArray
def stV:StD → Value
 | .inl _=>.iface 183 (.agg #[])
 | .inr (.inl b)=>.iface 212 (.agg #[.bool b])
 | .inr (.inr (.inl _))=>.iface 214 (.agg #[])
 | .inr (.inr (.inr (.inl t)))=>.iface 258 (.agg #[.int .i64 t])
 | .inr (.inr (.inr (.inr (g,l,b))))=>.iface 217 (.agg (zbl g l b))
theorem Tryz.ta_idle_set (v:Value) (w:World):(Instr.typeAssert (.iface 183 v) 165 212 true).run Tryz.prog w = .ok (.tuple #[.agg #[.bool false],.bool false]) w:=by kernel_rfl
theorem Tryz.ta_idle_clear (v:Value) (w:World):(Instr.typeAssert (.iface 183 v) 165 214 true).run Tryz.prog w = .ok (.tuple #[.agg #[],.bool false]) w:=by kernel_rfl
theorem Tryz.ta_idle_taking (v:Value) (w:World):(Instr.typeAssert (.iface 183 v) 165 258 true).run Tryz.prog w = .ok (.tuple #[.agg #[.int .i64 0],.bool false]) w:=by kernel_rfl
theorem Tryz.ta_idle_used (v:Value) (w:World):(Instr.typeAssert (.iface 183 v) 165 217 true).run Tryz.prog w = .ok (.tuple #[.agg (zbl 0 (List.replicate 30 false) false),.bool false]) w:=by kernel_rfl
theorem Tryz.ta_set_set (v:Value) (w:World):(Instr.typeAssert (.iface 212 v) 165 212 true).run Tryz.prog w = .ok (.tuple #[v,.bool true]) w:=by kernel_rfl
theorem Tryz.ta_set_clear (v:Value) (w:World):(Instr.typeAssert (.iface 212 v) 165 214 true).run Tryz.prog w = .ok (.tuple #[.agg #[],.bool false]) w:=by kernel_rfl
theorem Tryz.ta_set_taking (v:Value) (w:World):(Instr.typeAssert (.iface 212 v) 165 258 true).run Tryz.prog w = .ok (.tuple #[.agg #[.int .i64 0],.bool false]) w:=by kernel_rfl
theorem Tryz.ta_clear_set (v:Value) (w:World):(Instr.typeAssert (.iface 214 v) 165 212 true).run Tryz.prog w = .ok (.tuple #[.agg #[.bool false],.bool false]) w:=by kernel_rfl
theorem Tryz.ta_clear_clear (v:Value) (w:World):(Instr.typeAssert (.iface 214 v) 165 214 true).run Tryz.prog w = .ok (.tuple #[v,.bool true]) w:=by kernel_rfl
theorem Tryz.ta_clear_taking (v:Value) (w:World):(Instr.typeAssert (.iface 214 v) 165 258 true).run Tryz.prog w = .ok (.tuple #[.agg #[.int .i64 0],.bool false]) w:=by kernel_rfl
theorem Tryz.ta_taking_set (v:Value) (w:World):(Instr.typeAssert (.iface 258 v) 165 212 true).run Tryz.prog w = .ok (.tuple #[.agg #[.bool false],.bool false]) w:=by kernel_rfl
theorem Tryz.ta_taking_clear (v:Value) (w:World):(Instr.typeAssert (.iface 258 v) 165 214 true).run Tryz.prog w = .ok (.tuple #[.agg #[],.bool false]) w:=by kernel_rfl
theorem Tryz.ta_taking_taking (v:Value) (w:World):(Instr.typeAssert (.iface 258 v) 165 258 true).run Tryz.prog w = .ok (.tuple #[v,.bool true]) w:=by kernel_rfl
theorem Tryz.ta_taking_used (v:Value) (w:World):(Instr.typeAssert (.iface 258 v) 165 217 true).run Tryz.prog w = .ok (.tuple #[.agg (zbl 0 (List.replicate 30 false) false),.bool false]) w:=by kernel_rfl
theorem Tryz.ta_used_set (v:Value) (w:World):(Instr.typeAssert (.iface 217 v) 165 212 true).run Tryz.prog w = .ok (.tuple #[.agg #[.bool false],.bool false]) w:=by kernel_rfl
theorem Tryz.ta_used_clear (v:Value) (w:World):(Instr.typeAssert (.iface 217 v) 165 214 true).run Tryz.prog w = .ok (.tuple #[.agg #[],.bool false]) w:=by kernel_rfl
theorem Tryz.ta_used_taking (v:Value) (w:World):(Instr.typeAssert (.iface 217 v) 165 258 true).run Tryz.prog w = .ok (.tuple #[.agg #[.int .i64 0],.bool false]) w:=by kernel_rfl
theorem Tryz.ta_used_used (v:Value) (w:World):(Instr.typeAssert (.iface 217 v) 165 217 true).run Tryz.prog w = .ok (.tuple #[v,.bool true]) w:=by kernel_rfl
end Go.Proofs.YtdhinkgjiapigabGreatDoor
namespace Go.Proofs.YtdhinkgjiapigabGreatDoor
open Go.RowKit Go.Deep
open Classical
set_option maxRecDepth 100000 in
set_option maxHeartbeats 2000000 in
theorem zcv (ok f1 f2 f3 u0 u1 u2 u3 u4:Value) (sh:Bool) (occ:List Bool) (points:List (Int × Int)) (x:WayD) (w:World) (hf1:Bools (In w) w f1 occ) (hf2:Lies (In w) w f2 points) (hx:WayAt (In w) w u0 u1 u2 u3 u4 x)
  (hs:x.Small 30) (hl:∀ y,(y ∈ x.lies ∨ y ∈ x.flanks) → 0 ≤ y.1 ∧ y.1 < points.length) (hc:∀ s,(s ∈ x.sections ∨ s ∈ x.over) → 0 ≤ s ∧ s < occ.length) (hz:points.length ≤ 1048576 ∧ occ.length ≤ 1048576) :
  Calls Tryz.prog 181 #[.agg #[ok,f1,f2,f3],.agg #[u0,u1,u2,u3,u4],.bool sh] w fun e w'=>e = .returned (stV (zbv occ points x sh)) ∧ Below w.heap.size w w':=by
 have T0:=zbc w 42 122 #[ok,f1,f2,f3] #[u0,u1,u2,u3,u4];have h1:=hf1.keep (In.keep T0.below).1 (In.keep T0.below).2;have h2:=hf2.keep (In.keep T0.below).1 (In.keep T0.below).2;have h3:=hx.keep (In.keep T0.below).1 (In.keep T0.below).2;go_enter Tryz.func181,Tryz.ntmps181
 go_wp2_with fail
 refine (znd ok f1 f2 f3 u0 u1 u2 u3 u4 occ points x _ h1 h2 h3 hs hl hc hz).mono ?_;rintro e w1 ⟨rfl,hb⟩;have T1:=T0.call hb;clear T0 hb h1 h2 h3 hf1 hf2 hx hs hl hc
 cases hp:za9 occ points x with
 | true=>
  have HP:=zaa hp;clear hp;go_wp2;go_ret;exact ⟨by unfold zbv; rw [if_pos HP.out]; rfl,T1.below⟩
 | false=>
  have HP:=zaa hp;clear hp;go_wp2;go_ret;exact ⟨by unfold zbv; rw [if_neg (by rw [HP.out]; decide)]; rfl,T1.below⟩
set_option maxRecDepth 100000 in
set_option maxHeartbeats 2000000 in
theorem zk8 (s:StD) (w:World):Calls Tryz.prog 180 #[stV s] w fun e w'=>e = .returned (stV (zgq s)) ∧ Below w.heap.size w w':=by
 cases s using StD.by with
 | idle=>
  show Calls _ _ #[.iface 183 (.agg #[])] _ _;have t_set:=Tryz.ta_idle_set;have t_clear:=Tryz.ta_idle_clear;have t_taking:=Tryz.ta_idle_taking;go_enter Tryz.func180,Tryz.ntmps180;go_wp2;go_ret;exact ⟨rfl,Below.refl _ _⟩
 | set b=>
  show Calls _ _ #[.iface 212 (.agg #[.bool b])] _ _;have t_set:=Tryz.ta_set_set;have t_clear:=Tryz.ta_set_clear;have t_taking:=Tryz.ta_set_taking;go_enter Tryz.func180,Tryz.ntmps180;go_wp2;go_ret;exact ⟨rfl,zab _ _⟩
 | clear=>
  show Calls _ _ #[.iface 214 (.agg #[])] _ _;have t_set:=Tryz.ta_clear_set;have t_clear:=Tryz.ta_clear_clear;have t_taking:=Tryz.ta_clear_taking;go_enter Tryz.func180,Tryz.ntmps180;go_wp2;go_ret;exact ⟨rfl,Below.refl _ _⟩
 | taking t=>
  show Calls _ _ #[.iface 258 (.agg #[.int .i64 t])] _ _;have t_set:=Tryz.ta_taking_set;have t_clear:=Tryz.ta_taking_clear;have t_taking:=Tryz.ta_taking_taking;go_enter Tryz.func180,Tryz.ntmps180;go_wp2;go_ret;exact ⟨rfl,Below.refl _ _⟩
 | used g l b=>
  show Calls _ _ #[.iface 217 (.agg (zbl g l b))] _ _;have t_set:=Tryz.ta_used_set;have t_clear:=Tryz.ta_used_clear;have t_taking:=Tryz.ta_used_taking;go_enter Tryz.func180,Tryz.ntmps180;go_wp2;go_ret;exact ⟨rfl,Below.refl _ _⟩
end Go.Proofs.YtdhinkgjiapigabGreatDoor
namespace Go.Proofs.YtdhinkgjiapigabGreatDoor
open Go.RowKit Go.Deep
open Classical
theorem zby (g:Int) (l:List Bool) (b:Bool):(zbl g l b).toList = .int .i64 g :: (l.map Value.bool ++ [.bool b]):=by simp [zbl]
theorem zca {g:Int} {l:List Bool} {b:Bool} (h:l.length = 30):(zbl g l b).size = 32:=by
 rw [← Array.length_toList,zby];simp [h]
theorem zmj {W:World} {u t:Nat} {g:Int} {l:List Bool} {b:Bool} (h:W.rowIs u t (zbl g l b).size (fun i=>(zbl g l b)[i]!)) (hl:l.length = 30) :
  ∃ f:Nat → Value,W.rowIs u t 32 f ∧ f 0 = .int .i64 g ∧ f 31 = .bool b ∧ ∀ (j:Nat) x,l[j]? = some x → f (1 + j) = .bool x:=by
 have hs:(zbl g l b).size = 32:=zca hl
 have hg:∀ (i:Nat) v,(zbl g l b).toList[i]? = some v → (zbl g l b)[i]! = v:=fun i v hv=>by
  rw [Array.getElem?_toList] at hv;obtain ⟨hlt,he⟩:=Array.getElem?_eq_some_iff.1 hv;rw [getElem!_pos _ i hlt];exact he
 refine ⟨fun i=>(zbl g l b)[i]!,by rw [hs] at h; exact h,hg 0 _ (by rw [zby]; rfl),hg 31 _ ?_,fun j x hx=>hg _ _ ?_⟩
 ·rw [zby,List.getElem?_cons_succ,List.getElem?_append_right (by simp [hl])];simp [hl]
 ·have hj:j < l.length:=(List.getElem?_eq_some_iff.1 hx).1;rw [zby,Nat.add_comm,List.getElem?_cons_succ,List.getElem?_append_left (by simpa using hj),List.getElem?_map,hx];rfl
theorem Tryz.usedSize:(Tryz.prog.info? 217).map (·.size) = some 32:=by kernel_rfl
theorem zno {W:World} {u t:Nat} {f:Nat → Value} {g:Int} {l:List Bool} {b:Bool} (hr:W.rowIs u t 32 f) (hl:l.length = 30) (h0:f 0 = .int .i64 g) (h1:f 31 = .bool b) (h2:∀ (j:Nat) x,l[j]? = some x → f (1 + j) = .bool x) :
  W.rangeAt u 0 (zbl g l b).toList:=by
 intro j v hv
 have hj:j < 32:=by have:=(List.getElem?_eq_some_iff.1 hv).1; rw [Array.length_toList,zca hl] at this; exact this
 rw [Nat.zero_add,hr.cell hj];rw [zby] at hv;rcases j with _ | j
 ·rw [h0]; exact hv
 ·rw [List.getElem?_cons_succ] at hv;by_cases e:j < 30
  ·rw [List.getElem?_append_left (by simpa [hl] using e),List.getElem?_map] at hv;obtain ⟨x,hx⟩:=zb4 l (i:=j) (by omega);rw [hx] at hv;rw [show j + 1 = 1 + j by omega,h2 j x hx];exact hv
  ·obtain rfl:j = 30:=by omega
   rw [List.getElem?_append_right (by simp [hl])] at hv;simp [hl] at hv;rw [h1,hv]
theorem zkx {g:Int} {l:List Bool} {b:Bool} (hl:l.length = 30):(Tryz.prog.info? 217).map (·.size) = some (zbl g l b).toList.length:=by rw [Tryz.usedSize,Array.length_toList,zca hl]
theorem zmi {wr:World} {u t m k2:Nat} {f':Nat → Value} (hr:wr.rowIs u t 32 f'):zde ((wr.drewN m).setCell ⟨u,0,none⟩ (.int .i64 ((k2:Int) + 1))) u 0 = k2 + 1:=by
 unfold zde;rw [((zal hr (zan _ m)).set 0 _).cell (by omega),if_pos rfl];simp [intOf]
set_option maxRecDepth 100000 in
set_option maxHeartbeats 8000000 in
theorem zig (ok f1 f2 f3 u0 u1 u2 u3 u4:Value) (occ:List Bool) (secs:List Int) (g:Int) (l:List Bool) (b:Bool) (w:World) (hf1:Bools (In w) w f1 occ) (hu0:Ints (In w) w u0 secs) (hfit:zcw secs.length (.used g l b)) (hn30:secs.length ≤ 30)
  (hin:∀ s ∈ secs,0 ≤ s ∧ s < occ.length) (_ho:occ.length ≤ 1048576) :
  Calls Tryz.prog 182 #[.agg (zbl g l b),.agg #[ok,f1,f2,f3],.agg #[u0,u1,u2,u3,u4]] w fun e w'=>e = .returned (stV (zcr occ secs g l b)) ∧ Below w.heap.size w w':=by
 obtain ⟨hl,hg0,hgn,hpad⟩:=hfit;have T0:=zbs w 217 42 122 (zbl g l b) #[ok,f1,f2,f3] #[u0,u1,u2,u3,u4];obtain ⟨f,hr0,hr1,hr2,hr3⟩:=zmj (T0.row 0 _ _ rfl) hl;rw [Nat.add_zero] at hr0;obtain ⟨a1,c1,rfl,q1⟩:=hf1;obtain ⟨a0,c0,rfl,q0⟩:=hu0;have HOC:=zaa q1;have HS:=zaa q0;have HIN:=zaa hin;have HPAD:=zaa hpad
 have hlt':(l.take secs.length).length = secs.length:=by rw [List.length_take]; omega
 have HR1:=zaa hr1;have HR2:=zaa hr2;have HR3:=zaa hr3;have k1:(((w.alloc (.cells (zbl g l b) 217)).alloc (.cells #[ok,.slice a1 occ.length c1,f2,f3] 42)).alloc (.cells #[.slice a0 secs.length c0,u1,u2,u3,u4] 122)).cell? ⟨w.heap.size + 1,1,none⟩ = some (.slice a1 occ.length c1):=T0.cell (j:=1) (i:=1) rfl rfl;have k2:(((w.alloc (.cells (zbl g l b) 217)).alloc (.cells #[ok,.slice a1 occ.length c1,f2,f3] 42)).alloc (.cells #[.slice a0 secs.length c0,u1,u2,u3,u4] 122)).cell? ⟨w.heap.size + 1 + 1,0,none⟩ = some (.slice a0 secs.length c0):=T0.cell (j:=2) (i:=0) rfl rfl;have hbl:=T0.below;clear q1 q0 hin hpad hr1 hr2 hr3;go_enter Tryz.func182,Tryz.ntmps182;go_wp2;generalize hW0:((w.alloc (.cells (zbl g l b) 217)).alloc (.cells #[ok,.slice a1 occ.length c1,f2,f3] 42)).alloc (.cells #[.slice a0 secs.length c0,u1,u2,u3,u4] 122) = W0 at *;have HK1:=zaa k1;have HK2:=zaa k2;have HBL:=zaa hbl;have HRW:=zaa hr0;clear hW0 k1 k2 hbl hr0 T0
 go_loopw [13] (fun z wr=>∃ (k:Nat) (f':Nat → Value),k ≤ secs.length ∧ z = .int .i64 k ∧ But (fun c=>c ≠ w.heap.size) W0 wr ∧ wr.rowIs w.heap.size 217 32 f' ∧ f' 0 = .int .i64 g ∧ f' 31 = .bool b ∧ ∀ (j:Nat) x,l[j]? = some x → f' (1 + j) = .bool (if j < k then x || za1 occ (secs.getD j 0) else x)) (fun z _=>secs.length - (intOf z).toNat)
 case atStart=>exact ⟨0,f,Nat.zero_le _,rfl,But.refl _ _,HRW.out,HR1.out,HR2.out,fun j x hx=>by rw [if_neg (by omega)]; exact HR3.out j x hx⟩
 case round=>
  obtain ⟨k,f',hk,rfl,hB,hr,e0,e31,ej⟩:=hrel;have HB:=zaa hB;have E0:=zaa e0;have E31:=zaa e31;have EJ:=zaa ej;clear hB e0 e31 ej;have x1:=HB.out.cell HK1.out (by show w.heap.size + 1 ≠ w.heap.size; omega);have x2:=HB.out.cell HK2.out (by show w.heap.size + 1 + 1 ≠ w.heap.size; omega);by_cases hlt:k < secs.length
  ·obtain h0 | ⟨bs,os,rfl,hPs,hcs⟩:=HS.out
   ·omega
   obtain ⟨s,hs⟩:=zb4 secs hlt;obtain ⟨hin0,hin1⟩:=HIN.out s (List.mem_of_getElem? hs);obtain h0 | ⟨bc,oc,rfl,hPc,hcc⟩:=HOC.out
   ·omega
   obtain ⟨o,ho2⟩:∃ o,occ[s.toNat]? = some o:=⟨occ[s.toNat]'(by omega),List.getElem?_eq_getElem _⟩;obtain ⟨y,hy⟩:=zb4 l (i:=k) (by omega);have s0:=HB.out.cell (ckb (hcs k hlt s hs) HBL.out) (by show bs ≠ w.heap.size; have:bs < w.heap.size:=hPs; omega);have o0:=HB.out.cell (ckb (hcc s.toNat (by omega) o ho2) HBL.out) (by show bc ≠ w.heap.size; have:bc < w.heap.size:=hPc; omega);have gk:=hr.cell (i:=1 + k) (by omega);rw [EJ.out k y hy,if_neg (by omega)] at gk;have fk:=hr.frozen (1 + k)
   have hk30:(k:Int) < 30:=by omega
   have Hs:=zaa hs;have Hoc:=zaa ho2;have Hy:=zaa hy;clear hs ho2 hy hcs hcc
   have hnext:∀ v,v = Value.bool (y || o) → ∃ (k1:Nat) (f1:Nat → Value),k1 ≤ secs.length ∧ Value.int .i64 ((k:Int) + 1) = .int .i64 k1 ∧ But (fun c=>c ≠ w.heap.size) W0 (wr.setCell ⟨w.heap.size,1 + k,none⟩ v) ∧ (wr.setCell ⟨w.heap.size,1 + k,none⟩ v).rowIs w.heap.size 217 32 f1 ∧ f1 0 = .int .i64 g ∧ f1 31 = .bool b ∧ ∀ (j:Nat) x,l[j]? = some x → f1 (1 + j) = .bool (if j < k1 then x || za1 occ (secs.getD j 0) else x):=fun v hv=>by
    refine ⟨k + 1,_,by omega,by go_num,HB.out.setCell (fun z=>z rfl) _,hr.set (1 + k) _,?_,?_,fun j x hx=>?_⟩
    ·rw [if_neg (by omega)]; exact E0.out
    ·rw [if_neg (by omega)]; exact E31.out
    ·by_cases e:j = k
     ·subst e;rw [Hy.out] at hx
      cases hx
      rw [if_pos rfl,if_pos (by omega),hv,List.getD_eq_getElem?_getD,Hs.out];simp [zc5 Hoc.out]
     ·rw [if_neg (by omega),EJ.out j x hx];by_cases e2:j < k
      ·rw [if_pos e2,if_pos (by omega)]
      ·rw [if_neg e2,if_neg (by omega)]
   have HNX:=zaa hnext;clear hnext
   cases y
   ·go_wp2;go_roundw
    case rel=>exact HNX.out _ (by simp)
    case measure=>simp [intOf]; omega
   ·go_wp2;go_roundw
    case rel=>exact HNX.out _ (by simp)
    case measure=>simp [intOf]; omega
  ·have hkn:k = secs.length:=by omega
   have hbl2:(za2 occ secs (l.take secs.length)).length = secs.length:=za4 hlt'
   have hbd:∀ (j:Nat) y,(pad (za2 occ secs (l.take secs.length)))[j]? = some y → f' (1 + j) = .bool y:=fun j y hy=>by
    have hj30:j < 30:=by have:=(List.getElem?_eq_some_iff.1 hy).1; rw [zcz (by omega)] at this; exact this
    obtain ⟨z,hz⟩:=zb4 l (i:=j) (by omega);rw [EJ.out j z hz];by_cases e:j < secs.length
    ·obtain ⟨s,hs⟩:=zb4 secs e;unfold pad at hy;rw [List.getElem?_append_left (by omega),zdy hs (by rw [List.getElem?_take,if_pos e]; exact hz)] at hy
     cases hy
     rw [if_pos (by omega),List.getD_eq_getElem?_getD,hs];rfl
    ·unfold pad at hy;rw [List.getElem?_append_right (by omega)] at hy;have hy2:=List.mem_of_getElem? hy;have hy3:=(List.mem_replicate.1 hy2).2;rw [HPAD.out] at hz;unfold pad at hz;rw [List.getElem?_append_right (by omega)] at hz;have hz3:=(List.mem_replicate.1 (List.mem_of_getElem? hz)).2;rw [if_neg (by omega),hy3,hz3]
   obtain ⟨bd,hbde⟩:∃ bd,bd = za2 occ secs (l.take secs.length):=⟨_,rfl⟩;rw [← hbde] at hbl2 hbd;have HDE:=zaa hbde;have HBD:=zaa hbd;have hpl:(pad bd).length = 30:=zcz (by omega);have HPL:=zaa hpl;have HRO:=zaa hr;have HBL2:=zaa hbl2;clear hbde hbd hpl hr hbl2 HRW EJ;rename World=>wo;go_wp2
   go_loopw [] (fun wr=>∃ (k2:Nat) (f2:Nat → Value),k2 ≤ secs.length ∧ zbd occ secs bd g.toNat = zbd occ secs bd k2 ∧ But (fun c=>c ≠ w.heap.size) W0 wr ∧ wr.rowIs w.heap.size 217 32 f2 ∧ f2 0 = .int .i64 k2 ∧ ∀ q,q ≠ 0 → f2 q = f' q) (fun wr=>secs.length - zde wr w.heap.size 0)
   case atStart=>exact ⟨g.toNat,f',by omega,rfl,HB.out,HRO.out,by rw [E0.out]; congr 1; omega,fun _ _=>rfl⟩
   case round=>
    obtain ⟨k2,f2,hk2,hgo,B2,hr2,hf0,hfq⟩:=hrel;have HGO:=zaa hgo;have HFQ:=zaa hfq;have HF0:=zaa hf0;have HB2:=zaa B2;have p0:=hr2.cell (i:=0) (by omega);rw [hf0] at p0;have z0:=hr2.frozen 0
    have hcn:zde wr w.heap.size 0 = k2:=by simp [zde,p0,intOf]
    have HCN:=zaa hcn;clear x1 x2;have x1:=B2.cell HK1.out (by show w.heap.size + 1 ≠ w.heap.size; omega);have x2:=B2.cell HK2.out (by show w.heap.size + 1 + 1 ≠ w.heap.size; omega)
    have hbelow:∀ m,Below w.heap.size w (wr.drewN m):=fun m=>by
     have h1:Below w.heap.size w wr:=HBL.out.trans (HB2.out.below HBL.out.size fun x hx=>by show x ≠ w.heap.size; omega);exact h1.trans ((zan _ m).mono h1.size)
    have HBW:=zaa hbelow;obtain ⟨cs,hcs0⟩:∃ cs,cs = (zbl k2 (pad bd) b).toList:=⟨_,rfl⟩
    have hld:∀ m,(wr.drewN m).rangeAt w.heap.size 0 cs:=fun m=>by
     rw [hcs0];exact zno (zal hr2 (zan _ m)) HPL.out hf0 ((hfq 31 (by omega)).trans E31.out) fun j x hx=>(hfq (1 + j) (by omega)).trans (HBD.out j x hx)
    have hsz:(Tryz.prog.info? 217).map (·.size) = some cs.length:=by rw [hcs0]; exact zkx HPL.out
    have HLD:=zaa hld;have HSZ:=zaa hsz
    have hca:cs.toArray = zbl k2 (pad bd) b:=by rw [hcs0,Array.toArray_toList]
    have HCA:=zaa hca;clear hld hsz hcs0 hca;clear hgo hfq hf0 hcn hbelow B2
    have hres:zbd occ secs bd g.toNat ≠ secs.length → zbd occ secs bd g.toNat = k2 → stV (zcr occ secs g l b) = .iface 217 (.agg cs.toArray):=fun h1 h2=>by
     unfold zcr;rw [← HDE.out,if_neg h1,h2,HCA.out];rfl
    have HRES:=zaa hres;clear hres;by_cases hlt2:k2 < secs.length
    ·obtain h0 | ⟨bs,os,rfl,hPs,hcs⟩:=HS.out
     ·omega
     obtain ⟨s,hs⟩:=zb4 secs hlt2;obtain ⟨hin0,hin1⟩:=HIN.out s (List.mem_of_getElem? hs);obtain h0 | ⟨bc,oc,rfl,hPc,hcc⟩:=HOC.out
     ·omega
     obtain ⟨o,ho2⟩:∃ o,occ[s.toNat]? = some o:=⟨occ[s.toNat]'(by omega),List.getElem?_eq_getElem _⟩;obtain ⟨y,hy⟩:=zb4 bd (i:=k2) (by rw [HBL2.out]; exact hlt2)
     have hyp:(pad bd)[k2]? = some y:=by unfold pad; rw [List.getElem?_append_left (by rw [HBL2.out]; exact hlt2)]; exact hy
     have s0:=HB2.out.cell (ckb (hcs k2 hlt2 s hs) HBL.out) (by show bs ≠ w.heap.size; have:bs < w.heap.size:=hPs; omega);have o0:=HB2.out.cell (ckb (hcc s.toNat (by omega) o ho2) HBL.out) (by show bc ≠ w.heap.size; have:bc < w.heap.size:=hPc; omega);have gk:=hr2.cell (i:=1 + k2) (by omega);rw [HFQ.out _ (by omega),HBD.out k2 y hyp] at gk
     have hk30:(k2:Int) < 30:=by omega
     have hks:(k2:Int) < (secs.length:Int):=by omega
     have hle:(k2:Int) ≤ (secs.length:Int) - 1:=by omega
     have hstop:zkj occ secs bd k2 = false → stV (zcr occ secs g l b) = .iface 217 (.agg cs.toArray):=fun hno=>by
      have hgd:zbd occ secs bd g.toNat = k2:=HGO.out.trans (zeg (by rw [HBL2.out]; exact hlt2) hno);exact HRES.out (by omega) hgd
     have hnext:zkj occ secs bd k2 = true → ∀ m:Nat,∃ (k:Nat) (f3:Nat → Value),k ≤ secs.length ∧ zbd occ secs bd g.toNat = zbd occ secs bd k ∧ But (fun c=>c ≠ w.heap.size) W0 ((wr.drewN m).setCell ⟨w.heap.size,0,none⟩ (.int .i64 ((k2:Int) + 1))) ∧ ((wr.drewN m).setCell ⟨w.heap.size,0,none⟩ (.int .i64 ((k2:Int) + 1))).rowIs w.heap.size 217 32 f3 ∧ f3 0 = .int .i64 k ∧ ∀ q,q ≠ 0 → f3 q = f' q:=fun hyes m=>
      ⟨k2 + 1,_,by omega,HGO.out.trans (zh8 (by rw [HBL2.out]; exact hlt2) hyes),(HB2.out.call (zan _ _)).setCell (fun z=>z rfl) _,(zal hr2 (zan _ m)).set 0 _,by rw [if_pos rfl]; go_num,fun q hq=>by rw [if_neg hq]; exact HFQ.out q hq⟩
     have HNX:=zaa hnext;have HST:=zaa hstop;have Hs:=zaa hs;have Hoc:=zaa (zc5 ho2);have Hy:=zaa hy;have HR2':=zaa hr2;clear hnext hstop hs ho2 hy hcs hcc hyp hr2
     cases y
     ·go_wp2
      go_quiet (fail)
      go_wp2_with (refine wpList_load_mid rfl 217 _ rfl w.heap.size 0 rfl cs _ (HLD.out _) Tryz.underlying217 rfl HSZ.out ?_)
      go_wp2;go_ret;exact ⟨by rw [HST.out (by rw [zd7 Hs.out Hy.out]; rfl)]; rfl,HBW.out _⟩
     ·cases o
      ·by_cases hl3:k2 + 1 < secs.length
       ·obtain ⟨z,hz⟩:=zb4 bd (i:=k2 + 1) (by rw [HBL2.out]; exact hl3)
        have hzp:(pad bd)[k2 + 1]? = some z:=by unfold pad; rw [List.getElem?_append_left (by rw [HBL2.out]; exact hl3)]; exact hz
        have gz:=HR2'.out.cell (i:=1 + (k2 + 1)) (by omega);rw [HFQ.out _ (by omega),HBD.out _ z hzp] at gz;have Hz:=zaa hz
        have hl4:((k2:Int) == (secs.length:Int) - 1) = false:=by simp; omega
        have hl5:(k2:Int) + 1 < 30:=by omega
        clear hz hzp
        cases z
        ·go_wp2
         go_quiet (fail)
         go_wp2_with (refine wpList_load_mid rfl 217 _ rfl w.heap.size 0 rfl cs _ (HLD.out _) Tryz.underlying217 rfl HSZ.out ?_)
         go_wp2;go_ret;exact ⟨by rw [HST.out (by rw [zff Hs.out Hy.out Hz.out,Hoc.out]; rfl)]; rfl,HBW.out _⟩
        ·go_wp2
         go_quiet (fail)
         go_wp2;go_roundw
         case rel=>exact HNX.out (by rw [zff Hs.out Hy.out Hz.out,Hoc.out]; rfl) _
         case measure=>rw [HCN.out,zmi HR2'.out]; omega
       ·have hl4:((k2:Int) == (secs.length:Int) - 1) = true:=by simp; omega
        go_wp2
        go_quiet (fail)
        go_wp2;go_roundw
        case rel=>exact HNX.out (by rw [zkk Hs.out Hy.out (by rw [HBL2.out]; omega),Hoc.out]; rfl) _
        case measure=>rw [HCN.out,zmi HR2'.out]; omega
      ·go_wp2
       go_quiet (fail)
       go_wp2_with (refine wpList_load_mid rfl 217 _ rfl w.heap.size 0 rfl cs _ (HLD.out _) Tryz.underlying217 rfl HSZ.out ?_)
       go_wp2;go_ret;exact ⟨by rw [HST.out (by rw [zd7 Hs.out Hy.out,Hoc.out]; rfl)]; rfl,HBW.out _⟩
    ·have hidle:stV (zcr occ secs g l b) = stV .idle:=by
      have hgd:zbd occ secs bd g.toNat = secs.length:=(HGO.out.trans (zj3 (by rw [HBL2.out]; omega))).trans (by omega);unfold zcr;rw [← HDE.out,if_pos hgd]
     have HID:=zaa hidle
     have hnle:decide ((k2:Int) ≤ (secs.length:Int) - 1) = false:=by simp; omega
     have hgt:(secs.length:Int) - 1 < (k2:Int):=by omega
     clear hidle;go_wp2
     go_quiet (fail)
     go_wp2;go_ret;exact ⟨by rw [HID.out]; rfl,HBW.out _⟩
end Go.Proofs.YtdhinkgjiapigabGreatDoor
namespace Go.Proofs.YtdhinkgjiapigabGreatDoor
open Go.RowKit Go.Deep
open Classical
theorem zbr {B:Nat} {a:World} {b:Nat} (hb:B ≤ b):∀ (vs:List Value) (o:Nat) (w:World),Below B a w → Below B a (w.setCells b o vs)
 | [],_,_,h=>h
 | v :: r,o,w,h=>by
  rw [World.setCells]
  exact zbr hb r (o + 1) _ (h.setCell hb v)
theorem zel {W:World} {t:TypeId} {Z:Array Value} (hZ:Z.size = 32):(W.alloc (.cells Z t)).there W.heap.size 0 32:=fun j hj=>by
 have hr:=zak W t Z
 rw [hZ] at hr
 rw [Nat.zero_add]
 exact ⟨by rw [hr.cell hj]; rfl,hr.frozen j⟩
theorem zmh {W:World} {t:TypeId} {Z cs:Array Value} (hc:cs.size = 32) (hZ:Z.size = 32):Below W.heap.size W ((W.alloc (.cells Z t)).setCells W.heap.size 0 cs.toList) ∧ ((W.alloc (.cells Z t)).setCells W.heap.size 0 cs.toList).rangeAt W.heap.size 0 cs.toList:=
 ⟨zbr (Nat.le_refl _) _ _ _ (zab _ _),World.rangeAt_setCells_same _ _ _ _ (by rw [Array.length_toList,hc]; exact zel hZ)⟩
theorem zhn {g:Int} {l:List Bool} {b:Bool}:(zbl g l b).all (·.oneCell') = true:=by
 unfold zbl;refine all_oneCell_toArray fun v hv=>?_;rcases List.mem_cons.1 hv with rfl | hv
 ·rfl
 ·rcases List.mem_append.1 hv with hv | hv
  ·obtain ⟨x,-,rfl⟩:=List.mem_map.1 hv;rfl
  ·rcases List.mem_singleton.1 hv with rfl;rfl
set_option maxRecDepth 100000 in
set_option maxHeartbeats 8000000 in
theorem zln (ok f1 f2 f3 u0 u1 u2 u3 u4:Value) (s:StD) (occ:List Bool) (points:List (Int × Int)) (x:WayD) (w:World) (hf1:Bools (In w) w f1 occ) (hf2:Lies (In w) w f2 points) (hx:WayAt (In w) w u0 u1 u2 u3 u4 x)
  (hs:x.Small 30) (hl:∀ y,(y ∈ x.lies ∨ y ∈ x.flanks) → 0 ≤ y.1 ∧ y.1 < points.length) (hc:∀ s,(s ∈ x.sections ∨ s ∈ x.over) → 0 ≤ s ∧ s < occ.length) (hz:points.length ≤ 1048576 ∧ occ.length ≤ 1048576) (hn1:1 ≤ x.sections.length) (hfit:zcw x.sections.length s) :
  Calls Tryz.prog 138 #[.agg #[ok,f1,f2,f3],.agg #[u0,u1,u2,u3,u4],stV s] w fun e w'=>e = .returned (stV (zcf occ points x s)) ∧ Below w.heap.size w w':=by
 have T0:=zbc w 42 122 #[ok,f1,f2,f3] #[u0,u1,u2,u3,u4];have hk1:∀ W,Below w.heap.size w W → Bools (In W) W f1 occ:=fun W h=>hf1.keep (In.keep h).1 (In.keep h).2;have hk2:∀ W,Below w.heap.size w W → Lies (In W) W f2 points:=fun W h=>hf2.keep (In.keep h).1 (In.keep h).2;have hk3:∀ W,Below w.heap.size w W → WayAt (In W) W u0 u1 u2 u3 u4 x:=fun W h=>hx.keep (In.keep h).1 (In.keep h).2;have K1:=zaa hk1;have K2:=zaa hk2;have K3:=zaa hk3;have HL:=zaa hl;have HC:=zaa hc;have HS:=zaa hs;have HF:=zaa hfit;obtain ⟨z1,z2⟩:=hz;obtain ⟨sv,hsv⟩:∃ v,v = stV s:=⟨_,rfl⟩;rw [← hsv];have HSV:=zaa hsv;obtain ⟨a0,c0,rfl,q0⟩:=hx.1;obtain ⟨a1,c1,rfl,q1⟩:=hf1;obtain h0 | ⟨bs,os,rfl,hPs,hcs⟩:=q0
 ·omega
 obtain ⟨s0,hs0⟩:=zb4 x.sections (i:=0) (by omega);obtain ⟨hin0,hin1⟩:=hc s0 (.inl (List.mem_of_getElem? hs0));obtain h0 | ⟨bc,oc,rfl,hPc,hcc⟩:=q1
 ·omega
 obtain ⟨o,ho2⟩:∃ o,occ[s0.toNat]? = some o:=⟨occ[s0.toNat]'(by omega),List.getElem?_eq_getElem _⟩;have g0:=ckb (hcs 0 (by omega) s0 hs0) T0.below;have g1:=ckb (hcc s0.toNat (by omega) o ho2) T0.below;rw [Nat.add_zero] at g0
 have hoc:za1 occ (x.sections.getD 0 0) = o:=by rw [List.getD_eq_getElem?_getD,hs0]; exact zc5 ho2
 have HOC:=zaa hoc
 have hl0:(0:Int) < (x.sections.length:Int):=by omega
 have hT:∀ m,Boxes w [(42,#[ok,.slice (some ⟨bc,oc,none⟩) occ.length c1,f2,f3]),(122,#[.slice (some ⟨bs,os,none⟩) x.sections.length c0,u1,u2,u3,u4])] ((((w.alloc (.cells #[ok,.slice (some ⟨bc,oc,none⟩) occ.length c1,f2,f3] 42)).alloc (.cells #[.slice (some ⟨bs,os,none⟩) x.sections.length c0,u1,u2,u3,u4] 122))).drewN m):=fun m=>T0.call (zci _ m);have HT:=zaa hT;clear hT hk1 hk2 hk3 hf2 hx hl hc hs hfit hsv hcs hcc hs0 ho2 hoc T0;go_enter Tryz.func138,Tryz.ntmps138
 cases o with
 | false=>
  go_wp2
  go_quiet (fail)
  have T1:=HT.out nq;generalize World.drewN _ nq = W1 at T1 ⊢
  have hrs:zcf occ points x s = zrw occ points x s:=by unfold zcf; rw [HOC.out,if_neg (by decide)]
  obtain ⟨s1,hs1⟩:∃ s1,s1 = s:=⟨_,rfl⟩
  have HV1:Hid (sv = stV s1):=by rw [hs1]; exact HSV
  have HF1:Hid (zcw x.sections.length s1):=by rw [hs1]; exact HF
  have HRS:Hid (zcf occ points x s = zrw occ points x s1):=by rw [hs1]; exact hrs
  clear hrs hs1 HSV HF HT g0 g1
  cases s1 using StD.by with
  | idle=>
   have hv:sv = .iface 183 (.agg #[]):=HV1.out;subst hv;have t_set:=Tryz.ta_idle_set (.agg #[]);have t_clear:=Tryz.ta_idle_clear (.agg #[]);have t_used:=Tryz.ta_idle_used (.agg #[]);go_wp2;go_ret;exact ⟨by rw [HRS.out]; rfl,T1.below⟩
  | taking t=>
   have hv:sv = .iface 258 (.agg #[.int .i64 t]):=HV1.out;subst hv;have t_set:=Tryz.ta_taking_set (.agg #[.int .i64 t]);have t_clear:=Tryz.ta_taking_clear (.agg #[.int .i64 t]);have t_used:=Tryz.ta_taking_used (.agg #[.int .i64 t]);go_wp2;go_ret;exact ⟨by rw [HRS.out]; rfl,T1.below⟩
  | set sb=>
   have hv:sv = .iface 212 (.agg #[.bool sb]):=HV1.out;subst hv;have t_set:=Tryz.ta_set_set (.agg #[.bool sb]);have TT:=T1.call (zab W1 (.cells #[.bool sb] 212));have b0:=TT.cell (j:=0) (i:=0) rfl rfl;have b1:=TT.cell (j:=0) (i:=1) rfl rfl;have b2:=TT.cell (j:=0) (i:=2) rfl rfl;have b3:=TT.cell (j:=0) (i:=3) rfl rfl;have d0:=TT.cell (j:=1) (i:=0) rfl rfl;have d1:=TT.cell (j:=1) (i:=1) rfl rfl;have d2:=TT.cell (j:=1) (i:=2) rfl rfl;have d3:=TT.cell (j:=1) (i:=3) rfl rfl;have d4:=TT.cell (j:=1) (i:=4) rfl rfl;rw [Nat.add_zero] at b0 b1 b2 b3
   go_wp2_with fail
   refine (zcv ok _ f2 f3 _ u1 u2 u3 u4 sb occ points x _ (K1.out _ TT.below) (K2.out _ TT.below) (K3.out _ TT.below) HS.out HL.out HC.out ⟨z1,z2⟩).mono ?_;clear b0 b1 b2 b3 d0 d1 d2 d3 d4;rintro e w3 ⟨rfl,hb⟩;have T4:=TT.call hb;clear hb;go_wp2;go_ret;exact ⟨by rw [HRS.out]; rfl,T4.below⟩
  | clear=>
   have hv:sv = .iface 214 (.agg #[]):=HV1.out;subst hv;have t_set:=Tryz.ta_clear_set (.agg #[]);have t_clear:=Tryz.ta_clear_clear (.agg #[]);have TT:=T1.call (zab W1 (.cells #[] 214));have b0:=TT.cell (j:=0) (i:=0) rfl rfl;have b1:=TT.cell (j:=0) (i:=1) rfl rfl;have b2:=TT.cell (j:=0) (i:=2) rfl rfl;have b3:=TT.cell (j:=0) (i:=3) rfl rfl;have d0:=TT.cell (j:=1) (i:=0) rfl rfl;have d1:=TT.cell (j:=1) (i:=1) rfl rfl;have d2:=TT.cell (j:=1) (i:=2) rfl rfl;have d3:=TT.cell (j:=1) (i:=3) rfl rfl;have d4:=TT.cell (j:=1) (i:=4) rfl rfl;rw [Nat.add_zero] at b0 b1 b2 b3
   go_wp2_with fail
   refine (zcv ok _ f2 f3 _ u1 u2 u3 u4 true occ points x _ (K1.out _ TT.below) (K2.out _ TT.below) (K3.out _ TT.below) HS.out HL.out HC.out ⟨z1,z2⟩).mono ?_;clear b0 b1 b2 b3 d0 d1 d2 d3 d4;rintro e w3 ⟨rfl,hb⟩;have T4:=TT.call hb;clear hb;go_wp2;go_ret;exact ⟨by rw [HRS.out]; rfl,T4.below⟩
  | used g l b=>
   obtain ⟨cs,hcs0⟩:∃ cs,cs = zbl g l b:=⟨_,rfl⟩
   have hv:sv = .iface 217 (.agg cs):=by rw [hcs0]; exact HV1.out
   clear HV1;subst hv;have t_set:=Tryz.ta_used_set (.agg cs);have t_clear:=Tryz.ta_used_clear (.agg cs);have t_used:=Tryz.ta_used_used (.agg cs)
   have h32:cs.size = 32:=by rw [hcs0,zca HF1.out.1]
   have hth:∀ Z:Array Value,Z.size = 32 → (W1.alloc (.cells Z 217)).there W1.heap.size 0 cs.size:=fun Z hZ=>by rw [h32]; exact zel hZ
   have hsz:(Tryz.prog.info? 217).map (·.size) = some cs.size:=by rw [h32]; exact Tryz.usedSize
   have hone:cs.all (·.oneCell') = true:=by rw [hcs0]; exact zhn
   have hinf:(Tryz.prog.info? 217).map (·.size) = some cs.toList.length:=by rw [Array.length_toList]; exact hsz
   have HTH:=zaa hth;have HSZ:=zaa hsz;have HONE:=zaa hone;have HINF:=zaa hinf;have HCS:=zaa hcs0;have H32:=zaa h32;clear hth hsz hone hinf hcs0 h32;have hbz:∀ Z:Array Value,Below W1.heap.size W1 ((W1.alloc (.cells Z 217)).setCells W1.heap.size 0 cs.toList):=fun Z=>zbr (Nat.le_refl _) _ _ _ (zab _ _);have hrg:∀ Z:Array Value,Z.size = 32 → ((W1.alloc (.cells Z 217)).setCells W1.heap.size 0 cs.toList).rangeAt W1.heap.size 0 cs.toList:=fun Z hZ=>(zmh H32.out hZ).2;have HRG:=zaa hrg;have HBZ:=zaa hbz;clear hrg hbz;have b0:∀ Z:Array Value,((W1.alloc (.cells Z 217)).setCells W1.heap.size 0 cs.toList).cell? ⟨w.heap.size,0,none⟩ = some (ok):=fun Z=>(T1.call (HBZ.out Z)).cell (j:=0) (i:=0) rfl rfl;have b1:∀ Z:Array Value,((W1.alloc (.cells Z 217)).setCells W1.heap.size 0 cs.toList).cell? ⟨w.heap.size,1,none⟩ = some (.slice (some ⟨bc,oc,none⟩) occ.length c1):=fun Z=>(T1.call (HBZ.out Z)).cell (j:=0) (i:=1) rfl rfl;have b2:∀ Z:Array Value,((W1.alloc (.cells Z 217)).setCells W1.heap.size 0 cs.toList).cell? ⟨w.heap.size,2,none⟩ = some (f2):=fun Z=>(T1.call (HBZ.out Z)).cell (j:=0) (i:=2) rfl rfl;have b3:∀ Z:Array Value,((W1.alloc (.cells Z 217)).setCells W1.heap.size 0 cs.toList).cell? ⟨w.heap.size,3,none⟩ = some (f3):=fun Z=>(T1.call (HBZ.out Z)).cell (j:=0) (i:=3) rfl rfl;have d0:∀ Z:Array Value,((W1.alloc (.cells Z 217)).setCells W1.heap.size 0 cs.toList).cell? ⟨w.heap.size + 1,0,none⟩ = some (.slice (some ⟨bs,os,none⟩) x.sections.length c0):=fun Z=>(T1.call (HBZ.out Z)).cell (j:=1) (i:=0) rfl rfl
   have d1:∀ Z:Array Value,((W1.alloc (.cells Z 217)).setCells W1.heap.size 0 cs.toList).cell? ⟨w.heap.size + 1,1,none⟩ = some (u1):=fun Z=>(T1.call (HBZ.out Z)).cell (j:=1) (i:=1) rfl rfl;have d2:∀ Z:Array Value,((W1.alloc (.cells Z 217)).setCells W1.heap.size 0 cs.toList).cell? ⟨w.heap.size + 1,2,none⟩ = some (u2):=fun Z=>(T1.call (HBZ.out Z)).cell (j:=1) (i:=2) rfl rfl;have d3:∀ Z:Array Value,((W1.alloc (.cells Z 217)).setCells W1.heap.size 0 cs.toList).cell? ⟨w.heap.size + 1,3,none⟩ = some (u3):=fun Z=>(T1.call (HBZ.out Z)).cell (j:=1) (i:=3) rfl rfl;have d4:∀ Z:Array Value,((W1.alloc (.cells Z 217)).setCells W1.heap.size 0 cs.toList).cell? ⟨w.heap.size + 1,4,none⟩ = some (u4):=fun Z=>(T1.call (HBZ.out Z)).cell (j:=1) (i:=4) rfl rfl
   go_wp2_with (first | (refine wpList_store_mid rfl 217 _ _ rfl W1.heap.size 0 cs rfl rfl (HTH.out _ rfl) HSZ.out HONE.out ?_) | (refine wpList_load_mid rfl 217 _ rfl W1.heap.size 0 rfl cs.toList _ (HRG.out _ rfl) Tryz.underlying217 rfl HINF.out ?_))
   generalize hG:World.setCells (World.alloc W1 _) W1.heap.size 0 cs.toList = W2
   have hkey:Below W1.heap.size W1 W2:=by rw [← hG]; exact HBZ.out _
   have TT:=T1.call hkey;clear hG hkey
   try rw [Array.toArray_toList]
   rw [HCS.out];refine (zig ok _ f2 f3 _ u1 u2 u3 u4 occ x.sections g l b _ (K1.out _ TT.below) (K3.out _ TT.below).1 HF1.out HS.out.1 (fun y hy=>HC.out y (.inl hy)) z2).mono ?_;clear b0 b1 b2 b3 d0 d1 d2 d3 d4;rintro e w3 ⟨rfl,hb⟩;have T4:=TT.call hb;clear hb;go_wp2;go_ret;exact ⟨by rw [HRS.out]; rfl,T4.below⟩
 | true=>
  go_wp2
  go_quiet (fail)
  have T1:=HT.out nq;generalize World.drewN _ nq = W0 at T1 ⊢;have hen:=zk8 s W0;rw [← HSV.out] at hen
  go_wp2_with fail
  refine hen.mono ?_;rintro e W1 ⟨rfl,hb⟩;replace T1:=T1.call hb;obtain ⟨s1,hs1⟩:∃ s1,s1 = zgq s:=⟨_,rfl⟩;rw [← hs1]
  have HF1:Hid (zcw x.sections.length s1):=by rw [hs1]; exact zg5 HF.out hn1 HS.out.1
  have HRS:Hid (zcf occ points x s = zrw occ points x s1):=by rw [hs1]; show zcf occ points x s = _; unfold zcf; rw [HOC.out,if_pos rfl]
  obtain ⟨sv1,hv1⟩:∃ v,v = stV s1:=⟨_,rfl⟩;rw [← hv1];have HV1:=zaa hv1;clear hen hb hs1 HSV HF HT g0 g1 hv1
  cases s1 using StD.by with
  | idle=>
   have hv:sv1 = .iface 183 (.agg #[]):=HV1.out;subst hv;have t_set:=Tryz.ta_idle_set (.agg #[]);have t_clear:=Tryz.ta_idle_clear (.agg #[]);have t_used:=Tryz.ta_idle_used (.agg #[]);go_wp2;go_ret;exact ⟨by rw [HRS.out]; rfl,T1.below⟩
  | taking t=>
   have hv:sv1 = .iface 258 (.agg #[.int .i64 t]):=HV1.out;subst hv;have t_set:=Tryz.ta_taking_set (.agg #[.int .i64 t]);have t_clear:=Tryz.ta_taking_clear (.agg #[.int .i64 t]);have t_used:=Tryz.ta_taking_used (.agg #[.int .i64 t]);go_wp2;go_ret;exact ⟨by rw [HRS.out]; rfl,T1.below⟩
  | set sb=>
   have hv:sv1 = .iface 212 (.agg #[.bool sb]):=HV1.out;subst hv;have t_set:=Tryz.ta_set_set (.agg #[.bool sb]);have TT:=T1.call (zab W1 (.cells #[.bool sb] 212));have b0:=TT.cell (j:=0) (i:=0) rfl rfl;have b1:=TT.cell (j:=0) (i:=1) rfl rfl;have b2:=TT.cell (j:=0) (i:=2) rfl rfl;have b3:=TT.cell (j:=0) (i:=3) rfl rfl;have d0:=TT.cell (j:=1) (i:=0) rfl rfl;have d1:=TT.cell (j:=1) (i:=1) rfl rfl;have d2:=TT.cell (j:=1) (i:=2) rfl rfl;have d3:=TT.cell (j:=1) (i:=3) rfl rfl;have d4:=TT.cell (j:=1) (i:=4) rfl rfl;rw [Nat.add_zero] at b0 b1 b2 b3
   go_wp2_with fail
   refine (zcv ok _ f2 f3 _ u1 u2 u3 u4 sb occ points x _ (K1.out _ TT.below) (K2.out _ TT.below) (K3.out _ TT.below) HS.out HL.out HC.out ⟨z1,z2⟩).mono ?_;clear b0 b1 b2 b3 d0 d1 d2 d3 d4;rintro e w3 ⟨rfl,hb⟩;have T4:=TT.call hb;clear hb;go_wp2;go_ret;exact ⟨by rw [HRS.out]; rfl,T4.below⟩
  | clear=>
   have hv:sv1 = .iface 214 (.agg #[]):=HV1.out;subst hv;have t_set:=Tryz.ta_clear_set (.agg #[]);have t_clear:=Tryz.ta_clear_clear (.agg #[]);have TT:=T1.call (zab W1 (.cells #[] 214));have b0:=TT.cell (j:=0) (i:=0) rfl rfl;have b1:=TT.cell (j:=0) (i:=1) rfl rfl;have b2:=TT.cell (j:=0) (i:=2) rfl rfl;have b3:=TT.cell (j:=0) (i:=3) rfl rfl;have d0:=TT.cell (j:=1) (i:=0) rfl rfl;have d1:=TT.cell (j:=1) (i:=1) rfl rfl;have d2:=TT.cell (j:=1) (i:=2) rfl rfl;have d3:=TT.cell (j:=1) (i:=3) rfl rfl;have d4:=TT.cell (j:=1) (i:=4) rfl rfl;rw [Nat.add_zero] at b0 b1 b2 b3
   go_wp2_with fail
   refine (zcv ok _ f2 f3 _ u1 u2 u3 u4 true occ points x _ (K1.out _ TT.below) (K2.out _ TT.below) (K3.out _ TT.below) HS.out HL.out HC.out ⟨z1,z2⟩).mono ?_;clear b0 b1 b2 b3 d0 d1 d2 d3 d4;rintro e w3 ⟨rfl,hb⟩;have T4:=TT.call hb;clear hb;go_wp2;go_ret;exact ⟨by rw [HRS.out]; rfl,T4.below⟩
  | used g l b=>
   obtain ⟨cs,hcs0⟩:∃ cs,cs = zbl g l b:=⟨_,rfl⟩
   have hv:sv1 = .iface 217 (.agg cs):=by rw [hcs0]; exact HV1.out
   clear HV1;subst hv;have t_set:=Tryz.ta_used_set (.agg cs);have t_clear:=Tryz.ta_used_clear (.agg cs);have t_used:=Tryz.ta_used_used (.agg cs)
   have h32:cs.size = 32:=by rw [hcs0,zca HF1.out.1]
   have hth:∀ Z:Array Value,Z.size = 32 → (W1.alloc (.cells Z 217)).there W1.heap.size 0 cs.size:=fun Z hZ=>by rw [h32]; exact zel hZ
   have hsz:(Tryz.prog.info? 217).map (·.size) = some cs.size:=by rw [h32]; exact Tryz.usedSize
   have hone:cs.all (·.oneCell') = true:=by rw [hcs0]; exact zhn
   have hinf:(Tryz.prog.info? 217).map (·.size) = some cs.toList.length:=by rw [Array.length_toList]; exact hsz
   have HTH:=zaa hth;have HSZ:=zaa hsz;have HONE:=zaa hone;have HINF:=zaa hinf;have HCS:=zaa hcs0;have H32:=zaa h32;clear hth hsz hone hinf hcs0 h32;have hbz:∀ Z:Array Value,Below W1.heap.size W1 ((W1.alloc (.cells Z 217)).setCells W1.heap.size 0 cs.toList):=fun Z=>zbr (Nat.le_refl _) _ _ _ (zab _ _);have hrg:∀ Z:Array Value,Z.size = 32 → ((W1.alloc (.cells Z 217)).setCells W1.heap.size 0 cs.toList).rangeAt W1.heap.size 0 cs.toList:=fun Z hZ=>(zmh H32.out hZ).2;have HRG:=zaa hrg;have HBZ:=zaa hbz;clear hrg hbz;have b0:∀ Z:Array Value,((W1.alloc (.cells Z 217)).setCells W1.heap.size 0 cs.toList).cell? ⟨w.heap.size,0,none⟩ = some (ok):=fun Z=>(T1.call (HBZ.out Z)).cell (j:=0) (i:=0) rfl rfl;have b1:∀ Z:Array Value,((W1.alloc (.cells Z 217)).setCells W1.heap.size 0 cs.toList).cell? ⟨w.heap.size,1,none⟩ = some (.slice (some ⟨bc,oc,none⟩) occ.length c1):=fun Z=>(T1.call (HBZ.out Z)).cell (j:=0) (i:=1) rfl rfl;have b2:∀ Z:Array Value,((W1.alloc (.cells Z 217)).setCells W1.heap.size 0 cs.toList).cell? ⟨w.heap.size,2,none⟩ = some (f2):=fun Z=>(T1.call (HBZ.out Z)).cell (j:=0) (i:=2) rfl rfl;have b3:∀ Z:Array Value,((W1.alloc (.cells Z 217)).setCells W1.heap.size 0 cs.toList).cell? ⟨w.heap.size,3,none⟩ = some (f3):=fun Z=>(T1.call (HBZ.out Z)).cell (j:=0) (i:=3) rfl rfl;have d0:∀ Z:Array Value,((W1.alloc (.cells Z 217)).setCells W1.heap.size 0 cs.toList).cell? ⟨w.heap.size + 1,0,none⟩ = some (.slice (some ⟨bs,os,none⟩) x.sections.length c0):=fun Z=>(T1.call (HBZ.out Z)).cell (j:=1) (i:=0) rfl rfl
   have d1:∀ Z:Array Value,((W1.alloc (.cells Z 217)).setCells W1.heap.size 0 cs.toList).cell? ⟨w.heap.size + 1,1,none⟩ = some (u1):=fun Z=>(T1.call (HBZ.out Z)).cell (j:=1) (i:=1) rfl rfl;have d2:∀ Z:Array Value,((W1.alloc (.cells Z 217)).setCells W1.heap.size 0 cs.toList).cell? ⟨w.heap.size + 1,2,none⟩ = some (u2):=fun Z=>(T1.call (HBZ.out Z)).cell (j:=1) (i:=2) rfl rfl;have d3:∀ Z:Array Value,((W1.alloc (.cells Z 217)).setCells W1.heap.size 0 cs.toList).cell? ⟨w.heap.size + 1,3,none⟩ = some (u3):=fun Z=>(T1.call (HBZ.out Z)).cell (j:=1) (i:=3) rfl rfl;have d4:∀ Z:Array Value,((W1.alloc (.cells Z 217)).setCells W1.heap.size 0 cs.toList).cell? ⟨w.heap.size + 1,4,none⟩ = some (u4):=fun Z=>(T1.call (HBZ.out Z)).cell (j:=1) (i:=4) rfl rfl
   go_wp2_with (first | (refine wpList_store_mid rfl 217 _ _ rfl W1.heap.size 0 cs rfl rfl (HTH.out _ rfl) HSZ.out HONE.out ?_) | (refine wpList_load_mid rfl 217 _ rfl W1.heap.size 0 rfl cs.toList _ (HRG.out _ rfl) Tryz.underlying217 rfl HINF.out ?_))
   generalize hG:World.setCells (World.alloc W1 _) W1.heap.size 0 cs.toList = W2
   have hkey:Below W1.heap.size W1 W2:=by rw [← hG]; exact HBZ.out _
   have TT:=T1.call hkey;clear hG hkey
   try rw [Array.toArray_toList]
   rw [HCS.out];refine (zig ok _ f2 f3 _ u1 u2 u3 u4 occ x.sections g l b _ (K1.out _ TT.below) (K3.out _ TT.below).1 HF1.out HS.out.1 (fun y hy=>HC.out y (.inl hy)) z2).mono ?_;clear b0 b1 b2 b3 d0 d1 d2 d3 d4;rintro e w3 ⟨rfl,hb⟩;have T4:=TT.call hb;clear hb;go_wp2;go_ret;exact ⟨by rw [HRS.out]; rfl,T4.below⟩
end Go.Proofs.YtdhinkgjiapigabGreatDoor
namespace Go.Proofs.YtdhinkgjiapigabGreatDoor
open Go.RowKit Go.Deep
open Classical
theorem zlp {W:World} {u t:Nat} {f:Nat → Value} {g:Int} {l:List Bool} {b:Bool} (hr:W.rowIs u t 32 f) (hl:l.length ≤ 30) (h0:f 0 = .int .i64 g) (h1:f 31 = .bool b) (h2:∀ j,j < 30 → f (1 + j) = .bool false) :
  (W.setCells u 1 (l.map Value.bool)).rangeAt u 0 (zbl g (pad l) b).toList:=by
 intro j v hv;have hpl:=zcz hl
 have hj:j < 32:=by have:=(List.getElem?_eq_some_iff.1 hv).1; rw [Array.length_toList,zca hpl] at this; exact this
 rw [zby] at hv;rw [Nat.zero_add];rcases j with _ | j
 ·rw [World.cell?_setCells_out u _ 1 W ⟨u,0,none⟩ fun _ _=>.inl (by show 0 < 1; omega),hr.cell (by omega),h0];exact hv
 ·rw [List.getElem?_cons_succ] at hv;by_cases e:j < l.length
  ·rw [show j + 1 = 1 + j by omega,World.cell?_setCells_in u (l.map Value.bool) 1 W (fun i hi=>by rw [hr.cell (by simp at hi; omega)]; rfl) j (by simpa using e)];rw [List.getElem?_append_left (by simp; omega),List.getElem?_map] at hv;unfold pad at hv;rw [List.getElem?_append_left e,List.getElem?_eq_getElem e] at hv;simpa using hv
  ·rw [World.cell?_setCells_out u _ 1 W ⟨u,j + 1,none⟩ fun _ _=>.inr (by simp; omega),hr.cell (by omega)];by_cases e2:j < 30
   ·rw [List.getElem?_append_left (by simp; omega),List.getElem?_map] at hv;unfold pad at hv;rw [List.getElem?_append_right (by omega),List.getElem?_replicate,if_pos (by omega)] at hv;rw [show j + 1 = 1 + j by omega,h2 j e2];exact hv
   ·obtain rfl:j = 30:=by omega
    rw [List.getElem?_append_right (by simp; omega)] at hv;simp [hpl] at hv;rw [h1,hv]
theorem zeq {u t n:Nat}:∀ (vs:List Value) (o:Nat) {W:World} {f:Nat → Value},W.rowIs u t n f → ∃ f',(W.setCells u o vs).rowIs u t n f' ∧ (∀ (j:Nat) v,vs[j]? = some v → f' (o + j) = v) ∧ ∀ q,q < o ∨ o + vs.length ≤ q → f' q = f q
 | [],_,_,f,h=>⟨f,h,fun j v hv=>by simp at hv,fun _ _=>rfl⟩
 | v :: r,o,W,f,h=>by
  obtain ⟨f',h1,h2,h3⟩:=zeq r (o + 1) (h.set o v)
  refine ⟨f',h1,fun j x hx=>?_,fun q hq=>?_⟩
  ·rcases j with _ | j
   ·cases hx
    rw [Nat.add_zero,h3 o (.inl (by omega)),if_pos rfl]
   ·rw [List.getElem?_cons_succ] at hx
    rw [show o + (j + 1) = o + 1 + j by omega]
    exact h2 j x hx
  ·rw [h3 q (by simp at hq; omega),if_neg (by simp at hq; omega)]
def zrr:Option StD → Value
 | some s=>stV s
 | none=>.nilIface
theorem zkr {w:World} {c:Array Value} {t:TypeId} {Z cs:Array Value} (hZ:Z.size = 32):Boxes w [(t,c)] (((w.alloc (.cells c t)).alloc (.cells Z 217)).setCells (w.heap.size + 1) 0 cs.toList) ∧ ∃ f,(((w.alloc (.cells c t)).alloc (.cells Z 217)).setCells (w.heap.size + 1) 0 cs.toList).rowIs (w.heap.size + 1) 217 32 f ∧ ∀ (j:Nat) v,cs.toList[j]? = some v → f (0 + j) = v:=by
 have T:=zaw w t c
 have hs:(w.alloc (.cells c t)).heap.size = w.heap.size + 1:=by simp
 have hr:=zak (w.alloc (.cells c t)) 217 Z;rw [hs,hZ] at hr;obtain ⟨f,h1,h2,-⟩:=zeq cs.toList 0 hr;refine ⟨T.call ?_,f,h1,h2⟩;rw [hs];exact zbr (Nat.le_refl _) _ _ _ (by have:=zab (w.alloc (.cells c t)) (.cells Z 217); rwa [hs] at this)
set_option maxRecDepth 100000 in
set_option maxHeartbeats 8000000 in
theorem zdh (h:HeldD) (v2:Value) (w:World) (hb:Bools (In w) w v2 h.been) (hl:h.been.length ≤ 30) (hl1:1 ≤ h.been.length) :
  Calls Tryz.prog 178 #[.agg #[.int .i64 h.state,.int .i64 h.gone,v2,.bool h.shown,.int .i64 h.timer]] w fun e w'=>e = .returned (zrr (zp3 h)) ∧ Below w.heap.size w w':=by
 obtain ⟨state,gone,been,shown,timer⟩:=h;simp only at hb hl hl1 ⊢;have T0:=zaw w 93 #[.int .i64 state,.int .i64 gone,v2,.bool shown,.int .i64 timer];obtain ⟨a2,c2,rfl,hc⟩:=hb;by_cases e0:state = 0
 ·subst e0;clear hc;go_enter Tryz.func178,Tryz.ntmps178;go_wp2;go_ret;exact ⟨rfl,T0.below⟩
 by_cases e1:state = 1
 ·subst e1;clear hc e0;go_enter Tryz.func178,Tryz.ntmps178;go_wp2;go_ret;exact ⟨rfl,T0.below⟩
 by_cases e2:state = 2
 ·subst e2;clear hc e0 e1;go_enter Tryz.func178,Tryz.ntmps178;go_wp2;go_ret;exact ⟨rfl,T0.below⟩
 by_cases e3:state = 3
 ·subst e3;clear hc e0 e1 e2;go_enter Tryz.func178,Tryz.ntmps178;go_wp2;go_ret;exact ⟨rfl,T0.below⟩
 by_cases e4:state = 4
 ·subst e4;clear e0 e1 e2 e3;obtain hz | ⟨bb,ob,rfl,hbb,hcb⟩:=hc
  ·omega
  have hca0:zrr (zp3 ⟨4,gone,been,shown,timer⟩) = .iface 217 (.agg (zbl gone (pad been) shown)):=rfl;rw [hca0];clear hca0;have HCB:=zaa hcb;clear hcb T0;go_enter Tryz.func178,Tryz.ntmps178
  have hth:∀ Z:Array Value,Z.size = 32 → ((w.alloc (.cells #[.int .i64 4,.int .i64 gone,.slice (some ⟨bb,ob,none⟩) been.length c2,.bool shown,.int .i64 timer] 93)).alloc (.cells Z 217)).there (w.heap.size + 1) 0 (zbl gone (List.replicate 30 false) shown).size:=fun Z hZ=>by
   rw [zca (by rw [List.length_replicate])];have:=zel (W:=w.alloc (.cells #[.int .i64 4,.int .i64 gone,.slice (some ⟨bb,ob,none⟩) been.length c2,.bool shown,.int .i64 timer] 93)) (t:=217) hZ
   rwa [show (w.alloc (.cells #[.int .i64 4,.int .i64 gone,.slice (some ⟨bb,ob,none⟩) been.length c2,.bool shown,.int .i64 timer] 93)).heap.size = w.heap.size + 1 by simp] at this
  have hsz0:(Tryz.prog.info? 217).map (·.size) = some (zbl gone (List.replicate 30 false) shown).size:=by rw [zca (by rw [List.length_replicate])]; exact Tryz.usedSize
  have HTH:=zaa hth;have HSZ0:=zaa hsz0;clear hth hsz0
  go_wp2_with (refine wpList_store_mid rfl 217 _ _ rfl (w.heap.size + 1) 0 (zbl gone (List.replicate 30 false) shown) rfl rfl (HTH.out _ rfl) HSZ0.out zhn ?_)
  generalize hG:World.setCells (World.alloc (World.alloc w _) _) (w.heap.size + 1) 0 _ = W1
  have T1:Boxes w [(93,#[.int .i64 4,.int .i64 gone,.slice (some ⟨bb,ob,none⟩) been.length c2,.bool shown,.int .i64 timer])] W1 ∧ ∃ f,W1.rowIs (w.heap.size + 1) 217 32 f ∧ ∀ (j:Nat) v,(zbl gone (List.replicate 30 false) shown).toList[j]? = some v → f (0 + j) = v:=by
   rw [← hG];exact zkr rfl
  obtain ⟨T1,ff,hrw',hff⟩:=T1;clear hG;have hrw:=zal hrw' (zaf _);have ff0:ff 0 = .int .i64 gone:=hff 0 _ (by rw [zby]; rfl)
  have ff2:∀ (j:Nat),j < 30 → ff (1 + j) = .bool false:=fun j hj=>by
   have:=hff (1 + j) (.bool false) (by rw [zby,Nat.add_comm,List.getElem?_cons_succ,List.getElem?_append_left (by simpa using hj),List.getElem?_map,List.getElem?_replicate,if_pos hj]; rfl)
   rwa [Nat.zero_add] at this
  have ff1:ff 31 = .bool shown:=hff 31 _ (by rw [zby,List.getElem?_cons_succ,List.getElem?_append_right (by rw [List.length_map,List.length_replicate]; omega),List.length_map,List.length_replicate]; rfl);clear hff hrw' HTH HSZ0;obtain ⟨vs,hvs⟩:∃ vs,vs = been.map Value.bool:=⟨_,rfl⟩
  have hcp:∀ ty,(Builtin.copy_ #[27,27] ty #[.slice (some ⟨w.heap.size + 1,1,none⟩) 30 30,.slice (some ⟨bb,ob,none⟩) been.length c2]).run Tryz.prog W1.drew = .ok (goInt vs.length) (W1.drew.setCells (w.heap.size + 1) 1 vs):=fun ty=>
   run_copy_cells (P:=Tryz.prog) _ 27 27 ty 4 (w.heap.size + 1) 1 30 30 ⟨bb,ob,none⟩ been.length c2 vs Tryz.underlying27 (by kernel_rfl) (by rw [hvs,List.length_map]; show been.length = min been.length 30; omega)
    (fun j v hv=>by
     rw [hvs,List.getElem?_map] at hv
     obtain ⟨y,hy⟩:∃ y,been[j]? = some y:=by
      cases hh:been[j]? with
      | none=>rw [hh] at hv; cases hv
      | some y=>exact ⟨y,rfl⟩
     rw [hy] at hv
     cases hv
     rw [Addr.add_mid]
     exact ckb (HCB.out j (List.getElem?_eq_some_iff.1 hy).1 y hy) (T1.call (zaf _)).below)
    (fun j hj=>by rw [hrw.cell (by rw [hvs,List.length_map] at hj; omega)]; rfl) (fun j _=>hrw.frozen _)
    (fun v hv=>by rw [hvs] at hv; obtain ⟨y,-,rfl⟩:=List.mem_map.1 hv; rfl)
  have hfin:Below w.heap.size w (W1.drew.setCells (w.heap.size + 1) 1 vs) ∧ (W1.drew.setCells (w.heap.size + 1) 1 vs).rangeAt (w.heap.size + 1) 0 (zbl gone (pad been) shown).toList:=
   ⟨zbr (by omega) _ _ _ (T1.call (zaf _)).below,by rw [hvs]; exact zlp hrw hl ff0 ff1 ff2⟩
  obtain ⟨cs,hcs0⟩:∃ cs,cs = (zbl gone (pad been) shown).toList:=⟨_,rfl⟩
  have hsz:(Tryz.prog.info? 217).map (·.size) = some cs.length:=by rw [hcs0]; exact zkx (zcz hl)
  have hca:cs.toArray = zbl gone (pad been) shown:=by rw [hcs0,Array.toArray_toList]
  rw [← hcs0] at hfin;have HFIN:=zaa hfin;have HSZ:=zaa hsz;have HCA:=zaa hca;have k2:=T1.cell (j:=0) (i:=2) rfl rfl;rw [Nat.add_zero] at k2;clear hfin hsz hca hcs0 hrw ff0 ff1 ff2 hvs T1;go_wp2
  go_region
  go_wp2_with (refine wpList_load_mid rfl 217 _ rfl (w.heap.size + 1) 0 rfl cs _ HFIN.out.2 Tryz.underlying217 rfl HSZ.out ?_)
  go_wp2;go_ret;exact ⟨by rw [← HCA.out]; rfl,HFIN.out.1⟩
 ·have k0:(state == 0) = false:=by simpa using e0
  have k1:(state == 1) = false:=by simpa using e1
  have k2:(state == 2) = false:=by simpa using e2
  have k3:(state == 3) = false:=by simpa using e3
  have k4:(state == 4) = false:=by simpa using e4
  have hst:zp3 ⟨state,gone,been,shown,timer⟩ = none:=by unfold zp3; rw [if_neg e0,if_neg e1,if_neg e2,if_neg e3,if_neg e4]
  rw [hst];clear hc e0 e1 e2 e3 e4 hst;go_enter Tryz.func178,Tryz.ntmps178;go_wp2;go_ret;exact ⟨rfl,T0.below⟩
end Go.Proofs.YtdhinkgjiapigabGreatDoor
namespace Go.Proofs.YtdhinkgjiapigabGreatDoor
open Go.RowKit Go.Deep
open Classical
end Go.Proofs.YtdhinkgjiapigabGreatDoor
