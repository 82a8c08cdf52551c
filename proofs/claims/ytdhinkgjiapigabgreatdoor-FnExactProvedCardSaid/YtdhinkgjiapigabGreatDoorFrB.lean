import Derived.Test.YtdhinkgjiapigabGreatDoorFrA
import Derived.Test.YtdhinkgjiapigabGreatDoorMathI
namespace Go.Proofs.YtdhinkgjiapigabGreatDoor
open Go.RowKit Go.Deep

def usedC (g : Int) (l : List Bool) (b : Bool) : Array Value := (.int .i64 g :: (l.map Value.bool ++ [.bool b])).toArray
/-- A state as the program holds it. -/
def stV : StD → Value
  | .inl _ => .iface 183 (.agg #[])
  | .inr (.inl b) => .iface 212 (.agg #[.bool b])
  | .inr (.inr (.inl _)) => .iface 214 (.agg #[])
  | .inr (.inr (.inr (.inl t))) => .iface 258 (.agg #[.int .i64 t])
  | .inr (.inr (.inr (.inr (g, l, b)))) => .iface 217 (.agg (usedC g l b))

theorem Tryz.ta_idle_set (v : Value) (w : World) : (Instr.typeAssert (.iface 183 v) 165 212 true).run Tryz.prog w = .ok (.tuple #[.agg #[.bool false], .bool false]) w := by kernel_rfl
theorem Tryz.ta_idle_clear (v : Value) (w : World) : (Instr.typeAssert (.iface 183 v) 165 214 true).run Tryz.prog w = .ok (.tuple #[.agg #[], .bool false]) w := by kernel_rfl
theorem Tryz.ta_idle_taking (v : Value) (w : World) : (Instr.typeAssert (.iface 183 v) 165 258 true).run Tryz.prog w = .ok (.tuple #[.agg #[.int .i64 0], .bool false]) w := by kernel_rfl
theorem Tryz.ta_idle_used (v : Value) (w : World) : (Instr.typeAssert (.iface 183 v) 165 217 true).run Tryz.prog w = .ok (.tuple #[.agg (usedC 0 (List.replicate 30 false) false), .bool false]) w := by kernel_rfl
theorem Tryz.ta_set_set (v : Value) (w : World) : (Instr.typeAssert (.iface 212 v) 165 212 true).run Tryz.prog w = .ok (.tuple #[v, .bool true]) w := by kernel_rfl
theorem Tryz.ta_set_clear (v : Value) (w : World) : (Instr.typeAssert (.iface 212 v) 165 214 true).run Tryz.prog w = .ok (.tuple #[.agg #[], .bool false]) w := by kernel_rfl
theorem Tryz.ta_set_taking (v : Value) (w : World) : (Instr.typeAssert (.iface 212 v) 165 258 true).run Tryz.prog w = .ok (.tuple #[.agg #[.int .i64 0], .bool false]) w := by kernel_rfl
theorem Tryz.ta_set_used (v : Value) (w : World) : (Instr.typeAssert (.iface 212 v) 165 217 true).run Tryz.prog w = .ok (.tuple #[.agg (usedC 0 (List.replicate 30 false) false), .bool false]) w := by kernel_rfl
theorem Tryz.ta_clear_set (v : Value) (w : World) : (Instr.typeAssert (.iface 214 v) 165 212 true).run Tryz.prog w = .ok (.tuple #[.agg #[.bool false], .bool false]) w := by kernel_rfl
theorem Tryz.ta_clear_clear (v : Value) (w : World) : (Instr.typeAssert (.iface 214 v) 165 214 true).run Tryz.prog w = .ok (.tuple #[v, .bool true]) w := by kernel_rfl
theorem Tryz.ta_clear_taking (v : Value) (w : World) : (Instr.typeAssert (.iface 214 v) 165 258 true).run Tryz.prog w = .ok (.tuple #[.agg #[.int .i64 0], .bool false]) w := by kernel_rfl
theorem Tryz.ta_clear_used (v : Value) (w : World) : (Instr.typeAssert (.iface 214 v) 165 217 true).run Tryz.prog w = .ok (.tuple #[.agg (usedC 0 (List.replicate 30 false) false), .bool false]) w := by kernel_rfl
theorem Tryz.ta_taking_set (v : Value) (w : World) : (Instr.typeAssert (.iface 258 v) 165 212 true).run Tryz.prog w = .ok (.tuple #[.agg #[.bool false], .bool false]) w := by kernel_rfl
theorem Tryz.ta_taking_clear (v : Value) (w : World) : (Instr.typeAssert (.iface 258 v) 165 214 true).run Tryz.prog w = .ok (.tuple #[.agg #[], .bool false]) w := by kernel_rfl
theorem Tryz.ta_taking_taking (v : Value) (w : World) : (Instr.typeAssert (.iface 258 v) 165 258 true).run Tryz.prog w = .ok (.tuple #[v, .bool true]) w := by kernel_rfl
theorem Tryz.ta_taking_used (v : Value) (w : World) : (Instr.typeAssert (.iface 258 v) 165 217 true).run Tryz.prog w = .ok (.tuple #[.agg (usedC 0 (List.replicate 30 false) false), .bool false]) w := by kernel_rfl
theorem Tryz.ta_used_set (v : Value) (w : World) : (Instr.typeAssert (.iface 217 v) 165 212 true).run Tryz.prog w = .ok (.tuple #[.agg #[.bool false], .bool false]) w := by kernel_rfl
theorem Tryz.ta_used_clear (v : Value) (w : World) : (Instr.typeAssert (.iface 217 v) 165 214 true).run Tryz.prog w = .ok (.tuple #[.agg #[], .bool false]) w := by kernel_rfl
theorem Tryz.ta_used_taking (v : Value) (w : World) : (Instr.typeAssert (.iface 217 v) 165 258 true).run Tryz.prog w = .ok (.tuple #[.agg #[.int .i64 0], .bool false]) w := by kernel_rfl
theorem Tryz.ta_used_used (v : Value) (w : World) : (Instr.typeAssert (.iface 217 v) 165 217 true).run Tryz.prog w = .ok (.tuple #[v, .bool true]) w := by kernel_rfl
end Go.Proofs.YtdhinkgjiapigabGreatDoor

namespace Go.Proofs.YtdhinkgjiapigabGreatDoor
open Go.RowKit Go.Deep
open Classical

set_option maxRecDepth 100000 in
set_option maxHeartbeats 2000000 in
theorem signalled_any (ok f1 f2 f3 u0 u1 u2 u3 u4 : Value) (sh : Bool) (occ : List Bool) (points : List (Int × Int)) (x : WayD) (w : World) (hf1 : Bools (In w) w f1 occ) (hf2 : Lies (In w) w f2 points) (hx : WayAt (In w) w u0 u1 u2 u3 u4 x)
    (hs : x.Small 30) (hl : ∀ y, (y ∈ x.lies ∨ y ∈ x.flanks) → 0 ≤ y.1 ∧ y.1 < points.length) (hc : ∀ s, (s ∈ x.sections ∨ s ∈ x.over) → 0 ≤ s ∧ s < occ.length) (hz : points.length ≤ 1048576 ∧ occ.length ≤ 1048576) :
    Calls Tryz.prog 181 #[.agg #[ok, f1, f2, f3], .agg #[u0, u1, u2, u3, u4], .bool sh] w fun e w' => e = .returned (stV (signalD occ points x sh)) ∧ Below w.heap.size w w' := by
  have T0 := boxes2 w 42 122 #[ok, f1, f2, f3] #[u0, u1, u2, u3, u4]
  have h1 := hf1.keep (In.keep T0.below).1 (In.keep T0.below).2
  have h2 := hf2.keep (In.keep T0.below).1 (In.keep T0.below).2
  have h3 := hx.keep (In.keep T0.below).1 (In.keep T0.below).2
  go_enter Tryz.func181, Tryz.ntmps181
  go_wp2_with fail
  refine (proved_any ok f1 f2 f3 u0 u1 u2 u3 u4 occ points x _ h1 h2 h3 hs hl hc hz).mono ?_
  rintro e w1 ⟨rfl, hb⟩
  have T1 := T0.call hb
  clear T0 hb h1 h2 h3 hf1 hf2 hx hs hl hc
  cases hp : provedB occ points x with
  | true =>
    have HP := hide hp
    clear hp
    go_wp2
    go_ret
    exact ⟨by unfold signalD; rw [if_pos HP.out]; rfl, T1.below⟩
  | false =>
    have HP := hide hp
    clear hp
    go_wp2
    go_ret
    exact ⟨by unfold signalD; rw [if_neg (by rw [HP.out]; decide)]; rfl, T1.below⟩

set_option maxRecDepth 100000 in
set_option maxHeartbeats 2000000 in
theorem entered_any (s : StD) (w : World) : Calls Tryz.prog 180 #[stV s] w fun e w' => e = .returned (stV (enteredD s)) ∧ Below w.heap.size w w' := by
  cases s using StD.by with
  | idle =>
    show Calls _ _ #[.iface 183 (.agg #[])] _ _
    have t_set := Tryz.ta_idle_set
    have t_clear := Tryz.ta_idle_clear
    have t_taking := Tryz.ta_idle_taking
    go_enter Tryz.func180, Tryz.ntmps180
    go_wp2
    go_ret
    exact ⟨rfl, Below.refl _ _⟩
  | set b =>
    show Calls _ _ #[.iface 212 (.agg #[.bool b])] _ _
    have t_set := Tryz.ta_set_set
    have t_clear := Tryz.ta_set_clear
    have t_taking := Tryz.ta_set_taking
    go_enter Tryz.func180, Tryz.ntmps180
    go_wp2
    go_ret
    exact ⟨rfl, below_new _ _⟩
  | clear =>
    show Calls _ _ #[.iface 214 (.agg #[])] _ _
    have t_set := Tryz.ta_clear_set
    have t_clear := Tryz.ta_clear_clear
    have t_taking := Tryz.ta_clear_taking
    go_enter Tryz.func180, Tryz.ntmps180
    go_wp2
    go_ret
    exact ⟨rfl, Below.refl _ _⟩
  | taking t =>
    show Calls _ _ #[.iface 258 (.agg #[.int .i64 t])] _ _
    have t_set := Tryz.ta_taking_set
    have t_clear := Tryz.ta_taking_clear
    have t_taking := Tryz.ta_taking_taking
    go_enter Tryz.func180, Tryz.ntmps180
    go_wp2
    go_ret
    exact ⟨rfl, Below.refl _ _⟩
  | used g l b =>
    show Calls _ _ #[.iface 217 (.agg (usedC g l b))] _ _
    have t_set := Tryz.ta_used_set
    have t_clear := Tryz.ta_used_clear
    have t_taking := Tryz.ta_used_taking
    go_enter Tryz.func180, Tryz.ntmps180
    go_wp2
    go_ret
    exact ⟨rfl, Below.refl _ _⟩
end Go.Proofs.YtdhinkgjiapigabGreatDoor
