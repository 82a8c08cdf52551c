import Derived.Test.YtdhinkgjiapigaaDoorProg
import Derived.Test.YtdhinkgjiapigaaDoorBase
namespace Go.Proofs.YtdhinkgjiapigaaDoor
open Go.RowKit

set_option maxHeartbeats 400000 in
theorem eqFault_any (x y : Int) (w : World) :
    Calls Tryd.prog 10 #[.agg #[.int .i64 x, .int .i64 y], .agg #[.int .i64 x, .int .i64 y]] w fun e w' => e = .returned (.bool true) ∧ Below w.heap.size w w' := by
  go_enter Tryd.func10, Tryd.ntmps10
  go_wp2
  go_ret
  exact ⟨rfl, (((Below.refl _ _).alloc (Nat.le_refl _) _).alloc (by simp) _)⟩

end Go.Proofs.YtdhinkgjiapigaaDoor
