import Derived.Test.YtdhinkgjiapigaaGreatDoorFrI8
namespace Go.Proofs.YtdhinkgjiapigaaGreatDoor
open Go.RowKit Go.Deep
open Classical
theorem Tryz.inv_idle_held (v : Value) (w : World) : (method 401 103 v "loop.example/tappet/impl.held").run Tryz.prog w = .ok (58, v) w := by kernel_rfl
theorem Tryz.inv_set_held (v : Value) (w : World) : (method 401 185 v "loop.example/tappet/impl.held").run Tryz.prog w = .ok (198, v) w := by kernel_rfl
theorem Tryz.inv_clear_held (v : Value) (w : World) : (method 401 187 v "loop.example/tappet/impl.held").run Tryz.prog w = .ok (242, v) w := by kernel_rfl
theorem Tryz.inv_taking_held (v : Value) (w : World) : (method 401 235 v "loop.example/tappet/impl.held").run Tryz.prog w = .ok (259, v) w := by kernel_rfl
theorem Tryz.inv_used_held (v : Value) (w : World) : (method 401 190 v "loop.example/tappet/impl.held").run Tryz.prog w = .ok (244, v) w := by kernel_rfl
end Go.Proofs.YtdhinkgjiapigaaGreatDoor
