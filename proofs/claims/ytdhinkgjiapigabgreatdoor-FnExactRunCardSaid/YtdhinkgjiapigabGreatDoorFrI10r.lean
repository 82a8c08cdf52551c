import Derived.Test.YtdhinkgjiapigabGreatDoorFrI8
namespace Go.Proofs.YtdhinkgjiapigabGreatDoor
open Go.RowKit Go.Deep
open Classical
theorem Tryz.inv_idle_held (v : Value) (w : World) : (method 453 183 v "loop.example/tappet/impl.held").run Tryz.prog w = .ok (149, v) w := by kernel_rfl
theorem Tryz.inv_set_held (v : Value) (w : World) : (method 453 212 v "loop.example/tappet/impl.held").run Tryz.prog w = .ok (225, v) w := by kernel_rfl
theorem Tryz.inv_clear_held (v : Value) (w : World) : (method 453 214 v "loop.example/tappet/impl.held").run Tryz.prog w = .ok (295, v) w := by kernel_rfl
theorem Tryz.inv_taking_held (v : Value) (w : World) : (method 453 258 v "loop.example/tappet/impl.held").run Tryz.prog w = .ok (304, v) w := by kernel_rfl
theorem Tryz.inv_used_held (v : Value) (w : World) : (method 453 217 v "loop.example/tappet/impl.held").run Tryz.prog w = .ok (297, v) w := by kernel_rfl
end Go.Proofs.YtdhinkgjiapigabGreatDoor
