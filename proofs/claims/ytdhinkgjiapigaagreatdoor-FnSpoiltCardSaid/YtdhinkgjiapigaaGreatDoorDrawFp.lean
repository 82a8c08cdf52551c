import Derived.Test.YtdhinkgjiapigaaGreatDoorDrawE
import Derived.Deep.DeepCutAuto
namespace Go.Proofs.YtdhinkgjiapigaaGreatDoor
open Go.RowKit Go.Deep
open Classical
theorem zr3 (a b:Int):∀ u ∈ ([.int .i64 a,.int .i64 b]:List Value),u.oneCell' = true:=fun u hu=>by
 rcases List.mem_cons.1 hu with h | h
 ·rw [h]; rfl
 ·rw [List.mem_singleton.1 h]; rfl
theorem zr5 (a b c d e:Value) (h1:a.oneCell' = true) (h2:b.oneCell' = true) (h3:c.oneCell' = true) (h4:d.oneCell' = true) (h5:e.oneCell' = true):∀ u ∈ ([a,b,c,d,e]:List Value),u.oneCell' = true:=fun u hu=>by
 simp only [List.mem_cons,List.not_mem_nil,or_false] at hu
 rcases hu with h | h | h | h | h <;> rw [h] <;> assumption
theorem zpu:(Tryz.prog.info? 51).map (fun i=>(i.zero,i.size,i.bytes)) = some (some (.agg #[.slice none 0 0,.slice none 0 0,.slice none 0 0,.slice none 0 0,.slice none 0 0]),5,120):=by kernel_rfl
theorem zpt:(Tryz.prog.info? 36).map (fun i=>(i.zero,i.size,i.bytes)) = some (some (.slice none 0 0),1,24):=by kernel_rfl
def zdq (W:World) (b o:Nat):Nat:=match W.cell? ⟨b,o,none⟩ with
 | some (.slice _ n _)=>n
 | _=>0
end Go.Proofs.YtdhinkgjiapigaaGreatDoor
