import Derived.Test.YtdhinkgjiapigabGreatDoorRead
import Derived.Test.YtdhinkgjiapigabGreatDoorBase
namespace Go.Proofs.YtdhinkgjiapigabGreatDoor
open Go.ChangeShapes Go.WideShapes Go.RowKit Go.Joins Go.Deep

theorem Tryz.cellsPoint : Tryz.prog.cellsOf 162 = 2 := by kernel_rfl
theorem Tryz.cellsHeld : Tryz.prog.cellsOf 155 = 5 := by kernel_rfl
theorem Tryz.cellsFrame : Tryz.prog.cellsOf 31 = 4 := by kernel_rfl
theorem Tryz.cellsPoints : Tryz.prog.cellsOf 28 = 1 := by kernel_rfl
theorem Tryz.cellsHelds : Tryz.prog.cellsOf 29 = 1 := by kernel_rfl
theorem list4 {l : List Value} (h : l.length = 4) : ∃ a b c d, l = [a, b, c, d] := by
  match l, h with
  | [a, b, c, d], _ => exact ⟨a, b, c, d, rfl⟩

section
variable {H : Type} {enc : TypeId × Value → H} {w : World} {base : Nat} {spare : Nat → Bool} {held : Bool}

theorem fields4 {P : Program} {t : TypeId} {f0 f1 f2 f3 : Field} {fuel : Nat} {a b c d : Value} {x : DataW H × List MemPlace} (ht : P.underlying t = some (.struct #[f0, f1, f2, f3])) (h : DataW.trod enc P w base spare held fuel t [a, b, c, d] = some x)
    (ho : f0.offset = 0 ∧ f1.offset = 1 ∧ f2.offset = 2 ∧ f3.offset = 3) (hc : P.cellsOf f0.type = 1 ∧ P.cellsOf f1.type = 1 ∧ P.cellsOf f2.type = 1 ∧ P.cellsOf f3.type = 1) :
    ∃ n y0 y1 y2 y3, DataW.trod enc P w base spare held n f0.type [a] = some y0 ∧ DataW.trod enc P w base spare held n f1.type [b] = some y1 ∧ DataW.trod enc P w base spare held n f2.type [c] = some y2 ∧ DataW.trod enc P w base spare held n f3.type [d] = some y3 := by
  obtain ⟨xs, n, -, -, -, hlen, hf⟩ := DataW.trod_struct ht h
  have h0 := hf 0 f0 rfl
  have h1 := hf 1 f1 rfl
  have h2 := hf 2 f2 rfl
  have h3 := hf 3 f3 rfl
  rw [ho.1, hc.1] at h0
  rw [ho.2.1, hc.2.1] at h1
  rw [ho.2.2.1, hc.2.2.1] at h2
  rw [ho.2.2.2, hc.2.2.2] at h3
  have hl : xs.length = 4 := hlen
  rw [List.getElem?_eq_getElem (by omega)] at h0 h1 h2 h3
  exact ⟨n, _, _, _, _, h0, h1, h2, h3⟩
theorem read_points {fuel : Nat} {v : Value} {x : DataW H × List MemPlace} (h : DataW.trod enc Tryz.prog w base spare held fuel 28 [v] = some x) : ∃ l, l.length ≤ 9223372036854775807 ∧ Lies (In w) w v l := by
  obtain ⟨l, hl, hs⟩ := readk (R := fun cs (z : Int × Int) => cs = [.int .i64 z.1, .int .i64 z.2]) Tryz.underlying28 Tryz.cellsPoint (by omega) h fun n cs y hcl hy => by
    obtain ⟨a, b, rfl⟩ := list2 hcl
    obtain ⟨m, y0, y1, h0, h1⟩ := fields2 Tryz.underlying162 hy ⟨rfl, rfl⟩ ⟨Tryz.cellsInt, Tryz.cellsInt⟩
    obtain ⟨z0, e0, -⟩ := DataW.trod_int Tryz.underlying3 h0
    obtain ⟨z1, e1, -⟩ := DataW.trod_int Tryz.underlying3 h1
    cases e0
    cases e1
    exact ⟨(z0, z1), rfl⟩
  refine ⟨l, hl, Sl.imp hs (fun _ h => h) fun b off i _ _ hE z hz => ?_⟩
  obtain ⟨cs, -, rfl, hc⟩ := hE z hz
  exact ⟨by simpa using hc 0 (by omega), by simpa using hc 1 (by omega)⟩
theorem read_helds {fuel : Nat} {v : Value} {x : DataW H × List MemPlace} (h : DataW.trod enc Tryz.prog w base spare held fuel 29 [v] = some x) : ∃ l, l.length ≤ 9223372036854775807 ∧ (∀ y : HeldD, y ∈ l → y.been.length ≤ 9223372036854775807) ∧ Helds (In w) w v l := by
  have hi : Inhabited HeldD := ⟨⟨0, 0, [], false, 0⟩⟩
  obtain ⟨l, hl, hs⟩ := readk (R := fun cs (z : HeldD) => z.been.length ≤ 9223372036854775807 ∧ ∃ v2, cs = [.int .i64 z.state, .int .i64 z.gone, v2, .bool z.shown, .int .i64 z.timer] ∧ Bools (In w) w v2 z.been) Tryz.underlying29 Tryz.cellsHeld (by omega) h fun n cs y hcl hy => by
    obtain ⟨a, b, c, d, e, rfl⟩ := list5 hcl
    obtain ⟨m, y0, y1, y2, y3, y4, h0, h1, h2, h3, h4⟩ := fields5 Tryz.underlying155 hy ⟨rfl, rfl, rfl, rfl, rfl⟩ ⟨Tryz.cellsInt, Tryz.cellsInt, Tryz.cellsBools, Tryz.cellsBool, Tryz.cellsInt⟩
    obtain ⟨z0, e0, -⟩ := DataW.trod_int Tryz.underlying3 h0
    obtain ⟨z1, e1, -⟩ := DataW.trod_int Tryz.underlying3 h1
    obtain ⟨l2, s2, r2⟩ := read_bools Tryz.underlying27 Tryz.underlying4 Tryz.cellsBool h2
    obtain ⟨z3, e3, -⟩ := DataW.trod_bool Tryz.underlying4 h3
    obtain ⟨z4, e4, -⟩ := DataW.trod_int Tryz.underlying3 h4
    cases e0
    cases e1
    cases e3
    cases e4
    exact ⟨⟨z0, z1, l2, z3, z4⟩, s2, c, rfl, r2⟩
  refine ⟨l, hl, fun y hy => ?_, Sl.imp hs (fun _ h => h) fun b off i _ _ hE z hz => ?_⟩
  · obtain ⟨i, hi⟩ := List.getElem?_of_mem hy
    obtain ⟨a, cap, -, h0 | ⟨b, off, -, -, hE⟩⟩ := hs
    · rw [List.length_eq_zero_iff.1 h0] at hy; cases hy
    · obtain ⟨cs, -, hu, -⟩ := hE i (List.getElem?_eq_some_iff.1 hi).1 y hi
      exact hu.1
  · obtain ⟨cs, -, ⟨-, v2, rfl, hw⟩, hc⟩ := hE z hz
    exact ⟨v2, hw, by simpa using hc 0 (by omega), by simpa using hc 1 (by omega), by simpa using hc 2 (by omega), by simpa using hc 3 (by omega), by simpa using hc 4 (by omega)⟩
theorem read_frame {fuel : Nat} {a b c d : Value} {x : DataW H × List MemPlace} (h : DataW.trod enc Tryz.prog w base spare held fuel 31 [a, b, c, d] = some x) :
    ∃ f : FrameD, a = .bool f.ok ∧ f.Small 9223372036854775807 ∧ FrameAt (In w) w b c d f := by
  obtain ⟨m, y0, y1, y2, y3, h0, h1, h2, h3⟩ := fields4 Tryz.underlying31 h ⟨rfl, rfl, rfl, rfl⟩ ⟨Tryz.cellsBool, Tryz.cellsBools, Tryz.cellsPoints, Tryz.cellsHelds⟩
  obtain ⟨z0, e0, -⟩ := DataW.trod_bool Tryz.underlying4 h0
  obtain ⟨l1, s1, r1⟩ := read_bools Tryz.underlying27 Tryz.underlying4 Tryz.cellsBool h1
  obtain ⟨l2, s2, r2⟩ := read_points h2
  obtain ⟨l3, s3, t3, r3⟩ := read_helds h3
  cases e0
  exact ⟨⟨z0, l1, l2, l3⟩, rfl, ⟨s1, s2, s3, t3⟩, r1, r2, r3⟩
end
end Go.Proofs.YtdhinkgjiapigabGreatDoor
