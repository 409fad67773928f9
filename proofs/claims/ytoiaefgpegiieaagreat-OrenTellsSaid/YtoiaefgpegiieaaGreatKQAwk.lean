/- Law file 2: what an op, asked of a calculator, answers: Op.Asked. -/
import Derived.Test.YtoiaefgpegiieaaGreatKDirA
import Derived.Test.YtoiaefgpegiieaaGreatKPut
import Derived.Test.YtoiaefgpegiieaaGreatKQIv
import Derived.Test.YtoiaefgpegiieaaGreatKMem
import Derived.Test.YtoiaefgpegiieaaGreatKDirG
import Derived.Test.YtoiaefgpegiieaaGreatKLdexp
import Derived.Deep.RegionHeld3
namespace Go.Proofs.YtoiaefgpegiieaaGreat
open Go.RowKit
attribute [local go_sem] run_store_float

end Go.Proofs.YtoiaefgpegiieaaGreat

namespace Go.Proofs.YtoiaefgpegiieaaGreat
open Go.RowKit
attribute [local go_sem] run_store_float

end Go.Proofs.YtoiaefgpegiieaaGreat

namespace Go.Proofs.YtoiaefgpegiieaaGreat
open Go.RowKit
attribute [local go_sem] run_store_float

theorem Has1.set2 {v : World} {b : Nat} {x y : Value} (h : Has1 v (b, #[x, y])) (x' y' : Value) : Has1 ((v.setCell ⟨b, 0, none⟩ x').setCell ⟨b, 1, none⟩ y') (b, #[x', y']) := ⟨by rw [size_set, size_set]; exact h.1, put2 h.2.1 _ _, fun i => by rw [frozen_set, frozen_set]; exact h.2.2 i⟩
theorem Has1.two {v : World} {b : Nat} {x y : Value} (h : Has1 v (b, #[x, y])) : v.cell? ⟨b, 0, none⟩ = some x ∧ v.cell? ⟨b, 1, none⟩ = some y := ⟨h.2.1 0, h.2.1 1⟩
theorem Has1.pc {v : World} {b : Nat} {x : Value} (h : Has1 v (b, #[x])) : v.cell? ⟨b, 0, none⟩ = some x := h.2.1 0
theorem Has1.pf {v : World} {p : Nat × Array Value} (h : Has1 v p) : v.frozen? ⟨p.1, 0, none⟩ = false := h.2.2 0

end Go.Proofs.YtoiaefgpegiieaaGreat

namespace Go.Proofs.YtoiaefgpegiieaaGreat
open Go.RowKit
attribute [local go_sem] run_store_float

def askI (al ah bl bh : Nat) : Nat → Res
  | 0 => addI al ah bl bh | 1 => subI al ah bl bh | 2 => mulI al ah bl bh | 3 => divI al ah bl bh | 4 => minI al ah bl bh | 5 => maxI al ah bl bh
  | 6 => sqrI al ah | 7 => sqrtI al ah | 8 => negI al ah | 9 => absI al ah | _ => ofI al
end Go.Proofs.YtoiaefgpegiieaaGreat
