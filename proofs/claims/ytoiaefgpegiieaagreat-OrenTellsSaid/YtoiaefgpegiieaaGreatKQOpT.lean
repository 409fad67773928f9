/- How a row of numbers of 32 bits that comes in reads, and how it reads again; five arguments. -/
import Derived.Test.YtoiaefgpegiieaaGreatKBase
import Derived.ProofKit
import Derived.Lib.SmallJoins
import Derived.Laws.Cover2
import Derived.OpenShut
import Derived.Deep.Strs
import Derived.Carry
namespace Go.Proofs.YtoiaefgpegiieaaGreat
open Go.ChangeShapes Go.WideShapes Go.ChangeAt Go.RowKit Go.Joins

theorem Tryz.own : ownKnob Tryz.prog.godebug = none := by kernel_rfl
theorem Tryz.cellsIv : Tryz.prog.cellsOf 24 = 2 := by kernel_rfl

theorem trod_float {H : Type} {enc : TypeId × Value → H} {P : Program} {w : World} {base : Nat} {spare : Nat → Bool} {held : Bool} {fuel : Nat} {t : TypeId} {k : FloatKind} {v : Value} {x : DataW H × List MemPlace} (ht : P.underlying t = some (.float k)) (h : DataW.trod enc P w base spare held fuel t [v] = some x) :
    ∃ n, v = .float k n ∧ x = (.lit (.float k n), []) ∧ (Lit.float k n).wf = true := by
  cases fuel with
  | zero => simp [DataW.trod] at h
  | succ n =>
    unfold DataW.trod at h
    rw [ht] at h
    split at h <;> simp_all

end Go.Proofs.YtoiaefgpegiieaaGreat

namespace Go.Proofs.YtoiaefgpegiieaaGreat
open Go.ChangeShapes Go.WideShapes Go.ChangeAt Go.RowKit Go.Joins Go.Deep

end Go.Proofs.YtoiaefgpegiieaaGreat

namespace Go.Proofs.YtoiaefgpegiieaaGreat
open Go.ChangeShapes Go.WideShapes Go.ChangeAt Go.RowKit Go.Joins Go.Deep

theorem Tryz.cellsU32 : Tryz.prog.cellsOf 27 = 1 := by kernel_rfl
theorem u32_nat {y : Int} (wf : (Lit.int .u32 y).wf = true) : ∃ x : Nat, y = (x : Int) ∧ x < 4294967296 := by
  have h := wf
  simp [Lit.wf] at h
  have e1 : IntKind.u32.min = 0 := by decide
  have e2 : IntKind.u32.max = 4294967295 := by decide
  obtain ⟨x, rfl⟩ := Int.eq_ofNat_of_zero_le (by omega : 0 ≤ y)
  exact ⟨x, rfl, by omega⟩

section
variable {H : Type} {enc : TypeId × Value → H} {P : Program} {w : World} {base : Nat} {spare : Nat → Bool} {held : Bool}
end

theorem arr10 {α : Type} {cs : Array α} (h : cs.size = 10) : ∃ c0 c1 c2 c3 c4 c5 c6 c7 c8 c9, cs = #[c0, c1, c2, c3, c4, c5, c6, c7, c8, c9] := by
  obtain ⟨l⟩ := cs
  match l, h with
  | [c0, c1, c2, c3, c4, c5, c6, c7, c8, c9], _ => exact ⟨c0, c1, c2, c3, c4, c5, c6, c7, c8, c9, rfl⟩
theorem Tryz.cellsN10 : Tryz.prog.cellsOf 28 = 10 := by kernel_rfl
set_option maxRecDepth 100000 in
theorem open_u10 {H : Type} {enc : TypeId × Value → H} {W : World} {base : Nat} {spare : Nat → Bool} {held : Bool} {r : Reach} {b0 : Nat} {v : Value} {d : DataW H} {p : List MemPlace} (hv : Value.okWide Tryz.prog W r b0 28 v) (h : DataW.Trod enc Tryz.prog W base spare held 28 v d p) :
    ∃ x0 x1 x2 x3 x4 x5 x6 x7 x8 x9 : Int, v = .agg #[.int .u32 x0, .int .u32 x1, .int .u32 x2, .int .u32 x3, .int .u32 x4, .int .u32 x5, .int .u32 x6, .int .u32 x7, .int .u32 x8, .int .u32 x9] ∧ d = .agg [.lit (.int .u32 x0), .lit (.int .u32 x1), .lit (.int .u32 x2), .lit (.int .u32 x3), .lit (.int .u32 x4), .lit (.int .u32 x5), .lit (.int .u32 x6), .lit (.int .u32 x7), .lit (.int .u32 x8), .lit (.int .u32 x9)] ∧ p = [] ∧ (Lit.int .u32 x0).wf = true ∧ (Lit.int .u32 x1).wf = true ∧ (Lit.int .u32 x2).wf = true ∧ (Lit.int .u32 x3).wf = true ∧ (Lit.int .u32 x4).wf = true ∧ (Lit.int .u32 x5).wf = true ∧ (Lit.int .u32 x6).wf = true ∧ (Lit.int .u32 x7).wf = true ∧ (Lit.int .u32 x8).wf = true ∧ (Lit.int .u32 x9).wf = true := by
  obtain ⟨cs, rfl, hsz, _⟩ : ∃ cs, v = .agg cs ∧ cs.size = Tryz.prog.cellsOf 28 ∧ Row.okWide Tryz.prog W r b0 28 cs := by
    simpa [Value.okWide, Tryz.underlying28] using hv
  obtain ⟨c0, c1, c2, c3, c4, c5, c6, c7, c8, c9, rfl⟩ := arr10 (hsz.trans Tryz.cellsN10)
  obtain ⟨fuel, hf⟩ := h
  have hf' : DataW.trod enc Tryz.prog W base spare held fuel 28 [c0, c1, c2, c3, c4, c5, c6, c7, c8, c9] = some (d, p) := hf
  obtain ⟨xs, m, rfl, hx, _, hl, hel⟩ := DataW.trod_array Tryz.underlying28 hf'
  match xs, hl with
  | [y0, y1, y2, y3, y4, y5, y6, y7, y8, y9], _ =>
    have g0 := hel 0 (by decide)
    have g1 := hel 1 (by decide)
    have g2 := hel 2 (by decide)
    have g3 := hel 3 (by decide)
    have g4 := hel 4 (by decide)
    have g5 := hel 5 (by decide)
    have g6 := hel 6 (by decide)
    have g7 := hel 7 (by decide)
    have g8 := hel 8 (by decide)
    have g9 := hel 9 (by decide)
    rw [Tryz.cellsU32] at g0 g1 g2 g3 g4 g5 g6 g7 g8 g9
    obtain ⟨x0, e0, rfl, w0⟩ := DataW.trod_int Tryz.underlying27 g0
    obtain ⟨x1, e1, rfl, w1⟩ := DataW.trod_int Tryz.underlying27 g1
    obtain ⟨x2, e2, rfl, w2⟩ := DataW.trod_int Tryz.underlying27 g2
    obtain ⟨x3, e3, rfl, w3⟩ := DataW.trod_int Tryz.underlying27 g3
    obtain ⟨x4, e4, rfl, w4⟩ := DataW.trod_int Tryz.underlying27 g4
    obtain ⟨x5, e5, rfl, w5⟩ := DataW.trod_int Tryz.underlying27 g5
    obtain ⟨x6, e6, rfl, w6⟩ := DataW.trod_int Tryz.underlying27 g6
    obtain ⟨x7, e7, rfl, w7⟩ := DataW.trod_int Tryz.underlying27 g7
    obtain ⟨x8, e8, rfl, w8⟩ := DataW.trod_int Tryz.underlying27 g8
    obtain ⟨x9, e9, rfl, w9⟩ := DataW.trod_int Tryz.underlying27 g9
    simp at e0 e1 e2 e3 e4 e5 e6 e7 e8 e9
    subst e0 e1 e2 e3 e4 e5 e6 e7 e8 e9
    simp only [Prod.mk.injEq] at hx
    exact ⟨x0, x1, x2, x3, x4, x5, x6, x7, x8, x9, rfl, hx.1, hx.2, w0, w1, w2, w3, w4, w5, w6, w7, w8, w9⟩

set_option maxRecDepth 100000 in
theorem shut_u10 {H : Type} {enc : TypeId × Value → H} {W : World} {base : Nat} {spare : Nat → Bool} {held : Bool} {x0 x1 x2 x3 x4 x5 x6 x7 x8 x9 : Int} (w0 : (Lit.int .u32 x0).wf = true) (w1 : (Lit.int .u32 x1).wf = true) (w2 : (Lit.int .u32 x2).wf = true) (w3 : (Lit.int .u32 x3).wf = true) (w4 : (Lit.int .u32 x4).wf = true) (w5 : (Lit.int .u32 x5).wf = true) (w6 : (Lit.int .u32 x6).wf = true) (w7 : (Lit.int .u32 x7).wf = true) (w8 : (Lit.int .u32 x8).wf = true) (w9 : (Lit.int .u32 x9).wf = true) :
    DataW.Trod enc Tryz.prog W base spare held 28 (.agg #[.int .u32 x0, .int .u32 x1, .int .u32 x2, .int .u32 x3, .int .u32 x4, .int .u32 x5, .int .u32 x6, .int .u32 x7, .int .u32 x8, .int .u32 x9]) (.agg [.lit (.int .u32 x0), .lit (.int .u32 x1), .lit (.int .u32 x2), .lit (.int .u32 x3), .lit (.int .u32 x4), .lit (.int .u32 x5), .lit (.int .u32 x6), .lit (.int .u32 x7), .lit (.int .u32 x8), .lit (.int .u32 x9)]) [] :=
  ⟨2, by simp [DataW.trod, Value.cells, Tryz.underlying28, Tryz.underlying27, Tryz.cellsN10, Tryz.cellsU32, w0, w1, w2, w3, w4, w5, w6, w7, w8, w9, show List.range 10 = [0, 1, 2, 3, 4, 5, 6, 7, 8, 9] from rfl]⟩

end Go.Proofs.YtoiaefgpegiieaaGreat
