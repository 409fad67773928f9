
/- How a triple and a vector that come in read, and how they read again. -/
import Derived.Test.YtlibfeegdjbhcaaQOpen
import Derived.OpenShut
import Derived.Deep.Strs
namespace Go.Proofs.Ytlibfeegdjbhcaa
open Go.ChangeShapes Go.WideShapes Go.ChangeAt Go.RowKit Go.Joins Go.Deep

theorem Try.cellsF3 : Try.prog.cellsOf 24 = 3 := by kernel_rfl

set_option maxRecDepth 100000 in
theorem open_f3 {H : Type} {enc : TypeId × Value → H} {W : World} {base : Nat} {spare : Nat → Bool} {held : Bool} {r : Reach} {b0 : Nat} {v : Value} {d : DataW H} {p : List MemPlace} (hv : Value.okWide Try.prog W r b0 24 v) (h : DataW.Trod enc Try.prog W base spare held 24 v d p) :
    ∃ x y z, v = .agg #[.float .f64 x, .float .f64 y, .float .f64 z] ∧ d = .agg [.lit (.float .f64 x), .lit (.float .f64 y), .lit (.float .f64 z)] ∧ p = [] ∧ (Lit.float .f64 x).wf = true ∧ (Lit.float .f64 y).wf = true ∧ (Lit.float .f64 z).wf = true := by
  obtain ⟨c0, c1, c2, y0, y1, y2, m, rfl, rfl, rfl, hy0, hy1, hy2⟩ := open_agg3 Try.underlying24 (by kernel_rfl) Try.cellsF3 hv h
  obtain ⟨x, rfl, rfl, w0⟩ := trod_float Try.underlying22 hy0
  obtain ⟨y, rfl, rfl, w1⟩ := trod_float Try.underlying22 hy1
  obtain ⟨z, rfl, rfl, w2⟩ := trod_float Try.underlying22 hy2
  exact ⟨x, y, z, rfl, rfl, rfl, w0, w1, w2⟩

set_option maxRecDepth 100000 in
theorem shut_f3 {H : Type} {enc : TypeId × Value → H} {W : World} {base : Nat} {spare : Nat → Bool} {held : Bool} {x y z : Nat} (w0 : (Lit.float .f64 x).wf = true) (w1 : (Lit.float .f64 y).wf = true) (w2 : (Lit.float .f64 z).wf = true) :
    DataW.Trod enc Try.prog W base spare held 24 (.agg #[.float .f64 x, .float .f64 y, .float .f64 z]) (.agg [.lit (.float .f64 x), .lit (.float .f64 y), .lit (.float .f64 z)]) [] :=
  shut_agg3 (y0 := (.lit (.float .f64 x), [])) (y1 := (.lit (.float .f64 y), [])) (y2 := (.lit (.float .f64 z), [])) Try.underlying24 (by kernel_rfl) Try.cellsF3 ⟨1, by simp [DataW.trod, Try.underlying22, w0]⟩ ⟨1, by simp [DataW.trod, Try.underlying22, w1]⟩ ⟨1, by simp [DataW.trod, Try.underlying22, w2]⟩

theorem Try.cellsVec : Try.prog.cellsOf 28 = 6 := by kernel_rfl

theorem array6 {α : Type} {cs : Array α} (h : cs.size = 6) : ∃ c0 c1 c2 c3 c4 c5, cs = #[c0, c1, c2, c3, c4, c5] := by
  obtain ⟨l⟩ := cs
  match l, h with
  | [c0, c1, c2, c3, c4, c5], _ => exact ⟨c0, c1, c2, c3, c4, c5, rfl⟩

/-- The two cells of an interval. -/
theorem trod_iv2 {H : Type} {enc : TypeId × Value → H} {w : World} {base : Nat} {spare : Nat → Bool} {held : Bool} {fuel : Nat} {v0 v1 : Value} {x : DataW H × List MemPlace} (h : DataW.trod enc Try.prog w base spare held fuel 26 [v0, v1] = some x) :
    ∃ lo hi, v0 = .float .f64 lo ∧ v1 = .float .f64 hi ∧ x = (.agg [.lit (.float .f64 lo), .lit (.float .f64 hi)], []) ∧ (Lit.float .f64 lo).wf = true ∧ (Lit.float .f64 hi).wf = true := by
  obtain ⟨y0, y1, n, hx, _, h0, h1⟩ := trod_struct2 Try.underlying26 h
  have k : Try.prog.cellsOf 22 = 1 := by kernel_rfl
  have h0' : DataW.trod enc Try.prog w base spare held n 22 [v0] = some y0 := by rw [k] at h0; exact h0
  have h1' : DataW.trod enc Try.prog w base spare held n 22 [v1] = some y1 := by rw [k] at h1; exact h1
  obtain ⟨lo, rfl, rfl, w0⟩ := trod_float Try.underlying22 h0'
  obtain ⟨hi, rfl, rfl, w1⟩ := trod_float Try.underlying22 h1'
  exact ⟨lo, hi, rfl, rfl, hx, w0, w1⟩

set_option maxRecDepth 100000 in
theorem open_vec {H : Type} {enc : TypeId × Value → H} {W : World} {base : Nat} {spare : Nat → Bool} {held : Bool} {r : Reach} {b0 : Nat} {v : Value} {d : DataW H} {p : List MemPlace} (hv : Value.okWide Try.prog W r b0 28 v) (h : DataW.Trod enc Try.prog W base spare held 28 v d p) :
    ∃ a b c e f g, v = .agg #[.float .f64 a, .float .f64 b, .float .f64 c, .float .f64 e, .float .f64 f, .float .f64 g] ∧
      d = .agg [.agg [.lit (.float .f64 a), .lit (.float .f64 b)], .agg [.lit (.float .f64 c), .lit (.float .f64 e)], .agg [.lit (.float .f64 f), .lit (.float .f64 g)]] ∧ p = [] ∧
      (Lit.float .f64 a).wf = true ∧ (Lit.float .f64 b).wf = true ∧ (Lit.float .f64 c).wf = true ∧ (Lit.float .f64 e).wf = true ∧ (Lit.float .f64 f).wf = true ∧ (Lit.float .f64 g).wf = true := by
  obtain ⟨cs, rfl, hsz⟩ := okWide_struct Try.underlying28 hv
  obtain ⟨c0, c1, c2, c3, c4, c5, rfl⟩ := array6 (hsz.trans Try.cellsVec)
  obtain ⟨fuel, hf⟩ := h
  have hf' : DataW.trod enc Try.prog W base spare held fuel 28 [c0, c1, c2, c3, c4, c5] = some (d, p) := hf
  obtain ⟨y0, y1, y2, n, hx, _, h0, h1, h2⟩ := trod_struct3 Try.underlying28 hf'
  have h0' : DataW.trod enc Try.prog W base spare held n 26 [c0, c1] = some y0 := by rw [Try.cellsIv] at h0; exact h0
  have h1' : DataW.trod enc Try.prog W base spare held n 26 [c2, c3] = some y1 := by rw [Try.cellsIv] at h1; exact h1
  have h2' : DataW.trod enc Try.prog W base spare held n 26 [c4, c5] = some y2 := by rw [Try.cellsIv] at h2; exact h2
  obtain ⟨a, b, rfl, rfl, rfl, w0, w1⟩ := trod_iv2 h0'
  obtain ⟨c, e, rfl, rfl, rfl, w2, w3⟩ := trod_iv2 h1'
  obtain ⟨f, g, rfl, rfl, rfl, w4, w5⟩ := trod_iv2 h2'
  simp only [Prod.mk.injEq] at hx
  exact ⟨a, b, c, e, f, g, rfl, hx.1, hx.2, w0, w1, w2, w3, w4, w5⟩

theorem trod_float_one {H : Type} {enc : TypeId × Value → H} {P : Program} {w : World} {base : Nat} {spare : Nat → Bool} {held : Bool} {t : TypeId} {k : FloatKind} {n : Nat} (m : Nat) (ht : P.underlying t = some (.float k)) (hw : (Lit.float k n).wf = true) : DataW.trod enc P w base spare held (m + 1) t [.float k n] = some (.lit (.float k n), []) := by
  simp [DataW.trod, ht, hw]

set_option maxRecDepth 100000 in
theorem trod_iv2_mk {H : Type} {enc : TypeId × Value → H} {w : World} {base : Nat} {spare : Nat → Bool} {held : Bool} {lo hi : Nat} (w0 : (Lit.float .f64 lo).wf = true) (w1 : (Lit.float .f64 hi).wf = true) :
    DataW.trod enc Try.prog w base spare held 2 26 [.float .f64 lo, .float .f64 hi] = some (.agg [.lit (.float .f64 lo), .lit (.float .f64 hi)], []) := by
  have k : Try.prog.cellsOf 22 = 1 := by kernel_rfl
  have h0 : DataW.trod enc Try.prog w base spare held 1 22 (([.float .f64 lo, .float .f64 hi].drop 0).take (Try.prog.cellsOf 22)) = some (.lit (.float .f64 lo), []) := by rw [k]; exact trod_float_one 0 Try.underlying22 w0
  have h1 : DataW.trod enc Try.prog w base spare held 1 22 (([.float .f64 lo, .float .f64 hi].drop 1).take (Try.prog.cellsOf 22)) = some (.lit (.float .f64 hi), []) := by rw [k]; exact trod_float_one 0 Try.underlying22 w1
  exact trod_struct2_mk Try.underlying26 (by rw [Try.cellsIv]; rfl) h0 h1

set_option maxRecDepth 100000 in
theorem shut_vec {H : Type} {enc : TypeId × Value → H} {W : World} {base : Nat} {spare : Nat → Bool} {held : Bool} {a b c e f g : Nat} (w0 : (Lit.float .f64 a).wf = true) (w1 : (Lit.float .f64 b).wf = true) (w2 : (Lit.float .f64 c).wf = true) (w3 : (Lit.float .f64 e).wf = true) (w4 : (Lit.float .f64 f).wf = true) (w5 : (Lit.float .f64 g).wf = true) :
    DataW.Trod enc Try.prog W base spare held 28 (.agg #[.float .f64 a, .float .f64 b, .float .f64 c, .float .f64 e, .float .f64 f, .float .f64 g]) (.agg [.agg [.lit (.float .f64 a), .lit (.float .f64 b)], .agg [.lit (.float .f64 c), .lit (.float .f64 e)], .agg [.lit (.float .f64 f), .lit (.float .f64 g)]]) [] := by
  have h0 : DataW.trod enc Try.prog W base spare held 2 26 (([.float .f64 a, .float .f64 b, .float .f64 c, .float .f64 e, .float .f64 f, .float .f64 g].drop 0).take (Try.prog.cellsOf 26)) = some (.agg [.lit (.float .f64 a), .lit (.float .f64 b)], []) := by rw [Try.cellsIv]; exact trod_iv2_mk w0 w1
  have h1 : DataW.trod enc Try.prog W base spare held 2 26 (([.float .f64 a, .float .f64 b, .float .f64 c, .float .f64 e, .float .f64 f, .float .f64 g].drop 2).take (Try.prog.cellsOf 26)) = some (.agg [.lit (.float .f64 c), .lit (.float .f64 e)], []) := by rw [Try.cellsIv]; exact trod_iv2_mk w2 w3
  have h2 : DataW.trod enc Try.prog W base spare held 2 26 (([.float .f64 a, .float .f64 b, .float .f64 c, .float .f64 e, .float .f64 f, .float .f64 g].drop 4).take (Try.prog.cellsOf 26)) = some (.agg [.lit (.float .f64 f), .lit (.float .f64 g)], []) := by rw [Try.cellsIv]; exact trod_iv2_mk w4 w5
  exact ⟨3, trod_struct3_mk Try.underlying28 (by rw [Try.cellsVec]; rfl) h0 h1 h2⟩

end Go.Proofs.Ytlibfeegdjbhcaa
