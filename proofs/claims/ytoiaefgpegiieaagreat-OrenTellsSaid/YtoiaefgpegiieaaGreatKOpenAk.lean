/- How five intervals by value that come in read, and how they read again. -/
import Derived.Test.YtoiaefgpegiieaaGreatKQOpT
import Derived.OpenShut
import Derived.Deep.Strs
import Derived.Carry
namespace Go.Proofs.YtoiaefgpegiieaaGreat
open Go.ChangeShapes Go.WideShapes Go.ChangeAt Go.RowKit Go.Joins Go.Deep

theorem Tryz.cellsAsk : Tryz.prog.cellsOf 26 = 10 := by kernel_rfl
theorem rowOf10 {α : Type} {cs : Array α} (h : cs.size = 10) : ∃ c0 c1 c2 c3 c4 c5 c6 c7 c8 c9, cs = #[c0, c1, c2, c3, c4, c5, c6, c7, c8, c9] := by
  obtain ⟨l⟩ := cs
  match l, h with
  | [c0, c1, c2, c3, c4, c5, c6, c7, c8, c9], _ => exact ⟨c0, c1, c2, c3, c4, c5, c6, c7, c8, c9, rfl⟩
theorem trod_ivA {H : Type} {enc : TypeId × Value → H} {w : World} {base : Nat} {spare : Nat → Bool} {held : Bool} {fuel : Nat} {v0 v1 : Value} {x : DataW H × List MemPlace} (h : DataW.trod enc Tryz.prog w base spare held fuel 24 [v0, v1] = some x) :
    ∃ lo hi, v0 = .float .f64 lo ∧ v1 = .float .f64 hi ∧ x = (.agg [.lit (.float .f64 lo), .lit (.float .f64 hi)], []) ∧ (Lit.float .f64 lo).wf = true ∧ (Lit.float .f64 hi).wf = true := by
  obtain ⟨y0, y1, n, hx, _, h0, h1⟩ := trod_struct2 Tryz.underlying24 h
  have k : Tryz.prog.cellsOf 22 = 1 := by kernel_rfl
  have h0' : DataW.trod enc Tryz.prog w base spare held n 22 [v0] = some y0 := by rw [k] at h0; exact h0
  have h1' : DataW.trod enc Tryz.prog w base spare held n 22 [v1] = some y1 := by rw [k] at h1; exact h1
  obtain ⟨lo, rfl, rfl, w0⟩ := trod_float Tryz.underlying22 h0'
  obtain ⟨hi, rfl, rfl, w1⟩ := trod_float Tryz.underlying22 h1'
  exact ⟨lo, hi, rfl, rfl, hx, w0, w1⟩
theorem trod_float_1 {H : Type} {enc : TypeId × Value → H} {P : Program} {w : World} {base : Nat} {spare : Nat → Bool} {held : Bool} {t : TypeId} {k : FloatKind} {n : Nat} (m : Nat) (ht : P.underlying t = some (.float k)) (hw : (Lit.float k n).wf = true) : DataW.trod enc P w base spare held (m + 1) t [.float k n] = some (.lit (.float k n), []) := by
  simp [DataW.trod, ht, hw]

set_option maxRecDepth 100000 in
theorem trod_ivA_mk {H : Type} {enc : TypeId × Value → H} {w : World} {base : Nat} {spare : Nat → Bool} {held : Bool} {lo hi : Nat} (w0 : (Lit.float .f64 lo).wf = true) (w1 : (Lit.float .f64 hi).wf = true) :
    DataW.trod enc Tryz.prog w base spare held 2 24 [.float .f64 lo, .float .f64 hi] = some (.agg [.lit (.float .f64 lo), .lit (.float .f64 hi)], []) := by
  have k : Tryz.prog.cellsOf 22 = 1 := by kernel_rfl
  have h0 : DataW.trod enc Tryz.prog w base spare held 1 22 (([.float .f64 lo, .float .f64 hi].drop 0).take (Tryz.prog.cellsOf 22)) = some (.lit (.float .f64 lo), []) := by rw [k]; exact trod_float_1 0 Tryz.underlying22 w0
  have h1 : DataW.trod enc Tryz.prog w base spare held 1 22 (([.float .f64 lo, .float .f64 hi].drop 1).take (Tryz.prog.cellsOf 22)) = some (.lit (.float .f64 hi), []) := by rw [k]; exact trod_float_1 0 Tryz.underlying22 w1
  exact trod_struct2_mk Tryz.underlying24 (by rw [Tryz.cellsIv]; rfl) h0 h1
set_option maxRecDepth 100000 in
theorem open_ask {H : Type} {enc : TypeId × Value → H} {W : World} {base : Nat} {spare : Nat → Bool} {held : Bool} {r : Reach} {b0 : Nat} {v : Value} {d : DataW H} {p : List MemPlace} (hv : Value.okWide Tryz.prog W r b0 26 v) (h : DataW.Trod enc Tryz.prog W base spare held 26 v d p) :
    ∃ rl rh sl sh il ih ol oh dl dh, v = .agg #[.float .f64 rl, .float .f64 rh, .float .f64 sl, .float .f64 sh, .float .f64 il, .float .f64 ih, .float .f64 ol, .float .f64 oh, .float .f64 dl, .float .f64 dh] ∧
      d = .agg [.agg [.lit (.float .f64 rl), .lit (.float .f64 rh)], .agg [.lit (.float .f64 sl), .lit (.float .f64 sh)], .agg [.lit (.float .f64 il), .lit (.float .f64 ih)], .agg [.lit (.float .f64 ol), .lit (.float .f64 oh)], .agg [.lit (.float .f64 dl), .lit (.float .f64 dh)]] ∧ p = [] ∧ (Lit.float .f64 rl).wf = true ∧ (Lit.float .f64 rh).wf = true ∧ (Lit.float .f64 sl).wf = true ∧ (Lit.float .f64 sh).wf = true ∧ (Lit.float .f64 il).wf = true ∧ (Lit.float .f64 ih).wf = true ∧ (Lit.float .f64 ol).wf = true ∧ (Lit.float .f64 oh).wf = true ∧ (Lit.float .f64 dl).wf = true ∧ (Lit.float .f64 dh).wf = true := by
  obtain ⟨cs, rfl, hsz⟩ := okWide_struct Tryz.underlying26 hv
  obtain ⟨c0, c1, c2, c3, c4, c5, c6, c7, c8, c9, rfl⟩ := rowOf10 (hsz.trans Tryz.cellsAsk)
  obtain ⟨fuel, hf⟩ := h
  have hf' : DataW.trod enc Tryz.prog W base spare held fuel 26 [c0, c1, c2, c3, c4, c5, c6, c7, c8, c9] = some (d, p) := hf
  obtain ⟨xs, n, _, hx, _, hlen, hg⟩ := DataW.trod_struct Tryz.underlying26 hf'
  match xs, hlen with
  | [y0, y1, y2, y3, y4], _ =>
    have h0 : DataW.trod enc Tryz.prog W base spare held n 24 (([c0, c1, c2, c3, c4, c5, c6, c7, c8, c9].drop 0).take (Tryz.prog.cellsOf 24)) = some y0 := hg 0 _ rfl
    have g0 : DataW.trod enc Tryz.prog W base spare held n 24 [c0, c1] = some y0 := by rw [Tryz.cellsIv] at h0; exact h0
    have h1 : DataW.trod enc Tryz.prog W base spare held n 24 (([c0, c1, c2, c3, c4, c5, c6, c7, c8, c9].drop 2).take (Tryz.prog.cellsOf 24)) = some y1 := hg 1 _ rfl
    have g1 : DataW.trod enc Tryz.prog W base spare held n 24 [c2, c3] = some y1 := by rw [Tryz.cellsIv] at h1; exact h1
    have h2 : DataW.trod enc Tryz.prog W base spare held n 24 (([c0, c1, c2, c3, c4, c5, c6, c7, c8, c9].drop 4).take (Tryz.prog.cellsOf 24)) = some y2 := hg 2 _ rfl
    have g2 : DataW.trod enc Tryz.prog W base spare held n 24 [c4, c5] = some y2 := by rw [Tryz.cellsIv] at h2; exact h2
    have h3 : DataW.trod enc Tryz.prog W base spare held n 24 (([c0, c1, c2, c3, c4, c5, c6, c7, c8, c9].drop 6).take (Tryz.prog.cellsOf 24)) = some y3 := hg 3 _ rfl
    have g3 : DataW.trod enc Tryz.prog W base spare held n 24 [c6, c7] = some y3 := by rw [Tryz.cellsIv] at h3; exact h3
    have h4 : DataW.trod enc Tryz.prog W base spare held n 24 (([c0, c1, c2, c3, c4, c5, c6, c7, c8, c9].drop 8).take (Tryz.prog.cellsOf 24)) = some y4 := hg 4 _ rfl
    have g4 : DataW.trod enc Tryz.prog W base spare held n 24 [c8, c9] = some y4 := by rw [Tryz.cellsIv] at h4; exact h4
    obtain ⟨rl, rh, rfl, rfl, rfl, w0, w1⟩ := trod_ivA g0
    obtain ⟨sl, sh, rfl, rfl, rfl, w2, w3⟩ := trod_ivA g1
    obtain ⟨il, ih, rfl, rfl, rfl, w4, w5⟩ := trod_ivA g2
    obtain ⟨ol, oh, rfl, rfl, rfl, w6, w7⟩ := trod_ivA g3
    obtain ⟨dl, dh, rfl, rfl, rfl, w8, w9⟩ := trod_ivA g4
    simp only [Prod.mk.injEq] at hx
    exact ⟨rl, rh, sl, sh, il, ih, ol, oh, dl, dh, rfl, hx.1, hx.2, w0, w1, w2, w3, w4, w5, w6, w7, w8, w9⟩

theorem trod_struct5_mk {H : Type} {enc : TypeId × Value → H} {P : Program} {w : World} {base : Nat} {spare : Nat → Bool} {held : Bool} {t : TypeId} {f0 f1 f2 f3 f4 : Field} {n : Nat} {cs : List Value} {y0 y1 y2 y3 y4 : DataW H × List MemPlace} (ht : P.underlying t = some (.struct #[f0, f1, f2, f3, f4])) (hl : cs.length = P.cellsOf t)
    (h0 : DataW.trod enc P w base spare held n f0.type ((cs.drop f0.offset).take (P.cellsOf f0.type)) = some y0)
    (h1 : DataW.trod enc P w base spare held n f1.type ((cs.drop f1.offset).take (P.cellsOf f1.type)) = some y1)
    (h2 : DataW.trod enc P w base spare held n f2.type ((cs.drop f2.offset).take (P.cellsOf f2.type)) = some y2)
    (h3 : DataW.trod enc P w base spare held n f3.type ((cs.drop f3.offset).take (P.cellsOf f3.type)) = some y3)
    (h4 : DataW.trod enc P w base spare held n f4.type ((cs.drop f4.offset).take (P.cellsOf f4.type)) = some y4) :
    DataW.trod enc P w base spare held (n + 1) t cs = some (.agg [y0.1, y1.1, y2.1, y3.1, y4.1], y0.2 ++ (y1.2 ++ (y2.2 ++ (y3.2 ++ y4.2)))) := by
  have := trod_struct_mk (enc := enc) (w := w) (base := base) (spare := spare) (held := held) (n := n) (xs := [y0, y1, y2, y3, y4]) ht hl (by simp [h0, h1, h2, h3, h4])
  simpa using this

set_option maxRecDepth 100000 in
theorem shut_ask {H : Type} {enc : TypeId × Value → H} {W : World} {base : Nat} {spare : Nat → Bool} {held : Bool} {rl rh sl sh il ih ol oh dl dh : Nat} (w0 : (Lit.float .f64 rl).wf = true) (w1 : (Lit.float .f64 rh).wf = true) (w2 : (Lit.float .f64 sl).wf = true) (w3 : (Lit.float .f64 sh).wf = true) (w4 : (Lit.float .f64 il).wf = true) (w5 : (Lit.float .f64 ih).wf = true) (w6 : (Lit.float .f64 ol).wf = true) (w7 : (Lit.float .f64 oh).wf = true) (w8 : (Lit.float .f64 dl).wf = true) (w9 : (Lit.float .f64 dh).wf = true) :
    DataW.Trod enc Tryz.prog W base spare held 26 (.agg #[.float .f64 rl, .float .f64 rh, .float .f64 sl, .float .f64 sh, .float .f64 il, .float .f64 ih, .float .f64 ol, .float .f64 oh, .float .f64 dl, .float .f64 dh]) (.agg [.agg [.lit (.float .f64 rl), .lit (.float .f64 rh)], .agg [.lit (.float .f64 sl), .lit (.float .f64 sh)], .agg [.lit (.float .f64 il), .lit (.float .f64 ih)], .agg [.lit (.float .f64 ol), .lit (.float .f64 oh)], .agg [.lit (.float .f64 dl), .lit (.float .f64 dh)]]) [] := by
  have h0 : DataW.trod enc Tryz.prog W base spare held 2 24 (([.float .f64 rl, .float .f64 rh, .float .f64 sl, .float .f64 sh, .float .f64 il, .float .f64 ih, .float .f64 ol, .float .f64 oh, .float .f64 dl, .float .f64 dh].drop 0).take (Tryz.prog.cellsOf 24)) = some (.agg [.lit (.float .f64 rl), .lit (.float .f64 rh)], []) := by rw [Tryz.cellsIv]; exact trod_ivA_mk w0 w1
  have h1 : DataW.trod enc Tryz.prog W base spare held 2 24 (([.float .f64 rl, .float .f64 rh, .float .f64 sl, .float .f64 sh, .float .f64 il, .float .f64 ih, .float .f64 ol, .float .f64 oh, .float .f64 dl, .float .f64 dh].drop 2).take (Tryz.prog.cellsOf 24)) = some (.agg [.lit (.float .f64 sl), .lit (.float .f64 sh)], []) := by rw [Tryz.cellsIv]; exact trod_ivA_mk w2 w3
  have h2 : DataW.trod enc Tryz.prog W base spare held 2 24 (([.float .f64 rl, .float .f64 rh, .float .f64 sl, .float .f64 sh, .float .f64 il, .float .f64 ih, .float .f64 ol, .float .f64 oh, .float .f64 dl, .float .f64 dh].drop 4).take (Tryz.prog.cellsOf 24)) = some (.agg [.lit (.float .f64 il), .lit (.float .f64 ih)], []) := by rw [Tryz.cellsIv]; exact trod_ivA_mk w4 w5
  have h3 : DataW.trod enc Tryz.prog W base spare held 2 24 (([.float .f64 rl, .float .f64 rh, .float .f64 sl, .float .f64 sh, .float .f64 il, .float .f64 ih, .float .f64 ol, .float .f64 oh, .float .f64 dl, .float .f64 dh].drop 6).take (Tryz.prog.cellsOf 24)) = some (.agg [.lit (.float .f64 ol), .lit (.float .f64 oh)], []) := by rw [Tryz.cellsIv]; exact trod_ivA_mk w6 w7
  have h4 : DataW.trod enc Tryz.prog W base spare held 2 24 (([.float .f64 rl, .float .f64 rh, .float .f64 sl, .float .f64 sh, .float .f64 il, .float .f64 ih, .float .f64 ol, .float .f64 oh, .float .f64 dl, .float .f64 dh].drop 8).take (Tryz.prog.cellsOf 24)) = some (.agg [.lit (.float .f64 dl), .lit (.float .f64 dh)], []) := by rw [Tryz.cellsIv]; exact trod_ivA_mk w8 w9
  exact ⟨3, trod_struct5_mk Tryz.underlying26 (by rw [Tryz.cellsAsk]; rfl) h0 h1 h2 h3 h4⟩

end Go.Proofs.YtoiaefgpegiieaaGreat
