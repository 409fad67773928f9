
/- What the laws of layer 6 ask beside the program: a small difference, p, Meets. -/
import Derived.Test.YtoocmocaelcbkaaQFD
namespace Go.Proofs.Ytoocmocaelcbkaa
open Go.RowKit
attribute [local go_sem] run_store_float

theorem sub_small {a b y0 : Nat} (ha : a < 18446744073709551616) (hb : b < 18446744073709551616) (ra : rightB a = true) (rb : rightB b = true) (pb : 0 ≤ val b) (hab : val b ≤ val a) (ly : y0 < 18446744073709551616) (ry : rightB y0 = true) (hy : val a - val b ≤ val y0) :
    ∃ r, floatBits .sub .f64 a b = some r ∧ r < 18446744073709551616 ∧ rightB r = true ∧ 0 ≤ val r ∧ val r ≤ val y0 := by
  have z0 : val 0 = 0 := by decide +kernel
  obtain ⟨r, h1, h2, h3, h4, h5⟩ := sub_near ha hb ra rb pb hab
  obtain ⟨r', k1, k2⟩ := sub_beside a b ha hb ra rb
  obtain rfl : r = r' := by
    have : some r = some r' := h1.symm.trans k1
    simpa using this
  obtain ⟨n1, n2, n3, n4⟩ := near_between (x0 := 0) (y0 := y0) (by decide) (sub_down a b ra rb) (sub_up a b ra rb) k2 (by decide) (by decide) (by rw [z0]; omega) ly ry (by omega)
  exact ⟨r, h1, h2, h3, h4, n4⟩
theorem add_nil6 {x : Nat} (lx : x < 18446744073709551616) (rx : rightB x = true) (px : 0 ≤ val x) : floatBits .add .f64 x 0 = some x := by
  have z0 : val 0 = 0 := by decide +kernel
  obtain ⟨r, h1, h2, h3, h4, h5⟩ := add_near lx (by decide : (0 : Nat) < 18446744073709551616) rx (by decide) px (by rw [z0]; exact Int.le_refl _) (y0 := x) lx rx (by rw [z0]; omega)
  rw [h1, val_inj h2 lx h3 rx (Int.le_antisymm h5 h4)]
set_option maxRecDepth 100000 in
theorem lMeets6_any (al ah bl bh : Nat) (w : World) (o1 : ((FloatKind.f64.format.order al bh == some Ordering.lt) || (FloatKind.f64.format.order al bh == some Ordering.eq)) = true) (o2 : ((FloatKind.f64.format.order bl ah == some Ordering.lt) || (FloatKind.f64.format.order bl ah == some Ordering.eq)) = true) :
    Calls Try.prog 43 #[.agg #[.float .f64 al, .float .f64 ah], .agg #[.float .f64 bl, .float .f64 bh]] w fun r w' => r = .returned (.bool true) ∧ Below w.heap.size w w' := by
  have M := Lib.hid (((Own.nil w).made #[.float .f64 al, .float .f64 ah] 24).made #[.float .f64 bl, .float .f64 bh] 24)
  simp only [World.size_alloc] at M
  obtain ⟨k1, k2⟩ := (M.out.nth 1 rfl).two
  obtain ⟨k3, k4⟩ := (M.out.nth 0 rfl).two
  go_enter Try.func43, Try.ntmps43
  go_wp2
  go_ret
  exact ⟨by rw [← o2]; rfl, M.out.base⟩
theorem meets6_any {a b : Res} (fa : Fit a) (fb : Fit b) (h : val a.lo ≤ val b.hi ∧ val b.lo ≤ val a.hi) (w : World) : Calls Try.prog 43 #[.agg #[.float .f64 a.lo, .float .f64 a.hi], .agg #[.float .f64 b.lo, .float .f64 b.hi]] w fun r w' => r = .returned (.bool true) ∧ Below w.heap.size w w' :=
  lMeets6_any a.lo a.hi b.lo b.hi w ((order_le _ _ fa.lo fb.hi fa.rlo fb.rhi).trans (decide_eq_true h.1)) ((order_le _ _ fb.lo fa.hi fb.rlo fa.rhi).trans (decide_eq_true h.2))
theorem p6_in {x : Nat} (lx : x < 18446744073709551616) (rx : rightB x = true) (px : 0 ≤ val x) (w : World) : Calls Try.prog 40 #[.float .f64 x] w fun r w' => r = .returned (.agg #[.float .f64 x, .float .f64 x]) ∧ Below w.heap.size w w' :=
  p6_any x w (add_nil6 lx rx px)
end Go.Proofs.Ytoocmocaelcbkaa
