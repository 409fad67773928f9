/- MicroWithin, of any two directions that are drawn, wider by any part of 1, any that lie within them, and any alphas: what is told of intervals has what is told of those within them, where there is no error; and within them there is none, either. No conditions. -/
import Derived.Test.YthefgkgdadkgbaaGreatPA23
import Derived.Test.YthefgkgdadkgbaaGreatPA24
import Derived.ProofKit
import Derived.Carry
namespace Go.Proofs.YthefgkgdadkgbaaGreat
open Go.ChangeShapes Go.WideShapes Go.ChangeAt Go.RowKit

set_option maxRecDepth 100000 in
theorem microWithin_lifted (os : Os) (started : os.Started) (H : Type) (enc : TypeId × Value → H) :
    ReturnsInHanded {} Tryz.checked os 3 .any (Rows.microWithinSpec.pre6 enc Tryz.prog Tryz.f3 Rows.microWithinRow.domain false) (Rows.microWithinSpec.post enc Tryz.prog Tryz.f3 false true false false) := by
  refine returnsInHanded_of_change (C := Tryz.checked) Tryz.own started (by kernel_rfl) Tryz.func3
    (ChangeSpec.witness6 (enc := enc) (C := Tryz.checked) false ⟨#[], #[.agg #[.int .u32 0, .int .u32 0, .int .u32 0, .int .u32 0, .int .u32 0, .int .u32 0], .int .u8 0, .agg #[.int .u32 0, .int .u32 0, .int .u32 0, .int .u32 0, .int .u32 0, .int .u32 0], .agg #[.int .u32 0, .int .u32 0, .int .u32 0, .int .u32 0, .int .u32 0, .int .u32 0], .agg #[.int .u32 0, .int .u32 0, .int .u32 0, .int .u32 0]], []⟩ 8 (by kernel_rfl) (by kernel_rfl) (by kernel_rfl) (by kernel_rfl)) ?_
  intro W base args ds gs before hval0 hW hcnd _
  have hval : ∀ (j : Nat) t v, Tryz.f3.params[j]? = some t → args[j]? = some v → Value.okWide Tryz.prog W .any base t v := hval0
  have hW' := hW
  obtain ⟨p, q, hA0, hV, rfl, hfz, hnd⟩ := hW
  have hA : DataW.TrodAll enc Tryz.prog W 0 (fun _ => true) true Tryz.f3.params.toList args.toList ds p := hA0
  rw [Tryz.params3] at hA hval
  obtain ⟨v0, v1, v2, v3, v4, d0, d1, d2, d3, d4, p0, p1, p2, p3, p4, rfl, rfl, rfl, h0, h1, h2, h3, h4⟩ := trodAll_five hA
  obtain ⟨rfl, rfl⟩ := trodVars_none hV
  obtain ⟨y0_0, y0_1, y0_2, y0_3, y0_4, y0_5, rfl, rfl, rfl, z0_0, z0_1, z0_2, z0_3, z0_4, z0_5⟩ := open_u6 (hval 0 23 v0 rfl rfl) h0
  obtain ⟨y1, rfl, rfl, rfl, wf1⟩ := open_int Tryz.underlying5 (hval 1 5 v1 rfl rfl) h1
  obtain ⟨y2_0, y2_1, y2_2, y2_3, y2_4, y2_5, rfl, rfl, rfl, z2_0, z2_1, z2_2, z2_3, z2_4, z2_5⟩ := open_u6 (hval 2 23 v2 rfl rfl) h2
  obtain ⟨y3_0, y3_1, y3_2, y3_3, y3_4, y3_5, rfl, rfl, rfl, z3_0, z3_1, z3_2, z3_3, z3_4, z3_5⟩ := open_u6 (hval 3 23 v3 rfl rfl) h3
  obtain ⟨y4_0, y4_1, y4_2, y4_3, rfl, rfl, rfl, z4_0, z4_1, z4_2, z4_3⟩ := open_u4 (hval 4 24 v4 rfl rfl) h4
  clear hA0 hval0
  simp only [List.append_nil] at hW'
  obtain ⟨x0_0, rfl, c0_0⟩ := u32_nat z0_0
  obtain ⟨x0_1, rfl, c0_1⟩ := u32_nat z0_1
  obtain ⟨x0_2, rfl, c0_2⟩ := u32_nat z0_2
  obtain ⟨x0_3, rfl, c0_3⟩ := u32_nat z0_3
  obtain ⟨x0_4, rfl, c0_4⟩ := u32_nat z0_4
  obtain ⟨x0_5, rfl, c0_5⟩ := u32_nat z0_5
  have b1 : 0 ≤ y1 ∧ y1 < 256 := by
    have := wf1
    simp [Lit.wf] at this
    have e1 : IntKind.u8.min = 0 := by decide
    have e2 : IntKind.u8.max = 255 := by decide
    omega
  obtain ⟨x1, rfl⟩ := Int.eq_ofNat_of_zero_le b1.1
  have l1_ : x1 < 256 := by omega
  obtain ⟨x2_0, rfl, c2_0⟩ := u32_nat z2_0
  obtain ⟨x2_1, rfl, c2_1⟩ := u32_nat z2_1
  obtain ⟨x2_2, rfl, c2_2⟩ := u32_nat z2_2
  obtain ⟨x2_3, rfl, c2_3⟩ := u32_nat z2_3
  obtain ⟨x2_4, rfl, c2_4⟩ := u32_nat z2_4
  obtain ⟨x2_5, rfl, c2_5⟩ := u32_nat z2_5
  obtain ⟨x3_0, rfl, c3_0⟩ := u32_nat z3_0
  obtain ⟨x3_1, rfl, c3_1⟩ := u32_nat z3_1
  obtain ⟨x3_2, rfl, c3_2⟩ := u32_nat z3_2
  obtain ⟨x3_3, rfl, c3_3⟩ := u32_nat z3_3
  obtain ⟨x3_4, rfl, c3_4⟩ := u32_nat z3_4
  obtain ⟨x3_5, rfl, c3_5⟩ := u32_nat z3_5
  obtain ⟨x4_0, rfl, c4_0⟩ := u32_nat z4_0
  obtain ⟨x4_1, rfl, c4_1⟩ := u32_nat z4_1
  obtain ⟨x4_2, rfl, c4_2⟩ := u32_nat z4_2
  obtain ⟨x4_3, rfl, c4_3⟩ := u32_nat z4_3
  refine (mwithin_any x0_0 x0_1 x0_2 x0_3 x0_4 x0_5 x1 x2_0 x2_1 x2_2 x2_3 x2_4 x2_5 x3_0 x3_1 x3_2 x3_3 x3_4 x3_5 x4_0 x4_1 x4_2 x4_3 W c0_0 c0_1 c0_2 c0_3 c0_4 c0_5 l1_ c2_0 c2_1 c2_2 c2_3 c2_4 c2_5 c3_0 c3_1 c3_2 c3_3 c3_4 c3_5 c4_0 c4_1 c4_2 c4_3).mono fun e W' ⟨he, hw⟩ => ?_
  subst he
  refine ⟨_, rfl, _, _, _, [], [], [], hW', trodAll_mk1 (shut_bool Tryz.underlying4 _), trodAll_mk5 (shut_u6 z0_0 z0_1 z0_2 z0_3 z0_4 z0_5) (shut_int Tryz.underlying5 wf1) (shut_u6 z2_0 z2_1 z2_2 z2_3 z2_4 z2_5) (shut_u6 z3_0 z3_1 z3_2 z3_3 z3_4 z3_5) (shut_u4 z4_0 z4_1 z4_2 z4_3), rfl, hw.frame _, fun h => by cases h⟩

theorem microWithin_holds : Rows.MicroWithinSaid :=
  OpenClaim.holds_of_wide 3 Tryz.f3 rfl rfl rfl rfl rfl rfl rfl ⟨rfl, rfl, rfl, rfl, rfl⟩ rfl rfl rfl rfl rfl (by kernel_rfl) Tryz.func3 (by kernel_rfl)
    (of_decide_eq_true (by kernel_rfl)) (by unfold Func.isWrapper; first | (rw [if_pos (by decide +kernel)]; kernel_rfl) | (rw [if_neg (by decide +kernel)]; exact ⟨rfl, rfl⟩))
    (fun os started H enc _ => microWithin_lifted os started H enc)

end Go.Proofs.YthefgkgdadkgbaaGreat
