
/- FresnelWithin holds for any sixteen numbers of 32 bits: the law answers true, and its arguments read as before. No conditions. -/
import Derived.Test.YtcfgahlaiiibiaaFwC
import Derived.Test.YtcfgahlaiiibiaaOpenU
import Derived.ProofKit
import Derived.Carry
namespace Go.Proofs.Ytcfgahlaiiibiaa
open Go.ChangeShapes Go.WideShapes Go.ChangeAt Go.RowKit

set_option maxRecDepth 100000 in
theorem fresnelWithin_lifted (os : Os) (started : os.Started) (H : Type) (enc : TypeId × Value → H) :
    ReturnsInHanded {} Try.checked os 3 .any (Rows.fresnelWithinSpec.pre6 enc Try.prog Try.f3 Rows.fresnelWithinRow.domain false) (Rows.fresnelWithinSpec.post enc Try.prog Try.f3 false true false false) := by
  refine returnsInHanded_of_change (C := Try.checked) Try.own started (by kernel_rfl) Try.func3
    (ChangeSpec.witness6 (enc := enc) (C := Try.checked) false ⟨#[], #[.agg #[.int .u32 0, .int .u32 0, .int .u32 0, .int .u32 0, .int .u32 0, .int .u32 0, .int .u32 0, .int .u32 0], .agg #[.int .u32 0, .int .u32 0, .int .u32 0, .int .u32 0, .int .u32 0, .int .u32 0, .int .u32 0, .int .u32 0]], []⟩ 8 (by kernel_rfl) (by kernel_rfl) (by kernel_rfl) (by kernel_rfl)) ?_
  intro W base args ds gs before hval0 hW hcnd _
  have hval : ∀ (j : Nat) t v, Try.f3.params[j]? = some t → args[j]? = some v → Value.okWide Try.prog W .any base t v := hval0
  have hW' := hW
  obtain ⟨p, q, hA0, hV, rfl, hfz, hnd⟩ := hW
  have hA : DataW.TrodAll enc Try.prog W 0 (fun _ => true) true Try.f3.params.toList args.toList ds p := hA0
  rw [Try.params3] at hA hval
  obtain ⟨v0, v1, d0, d1, p0, p1, rfl, rfl, rfl, h0, h1⟩ := trodAll_two hA
  obtain ⟨rfl, rfl⟩ := trodVars_none hV
  obtain ⟨y0, y1, y2, y3, y4, y5, y6, y7, rfl, rfl, rfl, z0, z1, z2, z3, z4, z5, z6, z7⟩ := open_u8 (hval 0 23 v0 rfl rfl) h0
  obtain ⟨a0, a1, a2, a3, a4, a5, a6, a7, rfl, rfl, rfl, b0, b1, b2, b3, b4, b5, b6, b7⟩ := open_u8 (hval 1 23 v1 rfl rfl) h1
  clear hA0 hval0
  simp only [List.append_nil] at hW'
  obtain ⟨x0, rfl, c0⟩ := u32_nat z0
  obtain ⟨x1, rfl, c1⟩ := u32_nat z1
  obtain ⟨x2, rfl, c2⟩ := u32_nat z2
  obtain ⟨x3, rfl, c3⟩ := u32_nat z3
  obtain ⟨x4, rfl, c4⟩ := u32_nat z4
  obtain ⟨x5, rfl, c5⟩ := u32_nat z5
  obtain ⟨x6, rfl, c6⟩ := u32_nat z6
  obtain ⟨x7, rfl, c7⟩ := u32_nat z7
  obtain ⟨s0, rfl, e0⟩ := u32_nat b0
  obtain ⟨s1, rfl, e1⟩ := u32_nat b1
  obtain ⟨s2, rfl, e2⟩ := u32_nat b2
  obtain ⟨s3, rfl, e3⟩ := u32_nat b3
  obtain ⟨s4, rfl, e4⟩ := u32_nat b4
  obtain ⟨s5, rfl, e5⟩ := u32_nat b5
  obtain ⟨s6, rfl, e6⟩ := u32_nat b6
  obtain ⟨s7, rfl, e7⟩ := u32_nat b7
  refine (fresnelWithin_any x0 x1 x2 x3 x4 x5 x6 x7 s0 s1 s2 s3 s4 s5 s6 s7 W c0 c1 c2 c3 c4 c5 c6 c7 e0 e1 e2 e3 e4 e5 e6 e7).mono fun e W' ⟨he, hw⟩ => ?_
  subst he
  refine ⟨_, rfl, _, _, _, [], [], [], hW', trodAll_mk1 (shut_bool Try.underlying4 _), trodAll_mk2 (shut_u8 z0 z1 z2 z3 z4 z5 z6 z7) (shut_u8 b0 b1 b2 b3 b4 b5 b6 b7), rfl, hw.frame _, fun h => by cases h⟩

theorem fresnelWithin_holds : Rows.FresnelWithinSaid :=
  OpenClaim.holds_of_wide 3 Try.f3 rfl rfl rfl rfl rfl rfl rfl ⟨rfl, rfl, rfl, rfl, rfl⟩ rfl rfl rfl rfl rfl (by kernel_rfl) Try.func3 (by kernel_rfl)
    (of_decide_eq_true (by kernel_rfl)) (by unfold Func.isWrapper; first | (rw [if_pos (by decide +kernel)]; kernel_rfl) | (rw [if_neg (by decide +kernel)]; exact ⟨rfl, rfl⟩))
    (fun os started H enc _ => fresnelWithin_lifted os started H enc)

end Go.Proofs.Ytcfgahlaiiibiaa
