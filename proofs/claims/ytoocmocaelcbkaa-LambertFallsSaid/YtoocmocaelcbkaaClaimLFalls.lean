
/- LambertFalls holds for any eight numbers of 32 bits: the law answers true, and its arguments read as before. No conditions. -/
import Derived.Test.YtoocmocaelcbkaaLmC
import Derived.Test.YtoocmocaelcbkaaOpenN
import Derived.ProofKit
import Derived.Carry
namespace Go.Proofs.Ytoocmocaelcbkaa
open Go.ChangeShapes Go.WideShapes Go.ChangeAt Go.RowKit

set_option maxRecDepth 100000 in
theorem lambertFalls_lifted (os : Os) (started : os.Started) (H : Type) (enc : TypeId × Value → H) :
    ReturnsInHanded {} Try.checked os 11 .any (Rows.lambertFallsSpec.pre6 enc Try.prog Try.f11 Rows.lambertFallsRow.domain false) (Rows.lambertFallsSpec.post enc Try.prog Try.f11 false true false false) := by
  refine returnsInHanded_of_change (C := Try.checked) Try.own started (by kernel_rfl) Try.func11
    (ChangeSpec.witness6 (enc := enc) (C := Try.checked) false ⟨#[], #[.agg #[.int .u32 0, .int .u32 0, .int .u32 0, .int .u32 0], .agg #[.int .u32 0, .int .u32 0, .int .u32 0, .int .u32 0]], []⟩ 8 (by kernel_rfl) (by kernel_rfl) (by kernel_rfl) (by kernel_rfl)) ?_
  intro W base args ds gs before hval0 hW hcnd _
  have hval : ∀ (j : Nat) t v, Try.f11.params[j]? = some t → args[j]? = some v → Value.okWide Try.prog W .any base t v := hval0
  have hW' := hW
  obtain ⟨p, q, hA0, hV, rfl, hfz, hnd⟩ := hW
  have hA : DataW.TrodAll enc Try.prog W 0 (fun _ => true) true Try.f11.params.toList args.toList ds p := hA0
  rw [Try.params11] at hA hval
  obtain ⟨v0, v1, d0, d1, p0, p1, rfl, rfl, rfl, h0, h1⟩ := trodAll_two hA
  obtain ⟨rfl, rfl⟩ := trodVars_none hV
  obtain ⟨y0_0, y0_1, y0_2, y0_3, rfl, rfl, rfl, z0_0, z0_1, z0_2, z0_3⟩ := open_u4 (hval 0 70 v0 rfl rfl) h0
  obtain ⟨y1_0, y1_1, y1_2, y1_3, rfl, rfl, rfl, z1_0, z1_1, z1_2, z1_3⟩ := open_u4 (hval 1 70 v1 rfl rfl) h1
  clear hA0 hval0
  simp only [List.append_nil] at hW'
  obtain ⟨x0_0, rfl, c0_0⟩ := u32_nat z0_0
  obtain ⟨x0_1, rfl, c0_1⟩ := u32_nat z0_1
  obtain ⟨x0_2, rfl, c0_2⟩ := u32_nat z0_2
  obtain ⟨x0_3, rfl, c0_3⟩ := u32_nat z0_3
  obtain ⟨x1_0, rfl, c1_0⟩ := u32_nat z1_0
  obtain ⟨x1_1, rfl, c1_1⟩ := u32_nat z1_1
  obtain ⟨x1_2, rfl, c1_2⟩ := u32_nat z1_2
  obtain ⟨x1_3, rfl, c1_3⟩ := u32_nat z1_3
  refine (falls_any x0_0 x0_1 x0_2 x0_3 x1_0 x1_1 x1_2 x1_3 W c0_0 c0_1 c0_2 c0_3 c1_0 c1_1 c1_2 c1_3).mono fun e W' ⟨he, hw⟩ => ?_
  subst he
  refine ⟨_, rfl, _, _, _, [], [], [], hW', trodAll_mk1 (shut_bool Try.underlying4 _), trodAll_mk2 (shut_u4 z0_0 z0_1 z0_2 z0_3) (shut_u4 z1_0 z1_1 z1_2 z1_3), rfl, hw.frame _, fun h => by cases h⟩

theorem lambertFalls_holds : Rows.LambertFallsSaid :=
  OpenClaim.holds_of_wide 11 Try.f11 rfl rfl rfl rfl rfl rfl rfl ⟨rfl, rfl, rfl, rfl, rfl⟩ rfl rfl rfl rfl rfl (by kernel_rfl) Try.func11 (by kernel_rfl)
    (of_decide_eq_true (by kernel_rfl)) (by unfold Func.isWrapper; first | (rw [if_pos (by decide +kernel)]; kernel_rfl) | (rw [if_neg (by decide +kernel)]; exact ⟨rfl, rfl⟩))
    (fun os started H enc _ => lambertFalls_lifted os started H enc)

end Go.Proofs.Ytoocmocaelcbkaa
