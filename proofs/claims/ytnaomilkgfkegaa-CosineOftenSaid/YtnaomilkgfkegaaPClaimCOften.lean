/- CosineOften: a part of 1 - t t of all draws has a cosine of t or more, of any two draws and any t. No conditions. -/
import Derived.Test.YtnaomilkgfkegaaPA19
import Derived.Test.YtnaomilkgfkegaaPA18
import Derived.ProofKit
import Derived.Carry
namespace Go.Proofs.Ytnaomilkgfkegaa
open Go.ChangeShapes Go.WideShapes Go.ChangeAt Go.RowKit

set_option maxRecDepth 100000 in
theorem cosineOften_lifted (os : Os) (started : os.Started) (H : Type) (enc : TypeId × Value → H) :
    ReturnsInHanded {} Try.checked os 3 .any (Rows.cosineOftenSpec.pre6 enc Try.prog Try.f3 Rows.cosineOftenRow.domain false) (Rows.cosineOftenSpec.post enc Try.prog Try.f3 false true false false) := by
  refine returnsInHanded_of_change (C := Try.checked) Try.own started (by kernel_rfl) Try.func3
    (ChangeSpec.witness6 (enc := enc) (C := Try.checked) false ⟨#[], #[.int .u64 0, .int .u64 0, .int .u32 0], []⟩ 8 (by kernel_rfl) (by kernel_rfl) (by kernel_rfl) (by kernel_rfl)) ?_
  intro W base args ds gs before hval0 hW hcnd _
  have hval : ∀ (j : Nat) t v, Try.f3.params[j]? = some t → args[j]? = some v → Value.okWide Try.prog W .any base t v := hval0
  have hW' := hW
  obtain ⟨p, q, hA0, hV, rfl, hfz, hnd⟩ := hW
  have hA : DataW.TrodAll enc Try.prog W 0 (fun _ => true) true Try.f3.params.toList args.toList ds p := hA0
  rw [Try.params3] at hA hval
  obtain ⟨v0, v1, v2, d0, d1, d2, p0, p1, p2, rfl, rfl, rfl, h0, h1, h2⟩ := trodAll_three hA
  obtain ⟨rfl, rfl⟩ := trodVars_none hV
  obtain ⟨y0, rfl, rfl, rfl, wf0⟩ := open_int Try.underlying22 (hval 0 22 v0 rfl rfl) h0
  obtain ⟨y1, rfl, rfl, rfl, wf1⟩ := open_int Try.underlying22 (hval 1 22 v1 rfl rfl) h1
  obtain ⟨y2, rfl, rfl, rfl, wf2⟩ := open_int Try.underlying23 (hval 2 23 v2 rfl rfl) h2
  clear hA0 hval0
  simp only [List.append_nil] at hW'
  have b0 : 0 ≤ y0 ∧ y0 < 18446744073709551616 := by
    have := wf0
    simp [Lit.wf] at this
    have e1 : IntKind.u64.min = 0 := by decide
    have e2 : IntKind.u64.max = 18446744073709551615 := by decide
    omega
  obtain ⟨x0, rfl⟩ := Int.eq_ofNat_of_zero_le b0.1
  have l0_ : x0 < 18446744073709551616 := by omega
  have b1 : 0 ≤ y1 ∧ y1 < 18446744073709551616 := by
    have := wf1
    simp [Lit.wf] at this
    have e1 : IntKind.u64.min = 0 := by decide
    have e2 : IntKind.u64.max = 18446744073709551615 := by decide
    omega
  obtain ⟨x1, rfl⟩ := Int.eq_ofNat_of_zero_le b1.1
  have l1_ : x1 < 18446744073709551616 := by omega
  have b2 : 0 ≤ y2 ∧ y2 < 4294967296 := by
    have := wf2
    simp [Lit.wf] at this
    have e1 : IntKind.u32.min = 0 := by decide
    have e2 : IntKind.u32.max = 4294967295 := by decide
    omega
  obtain ⟨x2, rfl⟩ := Int.eq_ofNat_of_zero_le b2.1
  have l2_ : x2 < 4294967296 := by omega
  refine (often12_any x0 x1 x2 W l0_ l1_ l2_).mono fun e W' ⟨he, hw⟩ => ?_
  subst he
  refine ⟨_, rfl, _, _, _, [], [], [], hW', trodAll_mk1 (shut_bool Try.underlying4 _), trodAll_mk3 (shut_int Try.underlying22 wf0) (shut_int Try.underlying22 wf1) (shut_int Try.underlying23 wf2), rfl, hw.frame _, fun h => by cases h⟩

theorem cosineOften_holds : Rows.CosineOftenSaid :=
  OpenClaim.holds_of_wide 3 Try.f3 rfl rfl rfl rfl rfl rfl rfl ⟨rfl, rfl, rfl, rfl, rfl⟩ rfl rfl rfl rfl rfl (by kernel_rfl) Try.func3 (by kernel_rfl)
    (of_decide_eq_true (by kernel_rfl)) (by unfold Func.isWrapper; first | (rw [if_pos (by decide +kernel)]; kernel_rfl) | (rw [if_neg (by decide +kernel)]; exact ⟨rfl, rfl⟩))
    (fun os started H enc _ => cosineOften_lifted os started H enc)

end Go.Proofs.Ytnaomilkgfkegaa
