
/- TrigParts holds for any interval of words and any number of 16 bits: the law answers true, and its arguments read as before. No conditions. -/
import Derived.Test.YtoiaefgpegiieaaQTpm
import Derived.Test.YtoiaefgpegiieaaQOpen
import Derived.ProofKit
import Derived.Carry
namespace Go.Proofs.Ytoiaefgpegiieaa
open Go.ChangeShapes Go.WideShapes Go.ChangeAt Go.RowKit

set_option maxRecDepth 100000 in
theorem trigParts_lifted (os : Os) (started : os.Started) (H : Type) (enc : TypeId × Value → H) :
    ReturnsInHanded {} Try.checked os 3 .any (Rows.trigPartsSpec.pre6 enc Try.prog Try.f3 Rows.trigPartsRow.domain false) (Rows.trigPartsSpec.post enc Try.prog Try.f3 false true false false) := by
  refine returnsInHanded_of_change (C := Try.checked) Try.own started (by kernel_rfl) Try.func3
    (ChangeSpec.witness6 (enc := enc) (C := Try.checked) false ⟨#[], #[.agg #[.float .f64 0, .float .f64 0], .int .u16 0], []⟩ 8 (by kernel_rfl) (by kernel_rfl) (by kernel_rfl) (by kernel_rfl)) ?_
  intro W base args ds gs before hval0 hW hcnd _
  have hval : ∀ (j : Nat) t v, Try.f3.params[j]? = some t → args[j]? = some v → Value.okWide Try.prog W .any base t v := hval0
  have hW' := hW
  obtain ⟨p, q, hA0, hV, rfl, hfz, hnd⟩ := hW
  have hA : DataW.TrodAll enc Try.prog W 0 (fun _ => true) true Try.f3.params.toList args.toList ds p := hA0
  rw [Try.params3] at hA hval
  obtain ⟨v0, v1, d0, d1, p0, p1, rfl, rfl, rfl, h0, h1⟩ := trodAll_two hA
  obtain ⟨rfl, rfl⟩ := trodVars_none hV
  obtain ⟨l0, u0, rfl, rfl, rfl, wl0, wu0⟩ := open_iv (hval 0 24 v0 rfl rfl) h0
  obtain ⟨y1, rfl, rfl, rfl, wf1⟩ := open_int Try.underlying25 (hval 1 25 v1 rfl rfl) h1
  clear hA0 hval0
  simp only [List.append_nil] at hW'
  have b1 : 0 ≤ y1 ∧ y1 < 65536 := by
    have := wf1
    simp [Lit.wf] at this
    have e1 : IntKind.u16.min = 0 := by decide
    have e2 : IntKind.u16.max = 65535 := by decide
    omega
  obtain ⟨x1, rfl⟩ := Int.eq_ofNat_of_zero_le b1.1
  have l1_ : x1 < 65536 := by omega
  have lt : ∀ {x : Nat}, (Lit.float .f64 x).wf = true → x < 18446744073709551616 := fun h => by simpa [Lit.wf] using h
  refine (parts_any l0 u0 x1 W (lt wl0) (lt wu0) l1_).mono fun e W' ⟨he, hw⟩ => ?_
  subst he
  refine ⟨_, rfl, _, _, _, [], [], [], hW', trodAll_mk1 (shut_bool Try.underlying4 _), trodAll_mk2 (shut_iv wl0 wu0) (shut_int Try.underlying25 wf1), rfl, hw.frame _, fun h => by cases h⟩

theorem trigParts_holds : Rows.TrigPartsSaid :=
  OpenClaim.holds_of_wide 3 Try.f3 rfl rfl rfl rfl rfl rfl rfl ⟨rfl, rfl, rfl, rfl, rfl⟩ rfl rfl rfl rfl rfl (by kernel_rfl) Try.func3 (by kernel_rfl)
    (of_decide_eq_true (by kernel_rfl)) (by unfold Func.isWrapper; first | (rw [if_pos (by decide +kernel)]; kernel_rfl) | (rw [if_neg (by decide +kernel)]; exact ⟨rfl, rfl⟩))
    (fun os started H enc _ => trigParts_lifted os started H enc)

end Go.Proofs.Ytoiaefgpegiieaa
