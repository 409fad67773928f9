
/- LambertTells holds for any four words of floats and any four numbers of 32 bits: the law answers true, and its arguments read as before. No conditions. -/
import Derived.Test.YtoocmocaelcbkaaGreatQLtC
import Derived.ProofKit
import Derived.Carry
namespace Go.Proofs.YtoocmocaelcbkaaGreat
open Go.ChangeShapes Go.WideShapes Go.ChangeAt Go.RowKit

set_option maxRecDepth 100000 in
theorem lambertTells_lifted (os : Os) (started : os.Started) (H : Type) (enc : TypeId × Value → H) :
    ReturnsInHanded {} Tryz.checked os 3 .any (Rows.lambertTellsSpec.pre6 enc Tryz.prog Tryz.f3 Rows.lambertTellsRow.domain false) (Rows.lambertTellsSpec.post enc Tryz.prog Tryz.f3 false true false false) := by
  refine returnsInHanded_of_change (C := Tryz.checked) Tryz.own started (by kernel_rfl) Tryz.func3
    (ChangeSpec.witness6 (enc := enc) (C := Tryz.checked) false ⟨#[], #[.agg #[.float .f64 0, .float .f64 0], .agg #[.float .f64 0, .float .f64 0], .agg #[.int .u32 0, .int .u32 0, .int .u32 0, .int .u32 0]], []⟩ 8 (by kernel_rfl) (by kernel_rfl) (by kernel_rfl) (by kernel_rfl)) ?_
  intro W base args ds gs before hval0 hW hcnd _
  have hval : ∀ (j : Nat) t v, Tryz.f3.params[j]? = some t → args[j]? = some v → Value.okWide Tryz.prog W .any base t v := hval0
  have hW' := hW
  obtain ⟨p, q, hA0, hV, rfl, hfz, hnd⟩ := hW
  have hA : DataW.TrodAll enc Tryz.prog W 0 (fun _ => true) true Tryz.f3.params.toList args.toList ds p := hA0
  rw [Tryz.params3] at hA hval
  obtain ⟨v0, v1, v2, d0, d1, d2, p0, p1, p2, rfl, rfl, rfl, h0, h1, h2⟩ := trodAll_three hA
  obtain ⟨rfl, rfl⟩ := trodVars_none hV
  obtain ⟨l0, u0, rfl, rfl, rfl, wl0, wu0⟩ := open_iv (hval 0 24 v0 rfl rfl) h0
  obtain ⟨l1, u1, rfl, rfl, rfl, wl1, wu1⟩ := open_iv (hval 1 24 v1 rfl rfl) h1
  obtain ⟨y2_0, y2_1, y2_2, y2_3, rfl, rfl, rfl, z2_0, z2_1, z2_2, z2_3⟩ := open_u4 (hval 2 26 v2 rfl rfl) h2
  clear hA0 hval0
  simp only [List.append_nil] at hW'
  obtain ⟨x2_0, rfl, c2_0⟩ := u32_nat z2_0
  obtain ⟨x2_1, rfl, c2_1⟩ := u32_nat z2_1
  obtain ⟨x2_2, rfl, c2_2⟩ := u32_nat z2_2
  obtain ⟨x2_3, rfl, c2_3⟩ := u32_nat z2_3
  have lt : ∀ {x : Nat}, (Lit.float .f64 x).wf = true → x < 18446744073709551616 := fun h => by simpa [Lit.wf] using h
  refine (tells7_any l0 u0 l1 u1 x2_0 x2_1 x2_2 x2_3 W (lt wl0) (lt wu0) (lt wl1) (lt wu1) c2_0 c2_1 c2_2 c2_3).mono fun e W' ⟨he, hw⟩ => ?_
  subst he
  refine ⟨_, rfl, _, _, _, [], [], [], hW', trodAll_mk1 (shut_bool Tryz.underlying4 _), trodAll_mk3 (shut_iv wl0 wu0) (shut_iv wl1 wu1) (shut_u4 z2_0 z2_1 z2_2 z2_3), rfl, hw.frame _, fun h => by cases h⟩

theorem lambertTells_holds : Rows.LambertTellsSaid :=
  OpenClaim.holds_of_wide 3 Tryz.f3 rfl rfl rfl rfl rfl rfl rfl ⟨rfl, rfl, rfl, rfl, rfl⟩ rfl rfl rfl rfl rfl (by kernel_rfl) Tryz.func3 (by kernel_rfl)
    (of_decide_eq_true (by kernel_rfl)) (by unfold Func.isWrapper; first | (rw [if_pos (by decide +kernel)]; kernel_rfl) | (rw [if_neg (by decide +kernel)]; exact ⟨rfl, rfl⟩))
    (fun os started H enc _ => lambertTells_lifted os started H enc)

end Go.Proofs.YtoocmocaelcbkaaGreat
