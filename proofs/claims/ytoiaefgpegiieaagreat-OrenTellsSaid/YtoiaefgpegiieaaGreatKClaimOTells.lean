/- OrenTells holds for any ten words of floats and any ten numbers of 32 bits: the law answers true, and its arguments read as before. No conditions. -/
import Derived.Test.YtoiaefgpegiieaaGreatKOtC
import Derived.Test.YtoiaefgpegiieaaGreatKQOpT
import Derived.Test.YtoiaefgpegiieaaGreatKOpenAk
import Derived.ProofKit
import Derived.Carry
namespace Go.Proofs.YtoiaefgpegiieaaGreat
open Go.ChangeShapes Go.WideShapes Go.ChangeAt Go.RowKit

set_option maxRecDepth 100000 in
theorem orenTells_lifted (os : Os) (started : os.Started) (H : Type) (enc : TypeId × Value → H) :
    ReturnsInHanded {} Tryz.checked os 3 .any (Rows.orenTellsSpec.pre6 enc Tryz.prog Tryz.f3 Rows.orenTellsRow.domain false) (Rows.orenTellsSpec.post enc Tryz.prog Tryz.f3 false true false false) := by
  refine returnsInHanded_of_change (C := Tryz.checked) Tryz.own started (by kernel_rfl) Tryz.func3
    (ChangeSpec.witness6 (enc := enc) (C := Tryz.checked) false ⟨#[], #[.agg #[.float .f64 0, .float .f64 0, .float .f64 0, .float .f64 0, .float .f64 0, .float .f64 0, .float .f64 0, .float .f64 0, .float .f64 0, .float .f64 0], .agg #[.int .u32 0, .int .u32 0, .int .u32 0, .int .u32 0, .int .u32 0, .int .u32 0, .int .u32 0, .int .u32 0, .int .u32 0, .int .u32 0]], []⟩ 8 (by kernel_rfl) (by kernel_rfl) (by kernel_rfl) (by kernel_rfl)) ?_
  intro W base args ds gs before hval0 hW hcnd _
  have hval : ∀ (j : Nat) t v, Tryz.f3.params[j]? = some t → args[j]? = some v → Value.okWide Tryz.prog W .any base t v := hval0
  have hW' := hW
  obtain ⟨p, q, hA0, hV, rfl, hfz, hnd⟩ := hW
  have hA : DataW.TrodAll enc Tryz.prog W 0 (fun _ => true) true Tryz.f3.params.toList args.toList ds p := hA0
  rw [Tryz.params3] at hA hval
  obtain ⟨v0, v1, d0, d1, p0, p1, rfl, rfl, rfl, h0, h1⟩ := trodAll_two hA
  obtain ⟨rfl, rfl⟩ := trodVars_none hV
  obtain ⟨rl0, rh0, sl0, sh0, il0, ih0, ol0, oh0, dl0, dh0, rfl, rfl, rfl, wrl0, wrh0, wsl0, wsh0, wil0, wih0, wol0, woh0, wdl0, wdh0⟩ := open_ask (hval 0 26 v0 rfl rfl) h0
  obtain ⟨y1_0, y1_1, y1_2, y1_3, y1_4, y1_5, y1_6, y1_7, y1_8, y1_9, rfl, rfl, rfl, z1_0, z1_1, z1_2, z1_3, z1_4, z1_5, z1_6, z1_7, z1_8, z1_9⟩ := open_u10 (hval 1 28 v1 rfl rfl) h1
  clear hA0 hval0
  simp only [List.append_nil] at hW'
  obtain ⟨x1_0, rfl, c1_0⟩ := u32_nat z1_0
  obtain ⟨x1_1, rfl, c1_1⟩ := u32_nat z1_1
  obtain ⟨x1_2, rfl, c1_2⟩ := u32_nat z1_2
  obtain ⟨x1_3, rfl, c1_3⟩ := u32_nat z1_3
  obtain ⟨x1_4, rfl, c1_4⟩ := u32_nat z1_4
  obtain ⟨x1_5, rfl, c1_5⟩ := u32_nat z1_5
  obtain ⟨x1_6, rfl, c1_6⟩ := u32_nat z1_6
  obtain ⟨x1_7, rfl, c1_7⟩ := u32_nat z1_7
  obtain ⟨x1_8, rfl, c1_8⟩ := u32_nat z1_8
  obtain ⟨x1_9, rfl, c1_9⟩ := u32_nat z1_9
  have lt : ∀ {x : Nat}, (Lit.float .f64 x).wf = true → x < 18446744073709551616 := fun h => by simpa [Lit.wf] using h
  refine (tells8_any rl0 rh0 sl0 sh0 il0 ih0 ol0 oh0 dl0 dh0 x1_0 x1_1 x1_2 x1_3 x1_4 x1_5 x1_6 x1_7 x1_8 x1_9 W (lt wrl0) (lt wrh0) (lt wsl0) (lt wsh0) (lt wil0) (lt wih0) (lt wol0) (lt woh0) (lt wdl0) (lt wdh0) c1_0 c1_1 c1_2 c1_3 c1_4 c1_5 c1_6 c1_7 c1_8 c1_9).mono fun e W' ⟨he, hw⟩ => ?_
  subst he
  refine ⟨_, rfl, _, _, _, [], [], [], hW', trodAll_mk1 (shut_bool Tryz.underlying4 _), trodAll_mk2 (shut_ask wrl0 wrh0 wsl0 wsh0 wil0 wih0 wol0 woh0 wdl0 wdh0) (shut_u10 z1_0 z1_1 z1_2 z1_3 z1_4 z1_5 z1_6 z1_7 z1_8 z1_9), rfl, hw.frame _, fun h => by cases h⟩

theorem orenTells_holds : Rows.OrenTellsSaid :=
  OpenClaim.holds_of_wide 3 Tryz.f3 rfl rfl rfl rfl rfl rfl rfl ⟨rfl, rfl, rfl, rfl, rfl⟩ rfl rfl rfl rfl rfl (by kernel_rfl) Tryz.func3 (by kernel_rfl)
    (of_decide_eq_true (by kernel_rfl)) (by unfold Func.isWrapper; first | (rw [if_pos (by decide +kernel)]; kernel_rfl) | (rw [if_neg (by decide +kernel)]; exact ⟨rfl, rfl⟩))
    (fun os started H enc _ => orenTells_lifted os started H enc)

end Go.Proofs.YtoiaefgpegiieaaGreat
