/- FresnelTells holds for any four intervals, of any floats, and any six numbers of 32 bits: the law answers true, and its arguments read as before. No conditions. -/
import Derived.Test.YtcfgahlaiiibiaaGreatKQFE
import Derived.Test.YtcfgahlaiiibiaaGreatKOpenU
import Derived.ProofKit
import Derived.Carry
namespace Go.Proofs.YtcfgahlaiiibiaaGreat
open Go.ChangeShapes Go.WideShapes Go.ChangeAt Go.RowKit

set_option maxRecDepth 100000 in
theorem fresnelTells_lifted (os : Os) (started : os.Started) (H : Type) (enc : TypeId × Value → H) :
    ReturnsInHanded {} Tryz.checked os 5 .any (Rows.fresnelTellsSpec.pre6 enc Tryz.prog Tryz.f5 Rows.fresnelTellsRow.domain false) (Rows.fresnelTellsSpec.post enc Tryz.prog Tryz.f5 false true false false) := by
  refine returnsInHanded_of_change (C := Tryz.checked) Tryz.own started (by kernel_rfl) Tryz.func5
    (ChangeSpec.witness6 (enc := enc) (C := Tryz.checked) false ⟨#[], #[.agg #[.float .f64 0, .float .f64 0], .agg #[.float .f64 0, .float .f64 0], .agg #[.float .f64 0, .float .f64 0], .agg #[.float .f64 0, .float .f64 0], .agg #[.int .u32 0, .int .u32 0, .int .u32 0, .int .u32 0, .int .u32 0, .int .u32 0]], []⟩ 8 (by kernel_rfl) (by kernel_rfl) (by kernel_rfl) (by kernel_rfl)) ?_
  intro W base args ds gs before hval0 hW hcnd _
  have hval : ∀ (j : Nat) t v, Tryz.f5.params[j]? = some t → args[j]? = some v → Value.okWide Tryz.prog W .any base t v := hval0
  have hW' := hW
  obtain ⟨p, q, hA0, hV, rfl, hfz, hnd⟩ := hW
  have hA : DataW.TrodAll enc Tryz.prog W 0 (fun _ => true) true Tryz.f5.params.toList args.toList ds p := hA0
  rw [Tryz.params5] at hA hval
  obtain ⟨v0, v1, v2, v3, v4, d0, d1, d2, d3, d4, p0, p1, p2, p3, p4, rfl, rfl, rfl, h0, h1, h2, h3, h4⟩ := trodAll_five hA
  obtain ⟨rfl, rfl⟩ := trodVars_none hV
  obtain ⟨l0, u0, rfl, rfl, rfl, w0, w1⟩ := open_iv (hval 0 24 v0 rfl rfl) h0
  obtain ⟨l1, u1, rfl, rfl, rfl, w2, w3⟩ := open_iv (hval 1 24 v1 rfl rfl) h1
  obtain ⟨l2, u2, rfl, rfl, rfl, w4, w5⟩ := open_iv (hval 2 24 v2 rfl rfl) h2
  obtain ⟨l3, u3, rfl, rfl, rfl, w6, w7⟩ := open_iv (hval 3 24 v3 rfl rfl) h3
  obtain ⟨y0, y1, y2, y3, y4, y5, rfl, rfl, rfl, z0, z1, z2, z3, z4, z5⟩ := open_u6 (hval 4 50 v4 rfl rfl) h4
  clear hA0 hval0
  simp only [List.append_nil] at hW'
  obtain ⟨x0, rfl, c0⟩ := u32_nat z0
  obtain ⟨x1, rfl, c1⟩ := u32_nat z1
  obtain ⟨x2, rfl, c2⟩ := u32_nat z2
  obtain ⟨x3, rfl, c3⟩ := u32_nat z3
  obtain ⟨x4, rfl, c4⟩ := u32_nat z4
  obtain ⟨x5, rfl, c5⟩ := u32_nat z5
  have lt : ∀ {x : Nat}, (Lit.float .f64 x).wf = true → x < 18446744073709551616 := fun h => by simpa [Lit.wf] using h
  refine (fresTells_any l0 u0 l1 u1 l2 u2 l3 u3 x0 x1 x2 x3 x4 x5 W (lt w0) (lt w1) (lt w2) (lt w3) (lt w4) (lt w5) (lt w6) (lt w7) c0 c1 c2 c3 c4 c5).mono fun e W' ⟨he, hw⟩ => ?_
  subst he
  refine ⟨_, rfl, _, _, _, [], [], [], hW', trodAll_mk1 (shut_bool Tryz.underlying4 _), trodAll_mk5 (shut_iv w0 w1) (shut_iv w2 w3) (shut_iv w4 w5) (shut_iv w6 w7) (shut_u6 z0 z1 z2 z3 z4 z5), rfl, hw.frame _, fun h => by cases h⟩

theorem fresnelTells_holds : Rows.FresnelTellsSaid :=
  OpenClaim.holds_of_wide 5 Tryz.f5 rfl rfl rfl rfl rfl rfl rfl ⟨rfl, rfl, rfl, rfl, rfl⟩ rfl rfl rfl rfl rfl (by kernel_rfl) Tryz.func5 (by kernel_rfl)
    (of_decide_eq_true (by kernel_rfl)) (by unfold Func.isWrapper; first | (rw [if_pos (by decide +kernel)]; kernel_rfl) | (rw [if_neg (by decide +kernel)]; exact ⟨rfl, rfl⟩))
    (fun os started H enc _ => fresnelTells_lifted os started H enc)

end Go.Proofs.YtcfgahlaiiibiaaGreat
