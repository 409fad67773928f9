/- IvalMeets holds for every two intervals and every float64: the law answers true, and its arguments read as before. No conditions. -/
import Derived.Test.YtecgialgahcabaaMeetsC
import Derived.Test.YtecgialgahcabaaOpen
namespace Go.Proofs.Ytecgialgahcabaa
open Go.ChangeShapes Go.WideShapes Go.ChangeAt Go.RowKit

set_option maxRecDepth 100000 in
theorem ivalMeets_lifted (os : Os) (started : os.Started) (H : Type) (enc : TypeId × Value → H) :
    ReturnsInHanded {} Try.checked os 12 .any (Rows.ivalMeetsSpec.pre6 enc Try.prog Try.f12 Rows.ivalMeetsRow.domain false) (Rows.ivalMeetsSpec.post enc Try.prog Try.f12 false true false false) := by
  refine returnsInHanded_of_change (C := Try.checked) Try.own started (by kernel_rfl) Try.func12
    (ChangeSpec.witness6 (enc := enc) (C := Try.checked) false ⟨#[], #[.agg #[.float .f64 0, .float .f64 0], .agg #[.float .f64 0, .float .f64 0], .float .f64 0], []⟩ 8 (by kernel_rfl) (by kernel_rfl) (by kernel_rfl) (by kernel_rfl)) ?_
  intro W base args ds gs before hval0 hW hcnd _
  have hval : ∀ (j : Nat) t v, Try.f12.params[j]? = some t → args[j]? = some v → Value.okWide Try.prog W .any base t v := hval0
  have hW' := hW
  obtain ⟨p, q, hA0, hV, rfl, hfz, hnd⟩ := hW
  have hA : DataW.TrodAll enc Try.prog W 0 (fun _ => true) true Try.f12.params.toList args.toList ds p := hA0
  rw [Try.params12] at hA hval
  obtain ⟨v0, v1, v2, d0, d1, d2, p0, p1, p2, rfl, rfl, rfl, h0, h1, h2⟩ := trodAll_three hA
  obtain ⟨rfl, rfl⟩ := trodVars_none hV
  obtain ⟨al, ah, rfl, rfl, rfl, wa, wb⟩ := open_iv (hval 0 41 v0 rfl rfl) h0
  obtain ⟨bl, bh, rfl, rfl, rfl, wc, wd⟩ := open_iv (hval 1 41 v1 rfl rfl) h1
  obtain ⟨x, rfl, rfl, rfl, wx⟩ := open_float Try.underlying22 (hval 2 22 v2 rfl rfl) h2
  clear hA0 hval0
  simp only [List.append_nil] at hW'
  have la : al < 18446744073709551616 := by simpa [Lit.wf] using wa
  have ha : ah < 18446744073709551616 := by simpa [Lit.wf] using wb
  have lb : bl < 18446744073709551616 := by simpa [Lit.wf] using wc
  have hb : bh < 18446744073709551616 := by simpa [Lit.wf] using wd
  have lx : x < 18446744073709551616 := by simpa [Lit.wf] using wx
  refine (meets_any al ah bl bh x W la ha lb hb lx).mono fun e W' ⟨he, hw⟩ => ?_
  subst he
  refine ⟨_, rfl, _, _, _, [], [], [], hW', trodAll_mk1 (shut_bool Try.underlying4 _), trodAll_mk3 (shut_iv wa wb) (shut_iv wc wd) (shut_float Try.underlying22 wx), rfl, hw.frame _, fun h => by cases h⟩

theorem ivalMeets_holds : Rows.IvalMeetsSaid :=
  OpenClaim.holds_of_wide 12 Try.f12 rfl rfl rfl rfl rfl rfl rfl ⟨rfl, rfl, rfl, rfl, rfl⟩ rfl rfl rfl rfl rfl (by kernel_rfl) Try.func12 (by kernel_rfl)
    (of_decide_eq_true (by kernel_rfl)) (by unfold Func.isWrapper; first | (rw [if_pos (by decide +kernel)]; kernel_rfl) | (rw [if_neg (by decide +kernel)]; exact ⟨rfl, rfl⟩))
    (fun os started H enc _ => ivalMeets_lifted os started H enc)

end Go.Proofs.Ytecgialgahcabaa
