/- TrigTells holds for every interval of any ends: the law answers true, and its argument reads as before. No conditions. -/
import Derived.Test.YtcfgahlaiiibiaaGreatKQTV
import Derived.Test.YtcfgahlaiiibiaaGreatKQOpen
import Derived.ProofKit
import Derived.Carry
namespace Go.Proofs.YtcfgahlaiiibiaaGreat
open Go.ChangeShapes Go.WideShapes Go.ChangeAt Go.RowKit

theorem trig_tells (al ah : Nat) (w : World) (la : al < 18446744073709551616) (ha : ah < 18446744073709551616) :
    Calls Tryz.prog 3 #[.agg #[.float .f64 al, .float .f64 ah]] w fun r w' => r = .returned (.bool true) ∧ Below w.heap.size w w' := by
  cases h : fineB al ah
  · exact trig_law al ah 0 0 0 0 2 w (Lib.hid fun w => sin_bad al ah w la ha h) (Lib.hid fun w => rsin_bad al ah w la ha h) (Lib.hid awake4_any)
  · exact trig_law al ah _ _ _ _ 0 w (Lib.hid fun w => sin_any al ah w la ha h) (Lib.hid fun w => rsin_any al ah w la ha h) (Lib.hid awake4_any)

set_option maxRecDepth 100000 in
theorem trigTells_lifted (os : Os) (started : os.Started) (H : Type) (enc : TypeId × Value → H) :
    ReturnsInHanded {} Tryz.checked os 3 .any (Rows.trigTellsSpec.pre6 enc Tryz.prog Tryz.f3 Rows.trigTellsRow.domain false) (Rows.trigTellsSpec.post enc Tryz.prog Tryz.f3 false true false false) := by
  refine returnsInHanded_of_change (C := Tryz.checked) Tryz.own started (by kernel_rfl) Tryz.func3
    (ChangeSpec.witness6 (enc := enc) (C := Tryz.checked) false ⟨#[], #[.agg #[.float .f64 0, .float .f64 0]], []⟩ 8 (by kernel_rfl) (by kernel_rfl) (by kernel_rfl) (by kernel_rfl)) ?_
  intro W base args ds gs before hval0 hW hcnd _
  have hval : ∀ (j : Nat) t v, Tryz.f3.params[j]? = some t → args[j]? = some v → Value.okWide Tryz.prog W .any base t v := hval0
  have hW' := hW
  obtain ⟨p, q, hA0, hV, rfl, hfz, hnd⟩ := hW
  have hA : DataW.TrodAll enc Tryz.prog W 0 (fun _ => true) true Tryz.f3.params.toList args.toList ds p := hA0
  rw [Tryz.params3] at hA hval
  obtain ⟨v0, d0, rfl, rfl, h0⟩ := trodAll_one hA
  obtain ⟨rfl, rfl⟩ := trodVars_none hV
  obtain ⟨al, ah, rfl, rfl, rfl, wa, wb⟩ := open_iv (hval 0 24 v0 rfl rfl) h0
  clear hA0 hval0
  simp only [List.append_nil] at hW'
  have la : al < 18446744073709551616 := by simpa [Lit.wf] using wa
  have lb : ah < 18446744073709551616 := by simpa [Lit.wf] using wb
  refine (trig_tells al ah W la lb).mono fun e W' ⟨he, hw⟩ => ?_
  subst he
  refine ⟨_, rfl, _, _, _, [], [], [], hW', trodAll_mk1 (shut_bool Tryz.underlying4 _), trodAll_mk1 (shut_iv wa wb), rfl, hw.frame _, fun h => by cases h⟩

theorem trigTells_holds : Rows.TrigTellsSaid :=
  OpenClaim.holds_of_wide 3 Tryz.f3 rfl rfl rfl rfl rfl rfl rfl ⟨rfl, rfl, rfl, rfl, rfl⟩ rfl rfl rfl rfl rfl (by kernel_rfl) Tryz.func3 (by kernel_rfl)
    (of_decide_eq_true (by kernel_rfl)) (by unfold Func.isWrapper; first | (rw [if_pos (by decide +kernel)]; kernel_rfl) | (rw [if_neg (by decide +kernel)]; exact ⟨rfl, rfl⟩))
    (fun os started H enc _ => trigTells_lifted os started H enc)

end Go.Proofs.YtcfgahlaiiibiaaGreat
