/- VecTells holds for any triple, any two vectors and any interval, of any floats: the law answers true, and its arguments read as before. No conditions. -/
import Derived.Test.YtcfgahlaiiibiaaGreatKQVB
import Derived.Test.YtcfgahlaiiibiaaGreatOPW
import Derived.ProofKit
import Derived.Carry
namespace Go.Proofs.YtcfgahlaiiibiaaGreat
open Go.ChangeShapes Go.WideShapes Go.ChangeAt Go.RowKit

set_option maxRecDepth 100000 in
theorem vecTells_any (t1 t2 t3 l0 u0 l1 u1 l2 u2 l3 u3 l4 u4 l5 u5 l6 u6 : Nat) (W : World) (ht1 : t1 < 18446744073709551616) (ht2 : t2 < 18446744073709551616) (ht3 : t3 < 18446744073709551616)
    (h0 : l0 < 18446744073709551616) (g0 : u0 < 18446744073709551616) (h1 : l1 < 18446744073709551616) (g1 : u1 < 18446744073709551616) (h2 : l2 < 18446744073709551616) (g2 : u2 < 18446744073709551616) (h3 : l3 < 18446744073709551616) (g3 : u3 < 18446744073709551616) (h4 : l4 < 18446744073709551616) (g4 : u4 < 18446744073709551616) (h5 : l5 < 18446744073709551616) (g5 : u5 < 18446744073709551616) (h6 : l6 < 18446744073709551616) (g6 : u6 < 18446744073709551616) :
    Calls Tryz.prog 4 #[.agg #[.float .f64 t1, .float .f64 t2, .float .f64 t3], .agg #[.float .f64 l0, .float .f64 u0, .float .f64 l1, .float .f64 u1, .float .f64 l2, .float .f64 u2], .agg #[.float .f64 l3, .float .f64 u3, .float .f64 l4, .float .f64 u4, .float .f64 l5, .float .f64 u5], .agg #[.float .f64 l6, .float .f64 u6]] W fun r w' => r = .returned (.bool true) ∧ Below W.heap.size W w' := by
  obtain ⟨x1, x2, x3, x4, x5, x6, er, c1, c2⟩ := units_same t1 t2 t3 ht1 ht2 ht3
  have wa : WdV ⟨⟨0, l0, u0⟩, ⟨0, l1, u1⟩, ⟨0, l2, u2⟩⟩ := ⟨⟨h0, g0⟩, ⟨h1, g1⟩, ⟨h2, g2⟩⟩
  have wb : WdV ⟨⟨0, l3, u3⟩, ⟨0, l4, u4⟩, ⟨0, l5, u5⟩⟩ := ⟨⟨h3, g3⟩, ⟨h4, g4⟩, ⟨h5, g5⟩⟩
  have wk : Wd ⟨0, l6, u6⟩ := ⟨h6, g6⟩
  exact vtells_law t1 t2 t3 l0 u0 l1 u1 l2 u2 l3 u3 l4 u4 l5 u5 l6 u6 x1 x2 x3 x4 x5 x6 er _ _ _ _ _ _ _ _ _ W (Lib.hid c1) (Lib.hid c2)
    (Lib.hid fun i hi e pb v hC => made_any i hi e wa wb wk pb v hC) (Lib.hid fun i hi e pb v hC => told_any i hi e wa wb wk pb v hC)

set_option maxRecDepth 100000 in
theorem vecTells_lifted (os : Os) (started : os.Started) (H : Type) (enc : TypeId × Value → H) :
    ReturnsInHanded {} Tryz.checked os 4 .any (Rows.vecTellsSpec.pre6 enc Tryz.prog Tryz.f4 Rows.vecTellsRow.domain false) (Rows.vecTellsSpec.post enc Tryz.prog Tryz.f4 false true false false) := by
  refine returnsInHanded_of_change (C := Tryz.checked) Tryz.own started (by kernel_rfl) Tryz.func4
    (ChangeSpec.witness6 (enc := enc) (C := Tryz.checked) false ⟨#[], #[.agg #[.float .f64 0, .float .f64 0, .float .f64 0], .agg #[.float .f64 0, .float .f64 0, .float .f64 0, .float .f64 0, .float .f64 0, .float .f64 0], .agg #[.float .f64 0, .float .f64 0, .float .f64 0, .float .f64 0, .float .f64 0, .float .f64 0], .agg #[.float .f64 0, .float .f64 0]], []⟩ 8 (by kernel_rfl) (by kernel_rfl) (by kernel_rfl) (by kernel_rfl)) ?_
  intro W base args ds gs before hval0 hW hcnd _
  have hval : ∀ (j : Nat) t v, Tryz.f4.params[j]? = some t → args[j]? = some v → Value.okWide Tryz.prog W .any base t v := hval0
  have hW' := hW
  obtain ⟨p, q, hA0, hV, rfl, hfz, hnd⟩ := hW
  have hA : DataW.TrodAll enc Tryz.prog W 0 (fun _ => true) true Tryz.f4.params.toList args.toList ds p := hA0
  rw [Tryz.params4] at hA hval
  obtain ⟨v0, v1, v2, v3, d0, d1, d2, d3, p0, p1, p2, p3, rfl, rfl, rfl, h0, h1, h2, h3⟩ := trodAll_four hA
  obtain ⟨rfl, rfl⟩ := trodVars_none hV
  obtain ⟨t1, t2, t3, rfl, rfl, rfl, w14, w15, w16⟩ := open_f3 (hval 0 32 v0 rfl rfl) h0
  obtain ⟨l0, u0, l1, u1, l2, u2, rfl, rfl, rfl, w0, w1, w2, w3, w4, w5⟩ := open_vec (hval 1 34 v1 rfl rfl) h1
  obtain ⟨l3, u3, l4, u4, l5, u5, rfl, rfl, rfl, w6, w7, w8, w9, w10, w11⟩ := open_vec (hval 2 34 v2 rfl rfl) h2
  obtain ⟨l6, u6, rfl, rfl, rfl, w12, w13⟩ := open_iv (hval 3 24 v3 rfl rfl) h3
  clear hA0 hval0
  simp only [List.append_nil] at hW'
  have lt : ∀ {x : Nat}, (Lit.float .f64 x).wf = true → x < 18446744073709551616 := fun h => by simpa [Lit.wf] using h
  refine (vecTells_any t1 t2 t3 l0 u0 l1 u1 l2 u2 l3 u3 l4 u4 l5 u5 l6 u6 W (lt w14) (lt w15) (lt w16) (lt w0) (lt w1) (lt w2) (lt w3) (lt w4) (lt w5) (lt w6) (lt w7) (lt w8) (lt w9) (lt w10) (lt w11) (lt w12) (lt w13)).mono fun e W' ⟨he, hw⟩ => ?_
  subst he
  refine ⟨_, rfl, _, _, _, [], [], [], hW', trodAll_mk1 (shut_bool Tryz.underlying4 _), trodAll_mk4 (shut_f3 w14 w15 w16) (shut_vec w0 w1 w2 w3 w4 w5) (shut_vec w6 w7 w8 w9 w10 w11) (shut_iv w12 w13), rfl, hw.frame _, fun h => by cases h⟩

theorem vecTells_holds : Rows.VecTellsSaid :=
  OpenClaim.holds_of_wide 4 Tryz.f4 rfl rfl rfl rfl rfl rfl rfl ⟨rfl, rfl, rfl, rfl, rfl⟩ rfl rfl rfl rfl rfl (by kernel_rfl) Tryz.func4 (by kernel_rfl)
    (of_decide_eq_true (by kernel_rfl)) (by unfold Func.isWrapper; first | (rw [if_pos (by decide +kernel)]; kernel_rfl) | (rw [if_neg (by decide +kernel)]; exact ⟨rfl, rfl⟩))
    (fun os started H enc _ => vecTells_lifted os started H enc)

end Go.Proofs.YtcfgahlaiiibiaaGreat
