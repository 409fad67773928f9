
/- FresnelWithin, for any sixteen numbers of 32 bits. -/
import Derived.Test.YtcfgahlaiiibiaaFwB
import Derived.Test.YtcfgahlaiiibiaaQFD
namespace Go.Proofs.Ytcfgahlaiiibiaa
open Go.RowKit

theorem low_in {a A : Res} (i : In a A) (fA : Fit A) (w : World) : Calls Try.prog 7 #[.agg #[.float .f64 a.lo, .float .f64 a.hi], .agg #[.float .f64 A.lo, .float .f64 A.hi]] w fun r w' => r = .returned (.bool true) ∧ Below w.heap.size w w' :=
  lowIn_any a.lo a.hi A.lo A.hi w ((order_le A.lo a.lo fA.lo i.fit.lo fA.rlo i.fit.rlo).trans (decide_eq_true i.lo)) ((order_le a.hi A.hi i.fit.hi fA.hi i.fit.rhi fA.rhi).trans (decide_eq_true i.hi))
theorem in_over {a b A : Res} (j : In b a) (i : In a A) : In b A := ⟨j.fit, Int.le_trans i.lo j.lo, Int.le_trans j.hi i.hi⟩
theorem part_any {a A : Res} (i : In a A) (h0 : 0 ≤ val A.lo) (h1 : val A.hi ≤ val 4625196817309499392) (p q : Nat) (hp : p < 4294967296) (hq : q < 4294967296) :
    ∃ b : Res, In b a ∧ ∀ w, Calls Try.prog 5 #[.float .f64 a.lo, .float .f64 a.hi, .int .u32 p, .int .u32 q] w fun r w' => r = .returned (.agg #[.float .f64 b.lo, .float .f64 b.hi]) ∧ Below w.heap.size w w' := by
  obtain ⟨b, j, s⟩ := span_any a.lo a.hi p q i.fit.lo i.fit.hi i.fit.rlo i.fit.rhi (Int.le_trans h0 i.lo) i.fit.le (Int.le_trans i.hi h1) hp hq
  exact ⟨b, ⟨j.fit, j.lo, j.hi⟩, s⟩

theorem fresnelWithin_any (u0 u1 u2 u3 u4 u5 u6 u7 v0 v1 v2 v3 v4 v5 v6 v7 : Nat) (w : World) (g0 : u0 < 4294967296) (g1 : u1 < 4294967296) (g2 : u2 < 4294967296) (g3 : u3 < 4294967296) (g4 : u4 < 4294967296) (g5 : u5 < 4294967296) (g6 : u6 < 4294967296) (g7 : u7 < 4294967296) (h0 : v0 < 4294967296) (h1 : v1 < 4294967296) (h2 : v2 < 4294967296) (h3 : v3 < 4294967296) (h4 : v4 < 4294967296) (h5 : v5 < 4294967296) (h6 : v6 < 4294967296) (h7 : v7 < 4294967296) :
    Calls Try.prog 3 #[.agg #[.int .u32 u0, .int .u32 u1, .int .u32 u2, .int .u32 u3, .int .u32 u4, .int .u32 u5, .int .u32 u6, .int .u32 u7], .agg #[.int .u32 v0, .int .u32 v1, .int .u32 v2, .int .u32 v3, .int .u32 v4, .int .u32 v5, .int .u32 v6, .int .u32 v7]] w fun r w' => r = .returned (.bool true) ∧ Below w.heap.size w w' := by
  obtain ⟨c, ic, sc⟩ := span_any 0 4607182418800017408 u0 u1 (by decide) (by decide) (by decide) (by decide) (by decide +kernel) (by decide +kernel) (by decide +kernel) g0 g1
  have ic : In c bigC := ic
  obtain ⟨n, i_n, sn⟩ := span_any 4607463893776728064 4616189618054758400 u2 u3 (by decide) (by decide) (by decide) (by decide) (by decide +kernel) (by decide +kernel) (by decide +kernel) g2 g3
  have i_n : In n bigN := i_n
  obtain ⟨e, ie, se⟩ := span_any 4589168020290535424 4625196817309499392 u4 u5 (by decide) (by decide) (by decide) (by decide) (by decide +kernel) (by decide +kernel) (by decide +kernel) g4 g5
  have ie : In e bigM := ie
  obtain ⟨k, ik, sk⟩ := span_any 4589168020290535424 4625196817309499392 u6 u7 (by decide) (by decide) (by decide) (by decide) (by decide +kernel) (by decide +kernel) (by decide +kernel) g6 g7
  have ik : In k bigM := ik
  obtain ⟨c', jc, tc⟩ := part_any ic (by decide +kernel) (by decide +kernel) v0 v1 h0 h1
  obtain ⟨n', jn, tn⟩ := part_any i_n (by decide +kernel) (by decide +kernel) v2 v3 h2 h3
  obtain ⟨e', je, te⟩ := part_any ie (by decide +kernel) (by decide +kernel) v4 v5 h4 h5
  obtain ⟨k', jk, tk'⟩ := part_any ik (by decide +kernel) (by decide +kernel) v6 v7 h6 h7
  have D := (Di.parts Di.big ic i_n).fits ic.fit i_n.fit
  have P := Di.parts D jc jn
  have DC := (Co.parts Co.big ic ie ik).fits ic.fit ie.fit ik.fit
  have PC := Co.parts DC jc je jk
  have key : ∀ (zl zh ol oh : Nat) (g h : Int), (∀ w, Calls Try.prog 8 #[.agg #[.float .f64 c.lo, .float .f64 c.hi], .agg #[.float .f64 e.lo, .float .f64 e.hi], .agg #[.float .f64 k.lo, .float .f64 k.hi]] w fun r w' => r = .returned (.tuple #[.agg #[.float .f64 zl, .float .f64 zh], .int .i64 g]) ∧ Below w.heap.size w w') →
      (∀ w, Calls Try.prog 8 #[.agg #[.float .f64 c'.lo, .float .f64 c'.hi], .agg #[.float .f64 e'.lo, .float .f64 e'.hi], .agg #[.float .f64 k'.lo, .float .f64 k'.hi]] w fun r w' => r = .returned (.tuple #[.agg #[.float .f64 ol, .float .f64 oh], .int .i64 h]) ∧ Below w.heap.size w w') →
      ((g != 0) = true ∨ g = 0 ∧ h = 0 ∧ Hid (∀ w, Calls Try.prog 7 #[.agg #[.float .f64 ol, .float .f64 oh], .agg #[.float .f64 zl, .float .f64 zh]] w fun r w' => r = .returned (.bool true) ∧ Below w.heap.size w w')) →
      Calls Try.prog 3 #[.agg #[.int .u32 u0, .int .u32 u1, .int .u32 u2, .int .u32 u3, .int .u32 u4, .int .u32 u5, .int .u32 u6, .int .u32 u7], .agg #[.int .u32 v0, .int .u32 v1, .int .u32 v2, .int .u32 v3, .int .u32 v4, .int .u32 v5, .int .u32 v6, .int .u32 v7]] w fun r w' => r = .returned (.bool true) ∧ Below w.heap.size w w' := fun zl zh ol oh g h d3 d4 gh =>
    within_law u0 u1 u2 u3 u4 u5 u6 u7 v0 v1 v2 v3 v4 v5 v6 v7 c.lo c.hi n.lo n.hi e.lo e.hi k.lo k.hi c'.lo c'.hi n'.lo n'.hi e'.lo e'.hi k'.lo k'.hi (Di.out c n).lo (Di.out c n).hi (Di.out c' n').lo (Di.out c' n').hi zl zh ol oh g h w
      (Lib.hid sc) (Lib.hid sn) (Lib.hid se) (Lib.hid sk)
      (Lib.hid fun q w hA => in0_walk q c.lo c.hi v0 v1 v2 v3 v4 v5 v6 v7 c'.lo c'.hi w hA (Lib.hid tc)) (Lib.hid fun q w hA => in2_walk q n.lo n.hi v0 v1 v2 v3 v4 v5 v6 v7 n'.lo n'.hi w hA (Lib.hid tn)) (Lib.hid fun q w hA => in4_walk q e.lo e.hi v0 v1 v2 v3 v4 v5 v6 v7 e'.lo e'.hi w hA (Lib.hid te)) (Lib.hid fun q w hA => in6_walk q k.lo k.hi v0 v1 v2 v3 v4 v5 v6 v7 k'.lo k'.hi w hA (Lib.hid tk'))
      (Lib.hid fun w => diel_any ic i_n w) (Lib.hid fun w => diel_any (in_over jc ic) (in_over jn i_n) w) (Lib.hid d3) (Lib.hid d4) (Lib.hid fun w => low_in P.out' D.out' w) gh (Lib.hid awake6_any)
  by_cases he : (Co.r33 c e k).e = 0
  · obtain ⟨he', io⟩ := Co.last_in DC PC he
    exact key _ _ _ _ _ _ (fun w => cond_some ic ie ik w he) (fun w => cond_some (in_over jc ic) (in_over je ie) (in_over jk ik) w he') (Or.inr ⟨rfl, rfl, Lib.hid fun w => low_in io (DC.last he).f' w⟩)
  · have hne : ((Co.r33 c e k).e != 0) = true := by simpa using he
    by_cases he' : (Co.r33 c' e' k').e = 0
    · exact key _ _ _ _ _ _ (fun w => cond_none ic ie ik w he) (fun w => cond_some (in_over jc ic) (in_over je ie) (in_over jk ik) w he') (Or.inl hne)
    · exact key _ _ _ _ _ _ (fun w => cond_none ic ie ik w he) (fun w => cond_none (in_over jc ic) (in_over je ie) (in_over jk ik) w he') (Or.inl hne)

end Go.Proofs.Ytcfgahlaiiibiaa
