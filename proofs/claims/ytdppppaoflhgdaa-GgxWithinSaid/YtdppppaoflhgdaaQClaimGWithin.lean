
/- GgxWithin, of any intervals of cosines and alphas that are drawn, and any that lie within them: what is told of intervals has what is told of those within them, where there is no error; and within them there is none, either. No conditions. -/
import Derived.Test.YtdppppaoflhgdaaQOpen
import Derived.OpenShut
import Derived.Deep.Strs
import Derived.Carry
import Derived.Test.YtdppppaoflhgdaaLanS
import Derived.Test.YtdppppaoflhgdaaBtw
import Derived.Deep.RegionHeld3
import Derived.Test.YtdppppaoflhgdaaQGe
import Derived.ProofKit
namespace Go.Proofs.Ytdppppaoflhgdaa
open Go.ChangeShapes Go.WideShapes Go.ChangeAt Go.RowKit Go.Joins Go.Deep

theorem Try.cellsU32 : Try.prog.cellsOf 44 = 1 := by kernel_rfl
theorem u32_nat {y : Int} (wf : (Lit.int .u32 y).wf = true) : ∃ x : Nat, y = (x : Int) ∧ x < 4294967296 := by
  have h := wf
  simp [Lit.wf] at h
  have e1 : IntKind.u32.min = 0 := by decide
  have e2 : IntKind.u32.max = 4294967295 := by decide
  obtain ⟨x, rfl⟩ := Int.eq_ofNat_of_zero_le (by omega : 0 ≤ y)
  exact ⟨x, rfl, by omega⟩

section
variable {H : Type} {enc : TypeId × Value → H} {P : Program} {w : World} {base : Nat} {spare : Nat → Bool} {held : Bool}
theorem trodAll_five {t t' t'' t3 t4 : TypeId} {args : Array Value} {ds : List (DataW H)} {ps : List MemPlace} (h : DataW.TrodAll enc P w base spare held [t, t', t'', t3, t4] args.toList ds ps) :
    ∃ v v' v'' v3 v4 d d' d'' d3 d4 p p' p'' p3 p4, args = #[v, v', v'', v3, v4] ∧ ds = [d, d', d'', d3, d4] ∧ ps = p ++ p' ++ p'' ++ p3 ++ p4 ∧ DataW.Trod enc P w base spare held t v d p ∧ DataW.Trod enc P w base spare held t' v' d' p' ∧ DataW.Trod enc P w base spare held t'' v'' d'' p'' ∧ DataW.Trod enc P w base spare held t3 v3 d3 p3 ∧ DataW.Trod enc P w base spare held t4 v4 d4 p4 := by
  obtain ⟨v, vs, d, ds', p, q, hargs, rfl, rfl, hd, hrest⟩ := trodAll_cons h
  obtain ⟨v', vs', d', ds'', p', q', rfl, rfl, rfl, hd', hrest'⟩ := trodAll_cons hrest
  obtain ⟨v'', vs'', d'', dsss, p'', q'', rfl, rfl, rfl, hd'', hrest''⟩ := trodAll_cons hrest'
  obtain ⟨v3, vs3, d3, ds3, p3, q3, rfl, rfl, rfl, hd3, hrest3⟩ := trodAll_cons hrest''
  obtain ⟨v4, vs4, d4, ds4, p4, q4, rfl, rfl, rfl, hd4, hrest4⟩ := trodAll_cons hrest3
  obtain ⟨rfl, rfl, rfl⟩ := trodAll_nil hrest4
  exact ⟨v, v', v'', v3, v4, d, d', d'', d3, d4, p, p', p'', p3, p4, by cases args; simp_all, rfl, by simp, hd, hd', hd'', hd3, hd4⟩
theorem trodAll_mk5 {t t' t'' t3 t4 : TypeId} {v v' v'' v3 v4 : Value} {d d' d'' d3 d4 : DataW H} {p p' p'' p3 p4 : List MemPlace} (h : DataW.Trod enc P w base spare held t v d p) (h' : DataW.Trod enc P w base spare held t' v' d' p')
    (h'' : DataW.Trod enc P w base spare held t'' v'' d'' p'') (h3 : DataW.Trod enc P w base spare held t3 v3 d3 p3) (h4 : DataW.Trod enc P w base spare held t4 v4 d4 p4) : DataW.TrodAll enc P w base spare held [t, t', t'', t3, t4] [v, v', v'', v3, v4] [d, d', d'', d3, d4] (p ++ (p' ++ (p'' ++ (p3 ++ p4)))) := ⟨p, p' ++ (p'' ++ (p3 ++ p4)), h, trodAll_mk4 h' h'' h3 h4, rfl⟩
end

theorem arr6 {α : Type} {cs : Array α} (h : cs.size = 6) : ∃ c0 c1 c2 c3 c4 c5, cs = #[c0, c1, c2, c3, c4, c5] := by
  obtain ⟨l⟩ := cs
  match l, h with
  | [c0, c1, c2, c3, c4, c5], _ => exact ⟨c0, c1, c2, c3, c4, c5, rfl⟩
theorem Try.cellsN6 : Try.prog.cellsOf 55 = 6 := by kernel_rfl
set_option maxRecDepth 100000 in
theorem open_u6 {H : Type} {enc : TypeId × Value → H} {W : World} {base : Nat} {spare : Nat → Bool} {held : Bool} {r : Reach} {b0 : Nat} {v : Value} {d : DataW H} {p : List MemPlace} (hv : Value.okWide Try.prog W r b0 55 v) (h : DataW.Trod enc Try.prog W base spare held 55 v d p) :
    ∃ x0 x1 x2 x3 x4 x5 : Int, v = .agg #[.int .u32 x0, .int .u32 x1, .int .u32 x2, .int .u32 x3, .int .u32 x4, .int .u32 x5] ∧ d = .agg [.lit (.int .u32 x0), .lit (.int .u32 x1), .lit (.int .u32 x2), .lit (.int .u32 x3), .lit (.int .u32 x4), .lit (.int .u32 x5)] ∧ p = [] ∧ (Lit.int .u32 x0).wf = true ∧ (Lit.int .u32 x1).wf = true ∧ (Lit.int .u32 x2).wf = true ∧ (Lit.int .u32 x3).wf = true ∧ (Lit.int .u32 x4).wf = true ∧ (Lit.int .u32 x5).wf = true := by
  obtain ⟨cs, rfl, hsz, _⟩ : ∃ cs, v = .agg cs ∧ cs.size = Try.prog.cellsOf 55 ∧ Row.okWide Try.prog W r b0 55 cs := by
    simpa [Value.okWide, Try.underlying55] using hv
  obtain ⟨c0, c1, c2, c3, c4, c5, rfl⟩ := arr6 (hsz.trans Try.cellsN6)
  obtain ⟨fuel, hf⟩ := h
  have hf' : DataW.trod enc Try.prog W base spare held fuel 55 [c0, c1, c2, c3, c4, c5] = some (d, p) := hf
  obtain ⟨xs, m, rfl, hx, _, hl, hel⟩ := DataW.trod_array Try.underlying55 hf'
  match xs, hl with
  | [y0, y1, y2, y3, y4, y5], _ =>
    have g0 := hel 0 (by decide)
    have g1 := hel 1 (by decide)
    have g2 := hel 2 (by decide)
    have g3 := hel 3 (by decide)
    have g4 := hel 4 (by decide)
    have g5 := hel 5 (by decide)
    rw [Try.cellsU32] at g0 g1 g2 g3 g4 g5
    obtain ⟨x0, e0, rfl, w0⟩ := DataW.trod_int Try.underlying44 g0
    obtain ⟨x1, e1, rfl, w1⟩ := DataW.trod_int Try.underlying44 g1
    obtain ⟨x2, e2, rfl, w2⟩ := DataW.trod_int Try.underlying44 g2
    obtain ⟨x3, e3, rfl, w3⟩ := DataW.trod_int Try.underlying44 g3
    obtain ⟨x4, e4, rfl, w4⟩ := DataW.trod_int Try.underlying44 g4
    obtain ⟨x5, e5, rfl, w5⟩ := DataW.trod_int Try.underlying44 g5
    simp at e0 e1 e2 e3 e4 e5
    subst e0 e1 e2 e3 e4 e5
    simp only [Prod.mk.injEq] at hx
    exact ⟨x0, x1, x2, x3, x4, x5, rfl, hx.1, hx.2, w0, w1, w2, w3, w4, w5⟩

set_option maxRecDepth 100000 in
theorem shut_u6 {H : Type} {enc : TypeId × Value → H} {W : World} {base : Nat} {spare : Nat → Bool} {held : Bool} {x0 x1 x2 x3 x4 x5 : Int} (w0 : (Lit.int .u32 x0).wf = true) (w1 : (Lit.int .u32 x1).wf = true) (w2 : (Lit.int .u32 x2).wf = true) (w3 : (Lit.int .u32 x3).wf = true) (w4 : (Lit.int .u32 x4).wf = true) (w5 : (Lit.int .u32 x5).wf = true) :
    DataW.Trod enc Try.prog W base spare held 55 (.agg #[.int .u32 x0, .int .u32 x1, .int .u32 x2, .int .u32 x3, .int .u32 x4, .int .u32 x5]) (.agg [.lit (.int .u32 x0), .lit (.int .u32 x1), .lit (.int .u32 x2), .lit (.int .u32 x3), .lit (.int .u32 x4), .lit (.int .u32 x5)]) [] :=
  ⟨2, by simp [DataW.trod, Value.cells, Try.underlying55, Try.underlying44, Try.cellsN6, Try.cellsU32, w0, w1, w2, w3, w4, w5, show List.range 6 = [0, 1, 2, 3, 4, 5] from rfl]⟩

end Go.Proofs.Ytdppppaoflhgdaa

namespace Go.Proofs.Ytdppppaoflhgdaa
open Go.RowKit
attribute [local go_sem] run_store_float

section
variable {P : Program} {ops : Array Oper} {Q : Exit → Act → World → Prop} {md : Region.Mode} {S : World → Prop}
theorem lp_ccc_3 {a0 : Act} {B v : World} {l : List (Nat × Array Value)} (_ : Hid (Own B l v)) {w0 : World} {L0 : Array Bool} (c1 c2 c3 m1 m2 m3 : Nat) (slots : List Nat) (N : Nat) (J : List (Nat × Array Value) → Act → Nat → List (Option Nat) → Act → World → Prop) (hok : latOkP [false, false, false] md ops L0 [c1, c2, c3] [m1, m2, m3] = true)
    (hsl : (slots.all fun s => decide (s < a0.tmps.size)) = true) (h0 : ∀ A : Act, (∀ s, s ∈ slots → s < A.tmps.size) → J l A 0 (List.replicate 3 none) A w0)
    (hS : ∀ k p a w, J l a0 k p a w → S w)
    (k1 : ∀ p a w, J l a0 0 p a w → wpOp P ops Q c1 (fun b v => J l a0 1 p b v) a w)
    (k2 : ∀ p a w, J l a0 1 p a w → wpOp P ops Q c2 (fun b v => J l a0 2 p b v) a w)
    (k3 : ∀ p a w, J l a0 2 p a w → wpOp P ops Q c3 (fun b v => J l a0 3 p b v) a w)
    (n1 : ∀ k p a w, p[0]? = some none → J l a0 k p a w → wpOp P ops Q m1 (fun b v => ∃ q, J l a0 k (p.set 0 (some q)) b v) a w)
    (n2 : ∀ k p a w, p[1]? = some none → J l a0 k p a w → wpOp P ops Q m2 (fun b v => ∃ q, J l a0 k (p.set 1 (some q)) b v) a w)
    (n3 : ∀ k p a w, p[2]? = some none → J l a0 k p a w → wpOp P ops Q m3 (fun b v => ∃ q, J l a0 k (p.set 2 (some q)) b v) a w)
    (fin : ∀ q1 q2 q3 a w, J l a0 3 [some q1, some q2, some q3] a w → wpAnyV P md ops Q S [] N (lstOf L0 [c1, c2, c3] [m1, m2, m3] 3 [true, true, true]) a w) :
    wpAnyV P md ops Q S [] (N + 6) L0 a0 w0 := by
  refine latP_from (pl := [false, false, false]) [c1, c2, c3] [m1, m2, m3] slots N 6 (J l) hok rfl hsl h0 hS (fun k i p a w hk hn hJ => ?_) (fun k i p a w hk hn hJ => ?_) (fun k m i p a w hm hp hJ => ?_) (fun p a w hp hall hJ => ?_)
  · rcases k with _ | _ | _ | k
    · obtain rfl : c1 = i := by simpa using hk
      exact k1 p a w hJ
    · obtain rfl : c2 = i := by simpa using hk
      exact k2 p a w hJ
    · obtain rfl : c3 = i := by simpa using hk
      exact k3 p a w hJ
    · simp at hk
  · rcases k with _ | _ | _ | k
    · exact absurd hn (by decide)
    · exact absurd hn (by decide)
    · exact absurd hn (by decide)
    · simp at hk
  · rcases m with _ | _ | _ | m
    · obtain rfl : m1 = i := by simpa using hm
      exact n1 k p a w hp hJ
    · obtain rfl : m2 = i := by simpa using hm
      exact n2 k p a w hp hJ
    · obtain rfl : m3 = i := by simpa using hm
      exact n3 k p a w hp hJ
    · simp at hm
  · obtain ⟨q1, q2, q3, rfl⟩ := fin_three hp hall
    exact fin q1 q2 q3 a w hJ
end

/-- Region 2. -/
def gwokJ2 (w : World) (il ih ol oh al ah : Nat) (l : RowL) (a0 : Act) (k : Nat) (p : List (Option Nat)) (a : Act) (v : World) : Prop :=
  ∃ y1 y2 y3 z1 z2 z3 : Value, a = ((((((a0.put (some 34) y1).put (some 39) y2).put (some 44) y3).put (some 6) z1).put (some 7) z2).put (some 8) z3) ∧ (0 < k → y1 = .agg #[.float .f64 il, .float .f64 ih]) ∧ (1 < k → y2 = .agg #[.float .f64 ol, .float .f64 oh]) ∧ (2 < k → y3 = .agg #[.float .f64 al, .float .f64 ah]) ∧ (∀ q, p[0]? = some (some q) → z1 = .pointer (some ⟨q, 0, none⟩)) ∧ (∀ q, p[1]? = some (some q) → z2 = .pointer (some ⟨q, 0, none⟩)) ∧ (∀ q, p[2]? = some (some q) → z3 = .pointer (some ⟨q, 0, none⟩)) ∧ OwnF w l [#[.float .f64 0, .float .f64 0], #[.float .f64 0, .float .f64 0], #[.float .f64 0, .float .f64 0]] p v
section
variable {w v : World} {il ih ol oh al ah : Nat} {l : RowL} {a0 a : Act} {p : List (Option Nat)}
theorem gwokJ2_0 (h : gwokJ2 w il ih ol oh al ah l a0 0 p a v) : ∃ y1 y2 y3 z1 z2 z3 : Value, a = ((((((a0.put (some 34) y1).put (some 39) y2).put (some 44) y3).put (some 6) z1).put (some 7) z2).put (some 8) z3) ∧ (∀ q, p[0]? = some (some q) → z1 = .pointer (some ⟨q, 0, none⟩)) ∧ (∀ q, p[1]? = some (some q) → z2 = .pointer (some ⟨q, 0, none⟩)) ∧ (∀ q, p[2]? = some (some q) → z3 = .pointer (some ⟨q, 0, none⟩)) ∧ OwnF w l [#[.float .f64 0, .float .f64 0], #[.float .f64 0, .float .f64 0], #[.float .f64 0, .float .f64 0]] p v := by
  obtain ⟨y1, y2, y3, z1, z2, z3, ha, E1, E2, E3, G1, G2, G3, h⟩ := h
  exact ⟨y1, y2, y3, z1, z2, z3, ha, G1, G2, G3, h⟩
theorem gwokJ2_1 (h : gwokJ2 w il ih ol oh al ah l a0 1 p a v) : ∃ y2 y3 z1 z2 z3 : Value, a = ((((((a0.put (some 34) (.agg #[.float .f64 il, .float .f64 ih])).put (some 39) y2).put (some 44) y3).put (some 6) z1).put (some 7) z2).put (some 8) z3) ∧ (∀ q, p[0]? = some (some q) → z1 = .pointer (some ⟨q, 0, none⟩)) ∧ (∀ q, p[1]? = some (some q) → z2 = .pointer (some ⟨q, 0, none⟩)) ∧ (∀ q, p[2]? = some (some q) → z3 = .pointer (some ⟨q, 0, none⟩)) ∧ OwnF w l [#[.float .f64 0, .float .f64 0], #[.float .f64 0, .float .f64 0], #[.float .f64 0, .float .f64 0]] p v := by
  obtain ⟨y1, y2, y3, z1, z2, z3, ha, E1, E2, E3, G1, G2, G3, h⟩ := h
  obtain rfl := E1 (by decide)
  exact ⟨y2, y3, z1, z2, z3, ha, G1, G2, G3, h⟩
theorem gwokJ2_2 (h : gwokJ2 w il ih ol oh al ah l a0 2 p a v) : ∃ y3 z1 z2 z3 : Value, a = ((((((a0.put (some 34) (.agg #[.float .f64 il, .float .f64 ih])).put (some 39) (.agg #[.float .f64 ol, .float .f64 oh])).put (some 44) y3).put (some 6) z1).put (some 7) z2).put (some 8) z3) ∧ (∀ q, p[0]? = some (some q) → z1 = .pointer (some ⟨q, 0, none⟩)) ∧ (∀ q, p[1]? = some (some q) → z2 = .pointer (some ⟨q, 0, none⟩)) ∧ (∀ q, p[2]? = some (some q) → z3 = .pointer (some ⟨q, 0, none⟩)) ∧ OwnF w l [#[.float .f64 0, .float .f64 0], #[.float .f64 0, .float .f64 0], #[.float .f64 0, .float .f64 0]] p v := by
  obtain ⟨y1, y2, y3, z1, z2, z3, ha, E1, E2, E3, G1, G2, G3, h⟩ := h
  obtain rfl := E1 (by decide)
  obtain rfl := E2 (by decide)
  exact ⟨y3, z1, z2, z3, ha, G1, G2, G3, h⟩
theorem gwokJ2_fin {q1 q2 q3 : Nat} (h : gwokJ2 w il ih ol oh al ah l a0 3 [some q1, some q2, some q3] a v) : a = ((((((a0.put (some 34) (.agg #[.float .f64 il, .float .f64 ih])).put (some 39) (.agg #[.float .f64 ol, .float .f64 oh])).put (some 44) (.agg #[.float .f64 al, .float .f64 ah])).put (some 6) (.pointer (some ⟨q1, 0, none⟩))).put (some 7) (.pointer (some ⟨q2, 0, none⟩))).put (some 8) (.pointer (some ⟨q3, 0, none⟩))) ∧ OwnF w l [#[.float .f64 0, .float .f64 0], #[.float .f64 0, .float .f64 0], #[.float .f64 0, .float .f64 0]] [some q1, some q2, some q3] v := by
  obtain ⟨y1, y2, y3, z1, z2, z3, ha, E1, E2, E3, G1, G2, G3, h⟩ := h
  obtain rfl := E1 (by decide)
  obtain rfl := E2 (by decide)
  obtain rfl := E3 (by decide)
  obtain rfl := G1 _ rfl
  obtain rfl := G2 _ rfl
  obtain rfl := G3 _ rfl
  exact ⟨ha, h⟩
end

/-- Region 3. -/
def gwokJ3 (w : World) (xl xh yl yh zl zh : Nat) (l : RowL) (a0 : Act) (k : Nat) (p : List (Option Nat)) (a : Act) (v : World) : Prop :=
  ∃ y1 y2 y3 z1 z2 z3 : Value, a = ((((((a0.put (some 47) y1).put (some 50) y2).put (some 53) y3).put (some 9) z1).put (some 10) z2).put (some 11) z3) ∧ (0 < k → y1 = .agg #[.float .f64 xl, .float .f64 xh]) ∧ (1 < k → y2 = .agg #[.float .f64 yl, .float .f64 yh]) ∧ (2 < k → y3 = .agg #[.float .f64 zl, .float .f64 zh]) ∧ (∀ q, p[0]? = some (some q) → z1 = .pointer (some ⟨q, 0, none⟩)) ∧ (∀ q, p[1]? = some (some q) → z2 = .pointer (some ⟨q, 0, none⟩)) ∧ (∀ q, p[2]? = some (some q) → z3 = .pointer (some ⟨q, 0, none⟩)) ∧ OwnF w l [#[.float .f64 0, .float .f64 0], #[.float .f64 0, .float .f64 0], #[.float .f64 0, .float .f64 0]] p v
section
variable {w v : World} {xl xh yl yh zl zh : Nat} {l : RowL} {a0 a : Act} {p : List (Option Nat)}
theorem gwokJ3_0 (h : gwokJ3 w xl xh yl yh zl zh l a0 0 p a v) : ∃ y1 y2 y3 z1 z2 z3 : Value, a = ((((((a0.put (some 47) y1).put (some 50) y2).put (some 53) y3).put (some 9) z1).put (some 10) z2).put (some 11) z3) ∧ (∀ q, p[0]? = some (some q) → z1 = .pointer (some ⟨q, 0, none⟩)) ∧ (∀ q, p[1]? = some (some q) → z2 = .pointer (some ⟨q, 0, none⟩)) ∧ (∀ q, p[2]? = some (some q) → z3 = .pointer (some ⟨q, 0, none⟩)) ∧ OwnF w l [#[.float .f64 0, .float .f64 0], #[.float .f64 0, .float .f64 0], #[.float .f64 0, .float .f64 0]] p v := by
  obtain ⟨y1, y2, y3, z1, z2, z3, ha, E1, E2, E3, G1, G2, G3, h⟩ := h
  exact ⟨y1, y2, y3, z1, z2, z3, ha, G1, G2, G3, h⟩
theorem gwokJ3_1 (h : gwokJ3 w xl xh yl yh zl zh l a0 1 p a v) : ∃ y2 y3 z1 z2 z3 : Value, a = ((((((a0.put (some 47) (.agg #[.float .f64 xl, .float .f64 xh])).put (some 50) y2).put (some 53) y3).put (some 9) z1).put (some 10) z2).put (some 11) z3) ∧ (∀ q, p[0]? = some (some q) → z1 = .pointer (some ⟨q, 0, none⟩)) ∧ (∀ q, p[1]? = some (some q) → z2 = .pointer (some ⟨q, 0, none⟩)) ∧ (∀ q, p[2]? = some (some q) → z3 = .pointer (some ⟨q, 0, none⟩)) ∧ OwnF w l [#[.float .f64 0, .float .f64 0], #[.float .f64 0, .float .f64 0], #[.float .f64 0, .float .f64 0]] p v := by
  obtain ⟨y1, y2, y3, z1, z2, z3, ha, E1, E2, E3, G1, G2, G3, h⟩ := h
  obtain rfl := E1 (by decide)
  exact ⟨y2, y3, z1, z2, z3, ha, G1, G2, G3, h⟩
theorem gwokJ3_2 (h : gwokJ3 w xl xh yl yh zl zh l a0 2 p a v) : ∃ y3 z1 z2 z3 : Value, a = ((((((a0.put (some 47) (.agg #[.float .f64 xl, .float .f64 xh])).put (some 50) (.agg #[.float .f64 yl, .float .f64 yh])).put (some 53) y3).put (some 9) z1).put (some 10) z2).put (some 11) z3) ∧ (∀ q, p[0]? = some (some q) → z1 = .pointer (some ⟨q, 0, none⟩)) ∧ (∀ q, p[1]? = some (some q) → z2 = .pointer (some ⟨q, 0, none⟩)) ∧ (∀ q, p[2]? = some (some q) → z3 = .pointer (some ⟨q, 0, none⟩)) ∧ OwnF w l [#[.float .f64 0, .float .f64 0], #[.float .f64 0, .float .f64 0], #[.float .f64 0, .float .f64 0]] p v := by
  obtain ⟨y1, y2, y3, z1, z2, z3, ha, E1, E2, E3, G1, G2, G3, h⟩ := h
  obtain rfl := E1 (by decide)
  obtain rfl := E2 (by decide)
  exact ⟨y3, z1, z2, z3, ha, G1, G2, G3, h⟩
theorem gwokJ3_fin {q1 q2 q3 : Nat} (h : gwokJ3 w xl xh yl yh zl zh l a0 3 [some q1, some q2, some q3] a v) : a = ((((((a0.put (some 47) (.agg #[.float .f64 xl, .float .f64 xh])).put (some 50) (.agg #[.float .f64 yl, .float .f64 yh])).put (some 53) (.agg #[.float .f64 zl, .float .f64 zh])).put (some 9) (.pointer (some ⟨q1, 0, none⟩))).put (some 10) (.pointer (some ⟨q2, 0, none⟩))).put (some 11) (.pointer (some ⟨q3, 0, none⟩))) ∧ OwnF w l [#[.float .f64 0, .float .f64 0], #[.float .f64 0, .float .f64 0], #[.float .f64 0, .float .f64 0]] [some q1, some q2, some q3] v := by
  obtain ⟨y1, y2, y3, z1, z2, z3, ha, E1, E2, E3, G1, G2, G3, h⟩ := h
  obtain rfl := E1 (by decide)
  obtain rfl := E2 (by decide)
  obtain rfl := E3 (by decide)
  obtain rfl := G1 _ rfl
  obtain rfl := G2 _ rfl
  obtain rfl := G3 _ rfl
  exact ⟨ha, h⟩
end

set_option maxRecDepth 100000 in
set_option maxHeartbeats 16000000 in
theorem gwithin_ok {u0 u1 u2 u3 u4 u5 v0 v1 v2 v3 v4 v5 il ih ol oh al ah xl xh yl yh zl zh dl dh gl gh ll lh ml mh nl nh ql qh sl sh tl th : Nat} (w : World)
    (c1 : Hid (∀ w, Calls Try.prog 29 #[.float .f64 0, .float .f64 4607182418800017408, .int .u32 u0, .int .u32 u1] w fun r w' => r = .returned (.agg #[.float .f64 il, .float .f64 ih]) ∧ Below w.heap.size w w'))
    (c2 : Hid (∀ w, Calls Try.prog 29 #[.float .f64 0, .float .f64 4607182418800017408, .int .u32 u2, .int .u32 u3] w fun r w' => r = .returned (.agg #[.float .f64 ol, .float .f64 oh]) ∧ Below w.heap.size w w'))
    (c3 : Hid (∀ w, Calls Try.prog 29 #[.float .f64 4584664420663164928, .float .f64 4607182418800017408, .int .u32 u4, .int .u32 u5] w fun r w' => r = .returned (.agg #[.float .f64 al, .float .f64 ah]) ∧ Below w.heap.size w w'))
    (c4 : Hid (∀ (q : Nat) (v : World), Has1 v (q, #[.int .u32 v0, .int .u32 v1, .int .u32 v2, .int .u32 v3, .int .u32 v4, .int .u32 v5]) → Calls Try.prog 28 #[.agg #[.float .f64 il, .float .f64 ih], .int .i64 0, .pointer (some ⟨q, 0, none⟩)] v fun r w' => r = .returned (.agg #[.float .f64 xl, .float .f64 xh]) ∧ Below v.heap.size v w'))
    (c5 : Hid (∀ (q : Nat) (v : World), Has1 v (q, #[.int .u32 v0, .int .u32 v1, .int .u32 v2, .int .u32 v3, .int .u32 v4, .int .u32 v5]) → Calls Try.prog 28 #[.agg #[.float .f64 ol, .float .f64 oh], .int .i64 2, .pointer (some ⟨q, 0, none⟩)] v fun r w' => r = .returned (.agg #[.float .f64 yl, .float .f64 yh]) ∧ Below v.heap.size v w'))
    (c6 : Hid (∀ (q : Nat) (v : World), Has1 v (q, #[.int .u32 v0, .int .u32 v1, .int .u32 v2, .int .u32 v3, .int .u32 v4, .int .u32 v5]) → Calls Try.prog 28 #[.agg #[.float .f64 al, .float .f64 ah], .int .i64 4, .pointer (some ⟨q, 0, none⟩)] v fun r w' => r = .returned (.agg #[.float .f64 zl, .float .f64 zh]) ∧ Below v.heap.size v w'))
    (c7 : Hid (∀ w, Calls Try.prog 21 #[.agg #[.float .f64 il, .float .f64 ih], .agg #[.float .f64 al, .float .f64 ah]] w fun r w' => r = .returned (.tuple #[.agg #[.float .f64 dl, .float .f64 dh], .int .i64 0]) ∧ Below w.heap.size w w'))
    (c8 : Hid (∀ w, Calls Try.prog 21 #[.agg #[.float .f64 xl, .float .f64 xh], .agg #[.float .f64 zl, .float .f64 zh]] w fun r w' => r = .returned (.tuple #[.agg #[.float .f64 gl, .float .f64 gh], .int .i64 0]) ∧ Below w.heap.size w w'))
    (c9 : Hid (∀ w, Calls Try.prog 32 #[.agg #[.float .f64 il, .float .f64 ih], .agg #[.float .f64 al, .float .f64 ah]] w fun r w' => r = .returned (.tuple #[.agg #[.float .f64 ll, .float .f64 lh], .int .i64 0]) ∧ Below w.heap.size w w'))
    (c10 : Hid (∀ w, Calls Try.prog 32 #[.agg #[.float .f64 xl, .float .f64 xh], .agg #[.float .f64 zl, .float .f64 zh]] w fun r w' => r = .returned (.tuple #[.agg #[.float .f64 ml, .float .f64 mh], .int .i64 0]) ∧ Below w.heap.size w w'))
    (c11 : Hid (∀ w, Calls Try.prog 26 #[.agg #[.float .f64 il, .float .f64 ih], .agg #[.float .f64 ol, .float .f64 oh], .agg #[.float .f64 al, .float .f64 ah]] w fun r w' => r = .returned (.tuple #[.agg #[.float .f64 nl, .float .f64 nh], .int .i64 0]) ∧ Below w.heap.size w w'))
    (c12 : Hid (∀ w, Calls Try.prog 26 #[.agg #[.float .f64 xl, .float .f64 xh], .agg #[.float .f64 yl, .float .f64 yh], .agg #[.float .f64 zl, .float .f64 zh]] w fun r w' => r = .returned (.tuple #[.agg #[.float .f64 ql, .float .f64 qh], .int .i64 0]) ∧ Below w.heap.size w w'))
    (c13 : Hid (∀ w, Calls Try.prog 17 #[.agg #[.float .f64 il, .float .f64 ih], .agg #[.float .f64 al, .float .f64 ah]] w fun r w' => r = .returned (.tuple #[.agg #[.float .f64 sl, .float .f64 sh], .int .i64 0]) ∧ Below w.heap.size w w'))
    (c14 : Hid (∀ w, Calls Try.prog 17 #[.agg #[.float .f64 xl, .float .f64 xh], .agg #[.float .f64 zl, .float .f64 zh]] w fun r w' => r = .returned (.tuple #[.agg #[.float .f64 tl, .float .f64 th], .int .i64 0]) ∧ Below w.heap.size w w'))
    (c15 : Hid (∀ w, Calls Try.prog 30 #[.agg #[.float .f64 dl, .float .f64 dh], .int .i64 0, .agg #[.float .f64 gl, .float .f64 gh], .int .i64 0] w fun r w' => r = .returned (.bool true) ∧ Below w.heap.size w w'))
    (c16 : Hid (∀ w, Calls Try.prog 30 #[.agg #[.float .f64 ll, .float .f64 lh], .int .i64 0, .agg #[.float .f64 ml, .float .f64 mh], .int .i64 0] w fun r w' => r = .returned (.bool true) ∧ Below w.heap.size w w'))
    (c17 : Hid (∀ w, Calls Try.prog 30 #[.agg #[.float .f64 nl, .float .f64 nh], .int .i64 0, .agg #[.float .f64 ql, .float .f64 qh], .int .i64 0] w fun r w' => r = .returned (.bool true) ∧ Below w.heap.size w w'))
    (c18 : Hid (∀ w, Calls Try.prog 30 #[.agg #[.float .f64 sl, .float .f64 sh], .int .i64 0, .agg #[.float .f64 tl, .float .f64 th], .int .i64 0] w fun r w' => r = .returned (.bool true) ∧ Below w.heap.size w w'))
    (c19 : Hid (∀ w, Calls Try.prog 24 #[] w fun r w' => r = .returned (.bool true) ∧ Below w.heap.size w w')) :
    Calls Try.prog 6 #[.agg #[.int .u32 u0, .int .u32 u1, .int .u32 u2, .int .u32 u3, .int .u32 u4, .int .u32 u5], .agg #[.int .u32 v0, .int .u32 v1, .int .u32 v2, .int .u32 v3, .int .u32 v4, .int .u32 v5]] w fun r w' => r = .returned (.bool true) ∧ Below w.heap.size w w' := by
  have M := Lib.hid (((Own.nil w).made #[.int .u32 u0, .int .u32 u1, .int .u32 u2, .int .u32 u3, .int .u32 u4, .int .u32 u5] 55).made #[.int .u32 v0, .int .u32 v1, .int .u32 v2, .int .u32 v3, .int .u32 v4, .int .u32 v5] 55)
  simp only [World.size_alloc] at M
  have eqF := eq_floats
  go_enter Try.func6, Try.ntmps6
  go_upto_region 2 with fail
  replace M := Lib.hid M.out.drew
  refine wp_region_noPanic ?_
  refine tails_region (S := fun w' => (w'.cell? ⟨w.heap.size, 0, none⟩ = some (.int .u32 u0) ∧ w'.cell? ⟨w.heap.size, 1, none⟩ = some (.int .u32 u1) ∧ w'.cell? ⟨w.heap.size, 2, none⟩ = some (.int .u32 u2) ∧ w'.cell? ⟨w.heap.size, 3, none⟩ = some (.int .u32 u3) ∧ w'.cell? ⟨w.heap.size, 4, none⟩ = some (.int .u32 u4) ∧ w'.cell? ⟨w.heap.size, 5, none⟩ = some (.int .u32 u5))) [] (by kernel_rfl) ?_ (fun hS => ?_)
  · exact (M.out.nth 1 rfl).six
  refine tk (x := ?_) 0 rfl (by kernel_rfl) ⟨by kernel_rfl, ?_⟩ (fun _ _ _ h => h) hS ?_
  rotate_left; focus (intro w hSw; (try dsimp only at hSw); go_simp; try with_reducible rfl)
  refine tk (x := ?_) 1 rfl (by kernel_rfl) ⟨by kernel_rfl, ?_⟩ (fun _ _ _ h => h) hS ?_
  rotate_left; focus (intro w hSw; (try dsimp only at hSw); go_simp; try with_reducible rfl)
  refine tk (x := ?_) 2 rfl (by kernel_rfl) ⟨by kernel_rfl, ?_⟩ (fun _ _ _ h => h) hS ?_
  rotate_left; focus (intro w hSw; (try dsimp only at hSw); go_simp; try with_reducible rfl)
  refine tk (x := ?_) 3 rfl (by kernel_rfl) ⟨by kernel_rfl, ?_⟩ (fun _ _ _ h => h) hS ?_
  rotate_left; focus (intro w hSw; (try dsimp only at hSw); go_simp; try with_reducible rfl)
  refine tk (x := ?_) 5 rfl (by kernel_rfl) ⟨by kernel_rfl, ?_⟩ (fun _ _ _ h => h) hS ?_
  rotate_left; focus (intro w hSw; (try dsimp only at hSw); go_simp; try with_reducible rfl)
  refine tk (x := ?_) 6 rfl (by kernel_rfl) ⟨by kernel_rfl, ?_⟩ (fun _ _ _ h => h) hS ?_
  rotate_left; focus (intro w hSw; (try dsimp only at hSw); go_simp; try with_reducible rfl)
  refine tk (x := ?_) 7 rfl (by kernel_rfl) ⟨by kernel_rfl, ?_⟩ (fun _ _ _ h => h) hS ?_
  rotate_left; focus (intro w hSw; (try dsimp only at hSw); go_simp; try with_reducible rfl)
  refine tk (x := ?_) 8 rfl (by kernel_rfl) ⟨by kernel_rfl, ?_⟩ (fun _ _ _ h => h) hS ?_
  rotate_left; focus (intro w hSw; (try dsimp only at hSw); go_simp; try with_reducible rfl)
  refine tk (x := ?_) 10 rfl (by kernel_rfl) ⟨by kernel_rfl, ?_⟩ (fun _ _ _ h => h) hS ?_
  rotate_left; focus (intro w hSw; (try dsimp only at hSw); go_simp; try with_reducible rfl)
  refine tk (x := ?_) 11 rfl (by kernel_rfl) ⟨by kernel_rfl, ?_⟩ (fun _ _ _ h => h) hS ?_
  rotate_left; focus (intro w hSw; (try dsimp only at hSw); go_simp; try with_reducible rfl)
  refine tk (x := ?_) 12 rfl (by kernel_rfl) ⟨by kernel_rfl, ?_⟩ (fun _ _ _ h => h) hS ?_
  rotate_left; focus (intro w hSw; (try dsimp only at hSw); go_simp; try with_reducible rfl)
  refine tk (x := ?_) 13 rfl (by kernel_rfl) ⟨by kernel_rfl, ?_⟩ (fun _ _ _ h => h) hS ?_
  rotate_left; focus (intro w hSw; (try dsimp only at hSw); go_simp; try with_reducible rfl)
  conv => arg 9; simp only [Act.put, go_sem]
  refine lp_ccc_3 M 4 9 14 15 16 17 [34, 39, 44, 6, 7, 8] 3 (gwokJ2 w il ih ol oh al ah) (by kernel_rfl) (by kernel_rfl) ?_ ?_ ?_ ?_ ?_ ?_ ?_ ?_ ?_
  · intro A hA
    obtain ⟨y1, hq1⟩ := put_ex (hA 34 (by simp))
    obtain ⟨y2, hq2⟩ := put_ex (hA 39 (by simp))
    obtain ⟨y3, hq3⟩ := put_ex (hA 44 (by simp))
    obtain ⟨z1, hq4⟩ := put_ex (hA 6 (by simp))
    obtain ⟨z2, hq5⟩ := put_ex (hA 7 (by simp))
    obtain ⟨z3, hq6⟩ := put_ex (hA 8 (by simp))
    exact ⟨y1, y2, y3, z1, z2, z3, by rw [hq1, hq2, hq3, hq4, hq5, hq6], by omega, by omega, by omega, by simp, by simp, by simp, OwnF.start M.out 3⟩
  · rintro k p a v ⟨y1, y2, y3, z1, z2, z3, _, _, _, _, _, _, _, h⟩
    exact (h.own.nth 1 rfl).six
  · intro p a v hJ
    refine op_step (o := _) rfl (fun K hK => ?_)
    obtain ⟨y1, y2, y3, z1, z2, z3, ha, gg1, gg2, gg3, h⟩ := gwokJ2_0 hJ
    have h := Lib.hid h
    clear hJ
    subst ha
    go_simp
    refine (c1.out _).mono ?_
    rintro rr w5 ⟨rfl, hp⟩
    try go_wp2_with fail
    refine hK.out _ _ ⟨_, y2, y3, z1, z2, z3, ?_, fun _ => rfl, by omega, by omega, gg1, gg2, gg3, h.out.below hp⟩
    kernel_rfl
  · intro p a v hJ
    refine op_step (o := _) rfl (fun K hK => ?_)
    obtain ⟨y2, y3, z1, z2, z3, ha, gg1, gg2, gg3, h⟩ := gwokJ2_1 hJ
    have h := Lib.hid h
    clear hJ
    subst ha
    go_simp
    refine (c2.out _).mono ?_
    rintro rr w5 ⟨rfl, hp⟩
    try go_wp2_with fail
    refine hK.out _ _ ⟨_, _, y3, z1, z2, z3, ?_, fun _ => rfl, fun _ => rfl, by omega, gg1, gg2, gg3, h.out.below hp⟩
    kernel_rfl
  · intro p a v hJ
    refine op_step (o := _) rfl (fun K hK => ?_)
    obtain ⟨y3, z1, z2, z3, ha, gg1, gg2, gg3, h⟩ := gwokJ2_2 hJ
    have h := Lib.hid h
    clear hJ
    subst ha
    go_simp
    refine (c3.out _).mono ?_
    rintro rr w5 ⟨rfl, hp⟩
    try go_wp2_with fail
    refine hK.out _ _ ⟨_, _, _, z1, z2, z3, ?_, fun _ => rfl, fun _ => rfl, fun _ => rfl, gg1, gg2, gg3, h.out.below hp⟩
    kernel_rfl
  · intro k p a v hp hJ
    refine op_step (o := _) rfl (fun K hK => ?_)
    obtain ⟨y1, y2, y3, z1, z2, z3, ha, ee1, ee2, ee3, gg1, gg2, gg3, h⟩ := hJ
    have h := Lib.hid h
    subst ha
    go_simp
    refine hK.out _ _ ⟨v.heap.size, y1, y2, y3, .pointer (some ⟨v.heap.size, 0, none⟩), z2, z3, ?_, ee1, ee2, ee3, fun q hq => ptr_set hq, ptr_keep 1 (by decide) gg2, ptr_keep 2 (by decide) gg3, h.out.alloc hp rfl _⟩
    kernel_rfl
  · intro k p a v hp hJ
    refine op_step (o := _) rfl (fun K hK => ?_)
    obtain ⟨y1, y2, y3, z1, z2, z3, ha, ee1, ee2, ee3, gg1, gg2, gg3, h⟩ := hJ
    have h := Lib.hid h
    subst ha
    go_simp
    refine hK.out _ _ ⟨v.heap.size, y1, y2, y3, z1, .pointer (some ⟨v.heap.size, 0, none⟩), z3, ?_, ee1, ee2, ee3, ptr_keep 0 (by decide) gg1, fun q hq => ptr_set hq, ptr_keep 2 (by decide) gg3, h.out.alloc hp rfl _⟩
    kernel_rfl
  · intro k p a v hp hJ
    refine op_step (o := _) rfl (fun K hK => ?_)
    obtain ⟨y1, y2, y3, z1, z2, z3, ha, ee1, ee2, ee3, gg1, gg2, gg3, h⟩ := hJ
    have h := Lib.hid h
    subst ha
    go_simp
    refine hK.out _ _ ⟨v.heap.size, y1, y2, y3, z1, z2, .pointer (some ⟨v.heap.size, 0, none⟩), ?_, ee1, ee2, ee3, ptr_keep 0 (by decide) gg1, ptr_keep 1 (by decide) gg2, fun q hq => ptr_set hq, h.out.alloc hp rfl _⟩
    kernel_rfl
  intro p2_1 p2_2 p2_3 a v hJ
  obtain ⟨rfl, h⟩ := gwokJ2_fin hJ
  clear hJ
  replace M := Lib.hid h.fin3
  clear h
  refine tails_one (T := []) (i := 18) (o := _) rfl (by kernel_rfl) (fun K hK => ?_)
  have kc := (M.out.nth 0 rfl).2.1
  have kf := (M.out.nth 0 rfl).2.2
  replace M : Hid (Own w [(p2_1, #[.float .f64 il, .float .f64 ih]), (p2_2, #[.float .f64 0, .float .f64 0]), (p2_3, #[.float .f64 0, .float .f64 0]), ((w.heap.size + 1), #[.int .u32 v0, .int .u32 v1, .int .u32 v2, .int .u32 v3, .int .u32 v4, .int .u32 v5]), (w.heap.size, #[.int .u32 u0, .int .u32 u1, .int .u32 u2, .int .u32 u3, .int .u32 u4, .int .u32 u5])] _) := Lib.hid (M.out.set2 0 rfl (.float .f64 il) (.float .f64 ih))
  go_simp
  refine hK.out _ _ (Or.inr (M.out.nth 4 rfl).six) (fun hHeld => ?_)
  clear hK K hHeld kc kf
  refine tails_one (T := []) (i := 19) (o := _) rfl (by kernel_rfl) (fun K hK => ?_)
  have kc := (M.out.nth 1 rfl).2.1
  have kf := (M.out.nth 1 rfl).2.2
  replace M : Hid (Own w [(p2_1, #[.float .f64 il, .float .f64 ih]), (p2_2, #[.float .f64 ol, .float .f64 oh]), (p2_3, #[.float .f64 0, .float .f64 0]), ((w.heap.size + 1), #[.int .u32 v0, .int .u32 v1, .int .u32 v2, .int .u32 v3, .int .u32 v4, .int .u32 v5]), (w.heap.size, #[.int .u32 u0, .int .u32 u1, .int .u32 u2, .int .u32 u3, .int .u32 u4, .int .u32 u5])] _) := Lib.hid (M.out.set2 1 rfl (.float .f64 ol) (.float .f64 oh))
  go_simp
  refine hK.out _ _ (Or.inr (M.out.nth 4 rfl).six) (fun hHeld => ?_)
  clear hK K hHeld kc kf
  refine tails_one (T := []) (i := 20) (o := _) rfl (by kernel_rfl) (fun K hK => ?_)
  have kc := (M.out.nth 2 rfl).2.1
  have kf := (M.out.nth 2 rfl).2.2
  replace M : Hid (Own w [(p2_1, #[.float .f64 il, .float .f64 ih]), (p2_2, #[.float .f64 ol, .float .f64 oh]), (p2_3, #[.float .f64 al, .float .f64 ah]), ((w.heap.size + 1), #[.int .u32 v0, .int .u32 v1, .int .u32 v2, .int .u32 v3, .int .u32 v4, .int .u32 v5]), (w.heap.size, #[.int .u32 u0, .int .u32 u1, .int .u32 u2, .int .u32 u3, .int .u32 u4, .int .u32 u5])] _) := Lib.hid (M.out.set2 2 rfl (.float .f64 al) (.float .f64 ah))
  go_simp
  refine hK.out _ _ (Or.inr (M.out.nth 4 rfl).six) (fun hHeld => ?_)
  clear hK K hHeld kc kf
  refine tails_done (by kernel_rfl) ?_ _
  refine NoPanic.normal ?_
  clear hS
  revert M
  generalize ((((((v.setCell ⟨p2_1, 0, none⟩ (.float .f64 il)).setCell ⟨p2_1, 1, none⟩ (.float .f64 ih)).setCell ⟨p2_2, 0, none⟩ (.float .f64 ol)).setCell ⟨p2_2, 1, none⟩ (.float .f64 oh)).setCell ⟨p2_3, 0, none⟩ (.float .f64 al)).setCell ⟨p2_3, 1, none⟩ (.float .f64 ah)) = W1_
  intro M
  go_upto_region 3 with fail
  replace M := Lib.hid M.out.drew
  refine wp_region_noPanic ?_
  refine tails_region (S := fun w' => (w'.cell? ⟨p2_1, 0, none⟩ = some (.float .f64 il) ∧ w'.cell? ⟨p2_1, 1, none⟩ = some (.float .f64 ih)) ∧ (w'.cell? ⟨p2_2, 0, none⟩ = some (.float .f64 ol) ∧ w'.cell? ⟨p2_2, 1, none⟩ = some (.float .f64 oh)) ∧ (w'.cell? ⟨p2_3, 0, none⟩ = some (.float .f64 al) ∧ w'.cell? ⟨p2_3, 1, none⟩ = some (.float .f64 ah))) [] (by kernel_rfl) ?_ (fun hS => ?_)
  · exact ⟨(M.out.nth 0 rfl).two, (M.out.nth 1 rfl).two, (M.out.nth 2 rfl).two⟩
  refine tk (x := ?_) 0 rfl (by kernel_rfl) ⟨by kernel_rfl, ?_⟩ (fun _ _ _ h => h) hS ?_
  rotate_left; focus (intro w hSw; (try dsimp only at hSw); go_simp; try with_reducible rfl)
  refine tk (x := ?_) 1 rfl (by kernel_rfl) ⟨by kernel_rfl, ?_⟩ (fun _ _ _ h => h) hS ?_
  rotate_left; focus (intro w hSw; (try dsimp only at hSw); go_simp; try with_reducible rfl)
  refine tk (x := ?_) 3 rfl (by kernel_rfl) ⟨by kernel_rfl, ?_⟩ (fun _ _ _ h => h) hS ?_
  rotate_left; focus (intro w hSw; (try dsimp only at hSw); go_simp; try with_reducible rfl)
  refine tk (x := ?_) 4 rfl (by kernel_rfl) ⟨by kernel_rfl, ?_⟩ (fun _ _ _ h => h) hS ?_
  rotate_left; focus (intro w hSw; (try dsimp only at hSw); go_simp; try with_reducible rfl)
  refine tk (x := ?_) 6 rfl (by kernel_rfl) ⟨by kernel_rfl, ?_⟩ (fun _ _ _ h => h) hS ?_
  rotate_left; focus (intro w hSw; (try dsimp only at hSw); go_simp; try with_reducible rfl)
  refine tk (x := ?_) 7 rfl (by kernel_rfl) ⟨by kernel_rfl, ?_⟩ (fun _ _ _ h => h) hS ?_
  rotate_left; focus (intro w hSw; (try dsimp only at hSw); go_simp; try with_reducible rfl)
  conv => arg 9; simp only [Act.put, go_sem]
  refine lp_ccc_3 M 2 5 8 9 10 11 [47, 50, 53, 9, 10, 11] 3 (gwokJ3 w xl xh yl yh zl zh) (by kernel_rfl) (by kernel_rfl) ?_ ?_ ?_ ?_ ?_ ?_ ?_ ?_ ?_
  · intro A hA
    obtain ⟨y1, hq1⟩ := put_ex (hA 47 (by simp))
    obtain ⟨y2, hq2⟩ := put_ex (hA 50 (by simp))
    obtain ⟨y3, hq3⟩ := put_ex (hA 53 (by simp))
    obtain ⟨z1, hq4⟩ := put_ex (hA 9 (by simp))
    obtain ⟨z2, hq5⟩ := put_ex (hA 10 (by simp))
    obtain ⟨z3, hq6⟩ := put_ex (hA 11 (by simp))
    exact ⟨y1, y2, y3, z1, z2, z3, by rw [hq1, hq2, hq3, hq4, hq5, hq6], by omega, by omega, by omega, by simp, by simp, by simp, OwnF.start M.out 3⟩
  · rintro k p a v ⟨y1, y2, y3, z1, z2, z3, _, _, _, _, _, _, _, h⟩
    exact ⟨(h.own.nth 0 rfl).two, (h.own.nth 1 rfl).two, (h.own.nth 2 rfl).two⟩
  · intro p a v hJ
    refine op_step (o := _) rfl (fun K hK => ?_)
    obtain ⟨y1, y2, y3, z1, z2, z3, ha, gg1, gg2, gg3, h⟩ := gwokJ3_0 hJ
    have h := Lib.hid h
    clear hJ
    subst ha
    go_simp
    refine (c4.out _ _ (h.out.own.nth 3 rfl)).mono ?_
    rintro rr w5 ⟨rfl, hp⟩
    try go_wp2_with fail
    refine hK.out _ _ ⟨_, y2, y3, z1, z2, z3, ?_, fun _ => rfl, by omega, by omega, gg1, gg2, gg3, h.out.below hp⟩
    kernel_rfl
  · intro p a v hJ
    refine op_step (o := _) rfl (fun K hK => ?_)
    obtain ⟨y2, y3, z1, z2, z3, ha, gg1, gg2, gg3, h⟩ := gwokJ3_1 hJ
    have h := Lib.hid h
    clear hJ
    subst ha
    go_simp
    refine (c5.out _ _ (h.out.own.nth 3 rfl)).mono ?_
    rintro rr w5 ⟨rfl, hp⟩
    try go_wp2_with fail
    refine hK.out _ _ ⟨_, _, y3, z1, z2, z3, ?_, fun _ => rfl, fun _ => rfl, by omega, gg1, gg2, gg3, h.out.below hp⟩
    kernel_rfl
  · intro p a v hJ
    refine op_step (o := _) rfl (fun K hK => ?_)
    obtain ⟨y3, z1, z2, z3, ha, gg1, gg2, gg3, h⟩ := gwokJ3_2 hJ
    have h := Lib.hid h
    clear hJ
    subst ha
    go_simp
    refine (c6.out _ _ (h.out.own.nth 3 rfl)).mono ?_
    rintro rr w5 ⟨rfl, hp⟩
    try go_wp2_with fail
    refine hK.out _ _ ⟨_, _, _, z1, z2, z3, ?_, fun _ => rfl, fun _ => rfl, fun _ => rfl, gg1, gg2, gg3, h.out.below hp⟩
    kernel_rfl
  · intro k p a v hp hJ
    refine op_step (o := _) rfl (fun K hK => ?_)
    obtain ⟨y1, y2, y3, z1, z2, z3, ha, ee1, ee2, ee3, gg1, gg2, gg3, h⟩ := hJ
    have h := Lib.hid h
    subst ha
    go_simp
    refine hK.out _ _ ⟨v.heap.size, y1, y2, y3, .pointer (some ⟨v.heap.size, 0, none⟩), z2, z3, ?_, ee1, ee2, ee3, fun q hq => ptr_set hq, ptr_keep 1 (by decide) gg2, ptr_keep 2 (by decide) gg3, h.out.alloc hp rfl _⟩
    kernel_rfl
  · intro k p a v hp hJ
    refine op_step (o := _) rfl (fun K hK => ?_)
    obtain ⟨y1, y2, y3, z1, z2, z3, ha, ee1, ee2, ee3, gg1, gg2, gg3, h⟩ := hJ
    have h := Lib.hid h
    subst ha
    go_simp
    refine hK.out _ _ ⟨v.heap.size, y1, y2, y3, z1, .pointer (some ⟨v.heap.size, 0, none⟩), z3, ?_, ee1, ee2, ee3, ptr_keep 0 (by decide) gg1, fun q hq => ptr_set hq, ptr_keep 2 (by decide) gg3, h.out.alloc hp rfl _⟩
    kernel_rfl
  · intro k p a v hp hJ
    refine op_step (o := _) rfl (fun K hK => ?_)
    obtain ⟨y1, y2, y3, z1, z2, z3, ha, ee1, ee2, ee3, gg1, gg2, gg3, h⟩ := hJ
    have h := Lib.hid h
    subst ha
    go_simp
    refine hK.out _ _ ⟨v.heap.size, y1, y2, y3, z1, z2, .pointer (some ⟨v.heap.size, 0, none⟩), ?_, ee1, ee2, ee3, ptr_keep 0 (by decide) gg1, ptr_keep 1 (by decide) gg2, fun q hq => ptr_set hq, h.out.alloc hp rfl _⟩
    kernel_rfl
  intro p3_1 p3_2 p3_3 a v hJ
  obtain ⟨rfl, h⟩ := gwokJ3_fin hJ
  clear hJ
  replace M := Lib.hid h.fin3
  clear h
  refine tails_one (T := []) (i := 12) (o := _) rfl (by kernel_rfl) (fun K hK => ?_)
  have kc := (M.out.nth 0 rfl).2.1
  have kf := (M.out.nth 0 rfl).2.2
  replace M : Hid (Own w [(p3_1, #[.float .f64 xl, .float .f64 xh]), (p3_2, #[.float .f64 0, .float .f64 0]), (p3_3, #[.float .f64 0, .float .f64 0]), (p2_1, #[.float .f64 il, .float .f64 ih]), (p2_2, #[.float .f64 ol, .float .f64 oh]), (p2_3, #[.float .f64 al, .float .f64 ah]), ((w.heap.size + 1), #[.int .u32 v0, .int .u32 v1, .int .u32 v2, .int .u32 v3, .int .u32 v4, .int .u32 v5]), (w.heap.size, #[.int .u32 u0, .int .u32 u1, .int .u32 u2, .int .u32 u3, .int .u32 u4, .int .u32 u5])] _) := Lib.hid (M.out.set2 0 rfl (.float .f64 xl) (.float .f64 xh))
  go_simp
  refine hK.out _ _ (Or.inr ⟨(M.out.nth 3 rfl).two, (M.out.nth 4 rfl).two, (M.out.nth 5 rfl).two⟩) (fun hHeld => ?_)
  clear hK K hHeld kc kf
  refine tails_one (T := []) (i := 13) (o := _) rfl (by kernel_rfl) (fun K hK => ?_)
  have kc := (M.out.nth 1 rfl).2.1
  have kf := (M.out.nth 1 rfl).2.2
  replace M : Hid (Own w [(p3_1, #[.float .f64 xl, .float .f64 xh]), (p3_2, #[.float .f64 yl, .float .f64 yh]), (p3_3, #[.float .f64 0, .float .f64 0]), (p2_1, #[.float .f64 il, .float .f64 ih]), (p2_2, #[.float .f64 ol, .float .f64 oh]), (p2_3, #[.float .f64 al, .float .f64 ah]), ((w.heap.size + 1), #[.int .u32 v0, .int .u32 v1, .int .u32 v2, .int .u32 v3, .int .u32 v4, .int .u32 v5]), (w.heap.size, #[.int .u32 u0, .int .u32 u1, .int .u32 u2, .int .u32 u3, .int .u32 u4, .int .u32 u5])] _) := Lib.hid (M.out.set2 1 rfl (.float .f64 yl) (.float .f64 yh))
  go_simp
  refine hK.out _ _ (Or.inr ⟨(M.out.nth 3 rfl).two, (M.out.nth 4 rfl).two, (M.out.nth 5 rfl).two⟩) (fun hHeld => ?_)
  clear hK K hHeld kc kf
  refine tails_one (T := []) (i := 14) (o := _) rfl (by kernel_rfl) (fun K hK => ?_)
  have kc := (M.out.nth 2 rfl).2.1
  have kf := (M.out.nth 2 rfl).2.2
  replace M : Hid (Own w [(p3_1, #[.float .f64 xl, .float .f64 xh]), (p3_2, #[.float .f64 yl, .float .f64 yh]), (p3_3, #[.float .f64 zl, .float .f64 zh]), (p2_1, #[.float .f64 il, .float .f64 ih]), (p2_2, #[.float .f64 ol, .float .f64 oh]), (p2_3, #[.float .f64 al, .float .f64 ah]), ((w.heap.size + 1), #[.int .u32 v0, .int .u32 v1, .int .u32 v2, .int .u32 v3, .int .u32 v4, .int .u32 v5]), (w.heap.size, #[.int .u32 u0, .int .u32 u1, .int .u32 u2, .int .u32 u3, .int .u32 u4, .int .u32 u5])] _) := Lib.hid (M.out.set2 2 rfl (.float .f64 zl) (.float .f64 zh))
  go_simp
  refine hK.out _ _ (Or.inr ⟨(M.out.nth 3 rfl).two, (M.out.nth 4 rfl).two, (M.out.nth 5 rfl).two⟩) (fun hHeld => ?_)
  clear hK K hHeld kc kf
  refine tails_done (by kernel_rfl) ?_ _
  refine NoPanic.normal ?_
  clear hS
  revert M
  generalize ((((((v.setCell ⟨p3_1, 0, none⟩ (.float .f64 xl)).setCell ⟨p3_1, 1, none⟩ (.float .f64 xh)).setCell ⟨p3_2, 0, none⟩ (.float .f64 yl)).setCell ⟨p3_2, 1, none⟩ (.float .f64 yh)).setCell ⟨p3_3, 0, none⟩ (.float .f64 zl)).setCell ⟨p3_3, 1, none⟩ (.float .f64 zh)) = W2_
  intro M
  obtain ⟨k1, k2⟩ := (M.out.nth 3 rfl).two
  obtain ⟨k3, k4⟩ := (M.out.nth 5 rfl).two
  go_wp2_with fail
  refine (c7.out _).mono ?_
  rintro r w3_ ⟨rfl, hb⟩
  replace M := Lib.hid (M.out.below hb)
  clear hb
  clear k1 k2 k3 k4
  replace M := Lib.hid (M.out.made #[.float .f64 dl, .float .f64 dh] 27)
  obtain ⟨k1, k2⟩ := (M.out.nth 1 rfl).two
  obtain ⟨k3, k4⟩ := (M.out.nth 3 rfl).two
  go_wp2_with fail
  refine (c8.out _).mono ?_
  rintro r w4_ ⟨rfl, hb⟩
  replace M := Lib.hid (M.out.below hb)
  clear hb
  clear k1 k2 k3 k4
  replace M := Lib.hid (M.out.made #[.float .f64 gl, .float .f64 gh] 27)
  obtain ⟨k1, k2⟩ := (M.out.nth 5 rfl).two
  obtain ⟨k3, k4⟩ := (M.out.nth 7 rfl).two
  go_wp2_with fail
  refine (c9.out _).mono ?_
  rintro r w5_ ⟨rfl, hb⟩
  replace M := Lib.hid (M.out.below hb)
  clear hb
  clear k1 k2 k3 k4
  replace M := Lib.hid (M.out.made #[.float .f64 ll, .float .f64 lh] 27)
  obtain ⟨k1, k2⟩ := (M.out.nth 3 rfl).two
  obtain ⟨k3, k4⟩ := (M.out.nth 5 rfl).two
  go_wp2_with fail
  refine (c10.out _).mono ?_
  rintro r w6_ ⟨rfl, hb⟩
  replace M := Lib.hid (M.out.below hb)
  clear hb
  clear k1 k2 k3 k4
  replace M := Lib.hid (M.out.made #[.float .f64 ml, .float .f64 mh] 27)
  obtain ⟨k1, k2⟩ := (M.out.nth 7 rfl).two
  obtain ⟨k3, k4⟩ := (M.out.nth 8 rfl).two
  obtain ⟨k5, k6⟩ := (M.out.nth 9 rfl).two
  go_wp2_with fail
  refine (c11.out _).mono ?_
  rintro r w7_ ⟨rfl, hb⟩
  replace M := Lib.hid (M.out.below hb)
  clear hb
  clear k1 k2 k3 k4 k5 k6
  replace M := Lib.hid (M.out.made #[.float .f64 nl, .float .f64 nh] 27)
  obtain ⟨k1, k2⟩ := (M.out.nth 5 rfl).two
  obtain ⟨k3, k4⟩ := (M.out.nth 6 rfl).two
  obtain ⟨k5, k6⟩ := (M.out.nth 7 rfl).two
  go_wp2_with fail
  refine (c12.out _).mono ?_
  rintro r w8_ ⟨rfl, hb⟩
  replace M := Lib.hid (M.out.below hb)
  clear hb
  clear k1 k2 k3 k4 k5 k6
  replace M := Lib.hid (M.out.made #[.float .f64 ql, .float .f64 qh] 27)
  obtain ⟨k1, k2⟩ := (M.out.nth 9 rfl).two
  obtain ⟨k3, k4⟩ := (M.out.nth 11 rfl).two
  go_wp2_with fail
  refine (c13.out _).mono ?_
  rintro r w9_ ⟨rfl, hb⟩
  replace M := Lib.hid (M.out.below hb)
  clear hb
  clear k1 k2 k3 k4
  replace M := Lib.hid (M.out.made #[.float .f64 sl, .float .f64 sh] 27)
  obtain ⟨k1, k2⟩ := (M.out.nth 7 rfl).two
  obtain ⟨k3, k4⟩ := (M.out.nth 9 rfl).two
  go_wp2_with fail
  refine (c14.out _).mono ?_
  rintro r w10_ ⟨rfl, hb⟩
  replace M := Lib.hid (M.out.below hb)
  clear hb
  clear k1 k2 k3 k4
  replace M := Lib.hid (M.out.made #[.float .f64 tl, .float .f64 th] 27)
  obtain ⟨k1, k2⟩ := (M.out.nth 7 rfl).two
  obtain ⟨k3, k4⟩ := (M.out.nth 6 rfl).two
  go_wp2_with fail
  refine (c15.out _).mono ?_
  rintro r w11_ ⟨rfl, hb⟩
  replace M := Lib.hid (M.out.below hb)
  clear hb
  clear k1 k2 k3 k4
  obtain ⟨k1, k2⟩ := (M.out.nth 5 rfl).two
  obtain ⟨k3, k4⟩ := (M.out.nth 4 rfl).two
  go_wp2_with fail
  refine (c16.out _).mono ?_
  rintro r w12_ ⟨rfl, hb⟩
  replace M := Lib.hid (M.out.below hb)
  clear hb
  clear k1 k2 k3 k4
  obtain ⟨k1, k2⟩ := (M.out.nth 3 rfl).two
  obtain ⟨k3, k4⟩ := (M.out.nth 2 rfl).two
  go_wp2_with fail
  refine (c17.out _).mono ?_
  rintro r w13_ ⟨rfl, hb⟩
  replace M := Lib.hid (M.out.below hb)
  clear hb
  clear k1 k2 k3 k4
  obtain ⟨k1, k2⟩ := (M.out.nth 1 rfl).two
  obtain ⟨k3, k4⟩ := (M.out.nth 0 rfl).two
  go_wp2_with fail
  refine (c18.out _).mono ?_
  rintro r w14_ ⟨rfl, hb⟩
  replace M := Lib.hid (M.out.below hb)
  clear hb
  clear k1 k2 k3 k4
  go_wp2_with fail
  refine (c19.out _).mono ?_
  rintro r w15_ ⟨rfl, hb⟩
  replace M := Lib.hid (M.out.below hb)
  clear hb
  go_wp2
  go_ret
  exact ⟨rfl, M.out.base⟩

/-- Region 2. -/
def gwtwoJ2 (w : World) (il ih ol oh al ah : Nat) (l : RowL) (a0 : Act) (k : Nat) (p : List (Option Nat)) (a : Act) (v : World) : Prop :=
  ∃ y1 y2 y3 z1 z2 z3 : Value, a = ((((((a0.put (some 34) y1).put (some 39) y2).put (some 44) y3).put (some 6) z1).put (some 7) z2).put (some 8) z3) ∧ (0 < k → y1 = .agg #[.float .f64 il, .float .f64 ih]) ∧ (1 < k → y2 = .agg #[.float .f64 ol, .float .f64 oh]) ∧ (2 < k → y3 = .agg #[.float .f64 al, .float .f64 ah]) ∧ (∀ q, p[0]? = some (some q) → z1 = .pointer (some ⟨q, 0, none⟩)) ∧ (∀ q, p[1]? = some (some q) → z2 = .pointer (some ⟨q, 0, none⟩)) ∧ (∀ q, p[2]? = some (some q) → z3 = .pointer (some ⟨q, 0, none⟩)) ∧ OwnF w l [#[.float .f64 0, .float .f64 0], #[.float .f64 0, .float .f64 0], #[.float .f64 0, .float .f64 0]] p v
section
variable {w v : World} {il ih ol oh al ah : Nat} {l : RowL} {a0 a : Act} {p : List (Option Nat)}
theorem gwtwoJ2_0 (h : gwtwoJ2 w il ih ol oh al ah l a0 0 p a v) : ∃ y1 y2 y3 z1 z2 z3 : Value, a = ((((((a0.put (some 34) y1).put (some 39) y2).put (some 44) y3).put (some 6) z1).put (some 7) z2).put (some 8) z3) ∧ (∀ q, p[0]? = some (some q) → z1 = .pointer (some ⟨q, 0, none⟩)) ∧ (∀ q, p[1]? = some (some q) → z2 = .pointer (some ⟨q, 0, none⟩)) ∧ (∀ q, p[2]? = some (some q) → z3 = .pointer (some ⟨q, 0, none⟩)) ∧ OwnF w l [#[.float .f64 0, .float .f64 0], #[.float .f64 0, .float .f64 0], #[.float .f64 0, .float .f64 0]] p v := by
  obtain ⟨y1, y2, y3, z1, z2, z3, ha, E1, E2, E3, G1, G2, G3, h⟩ := h
  exact ⟨y1, y2, y3, z1, z2, z3, ha, G1, G2, G3, h⟩
theorem gwtwoJ2_1 (h : gwtwoJ2 w il ih ol oh al ah l a0 1 p a v) : ∃ y2 y3 z1 z2 z3 : Value, a = ((((((a0.put (some 34) (.agg #[.float .f64 il, .float .f64 ih])).put (some 39) y2).put (some 44) y3).put (some 6) z1).put (some 7) z2).put (some 8) z3) ∧ (∀ q, p[0]? = some (some q) → z1 = .pointer (some ⟨q, 0, none⟩)) ∧ (∀ q, p[1]? = some (some q) → z2 = .pointer (some ⟨q, 0, none⟩)) ∧ (∀ q, p[2]? = some (some q) → z3 = .pointer (some ⟨q, 0, none⟩)) ∧ OwnF w l [#[.float .f64 0, .float .f64 0], #[.float .f64 0, .float .f64 0], #[.float .f64 0, .float .f64 0]] p v := by
  obtain ⟨y1, y2, y3, z1, z2, z3, ha, E1, E2, E3, G1, G2, G3, h⟩ := h
  obtain rfl := E1 (by decide)
  exact ⟨y2, y3, z1, z2, z3, ha, G1, G2, G3, h⟩
theorem gwtwoJ2_2 (h : gwtwoJ2 w il ih ol oh al ah l a0 2 p a v) : ∃ y3 z1 z2 z3 : Value, a = ((((((a0.put (some 34) (.agg #[.float .f64 il, .float .f64 ih])).put (some 39) (.agg #[.float .f64 ol, .float .f64 oh])).put (some 44) y3).put (some 6) z1).put (some 7) z2).put (some 8) z3) ∧ (∀ q, p[0]? = some (some q) → z1 = .pointer (some ⟨q, 0, none⟩)) ∧ (∀ q, p[1]? = some (some q) → z2 = .pointer (some ⟨q, 0, none⟩)) ∧ (∀ q, p[2]? = some (some q) → z3 = .pointer (some ⟨q, 0, none⟩)) ∧ OwnF w l [#[.float .f64 0, .float .f64 0], #[.float .f64 0, .float .f64 0], #[.float .f64 0, .float .f64 0]] p v := by
  obtain ⟨y1, y2, y3, z1, z2, z3, ha, E1, E2, E3, G1, G2, G3, h⟩ := h
  obtain rfl := E1 (by decide)
  obtain rfl := E2 (by decide)
  exact ⟨y3, z1, z2, z3, ha, G1, G2, G3, h⟩
theorem gwtwoJ2_fin {q1 q2 q3 : Nat} (h : gwtwoJ2 w il ih ol oh al ah l a0 3 [some q1, some q2, some q3] a v) : a = ((((((a0.put (some 34) (.agg #[.float .f64 il, .float .f64 ih])).put (some 39) (.agg #[.float .f64 ol, .float .f64 oh])).put (some 44) (.agg #[.float .f64 al, .float .f64 ah])).put (some 6) (.pointer (some ⟨q1, 0, none⟩))).put (some 7) (.pointer (some ⟨q2, 0, none⟩))).put (some 8) (.pointer (some ⟨q3, 0, none⟩))) ∧ OwnF w l [#[.float .f64 0, .float .f64 0], #[.float .f64 0, .float .f64 0], #[.float .f64 0, .float .f64 0]] [some q1, some q2, some q3] v := by
  obtain ⟨y1, y2, y3, z1, z2, z3, ha, E1, E2, E3, G1, G2, G3, h⟩ := h
  obtain rfl := E1 (by decide)
  obtain rfl := E2 (by decide)
  obtain rfl := E3 (by decide)
  obtain rfl := G1 _ rfl
  obtain rfl := G2 _ rfl
  obtain rfl := G3 _ rfl
  exact ⟨ha, h⟩
end

/-- Region 3. -/
def gwtwoJ3 (w : World) (xl xh yl yh zl zh : Nat) (l : RowL) (a0 : Act) (k : Nat) (p : List (Option Nat)) (a : Act) (v : World) : Prop :=
  ∃ y1 y2 y3 z1 z2 z3 : Value, a = ((((((a0.put (some 47) y1).put (some 50) y2).put (some 53) y3).put (some 9) z1).put (some 10) z2).put (some 11) z3) ∧ (0 < k → y1 = .agg #[.float .f64 xl, .float .f64 xh]) ∧ (1 < k → y2 = .agg #[.float .f64 yl, .float .f64 yh]) ∧ (2 < k → y3 = .agg #[.float .f64 zl, .float .f64 zh]) ∧ (∀ q, p[0]? = some (some q) → z1 = .pointer (some ⟨q, 0, none⟩)) ∧ (∀ q, p[1]? = some (some q) → z2 = .pointer (some ⟨q, 0, none⟩)) ∧ (∀ q, p[2]? = some (some q) → z3 = .pointer (some ⟨q, 0, none⟩)) ∧ OwnF w l [#[.float .f64 0, .float .f64 0], #[.float .f64 0, .float .f64 0], #[.float .f64 0, .float .f64 0]] p v
section
variable {w v : World} {xl xh yl yh zl zh : Nat} {l : RowL} {a0 a : Act} {p : List (Option Nat)}
theorem gwtwoJ3_0 (h : gwtwoJ3 w xl xh yl yh zl zh l a0 0 p a v) : ∃ y1 y2 y3 z1 z2 z3 : Value, a = ((((((a0.put (some 47) y1).put (some 50) y2).put (some 53) y3).put (some 9) z1).put (some 10) z2).put (some 11) z3) ∧ (∀ q, p[0]? = some (some q) → z1 = .pointer (some ⟨q, 0, none⟩)) ∧ (∀ q, p[1]? = some (some q) → z2 = .pointer (some ⟨q, 0, none⟩)) ∧ (∀ q, p[2]? = some (some q) → z3 = .pointer (some ⟨q, 0, none⟩)) ∧ OwnF w l [#[.float .f64 0, .float .f64 0], #[.float .f64 0, .float .f64 0], #[.float .f64 0, .float .f64 0]] p v := by
  obtain ⟨y1, y2, y3, z1, z2, z3, ha, E1, E2, E3, G1, G2, G3, h⟩ := h
  exact ⟨y1, y2, y3, z1, z2, z3, ha, G1, G2, G3, h⟩
theorem gwtwoJ3_1 (h : gwtwoJ3 w xl xh yl yh zl zh l a0 1 p a v) : ∃ y2 y3 z1 z2 z3 : Value, a = ((((((a0.put (some 47) (.agg #[.float .f64 xl, .float .f64 xh])).put (some 50) y2).put (some 53) y3).put (some 9) z1).put (some 10) z2).put (some 11) z3) ∧ (∀ q, p[0]? = some (some q) → z1 = .pointer (some ⟨q, 0, none⟩)) ∧ (∀ q, p[1]? = some (some q) → z2 = .pointer (some ⟨q, 0, none⟩)) ∧ (∀ q, p[2]? = some (some q) → z3 = .pointer (some ⟨q, 0, none⟩)) ∧ OwnF w l [#[.float .f64 0, .float .f64 0], #[.float .f64 0, .float .f64 0], #[.float .f64 0, .float .f64 0]] p v := by
  obtain ⟨y1, y2, y3, z1, z2, z3, ha, E1, E2, E3, G1, G2, G3, h⟩ := h
  obtain rfl := E1 (by decide)
  exact ⟨y2, y3, z1, z2, z3, ha, G1, G2, G3, h⟩
theorem gwtwoJ3_2 (h : gwtwoJ3 w xl xh yl yh zl zh l a0 2 p a v) : ∃ y3 z1 z2 z3 : Value, a = ((((((a0.put (some 47) (.agg #[.float .f64 xl, .float .f64 xh])).put (some 50) (.agg #[.float .f64 yl, .float .f64 yh])).put (some 53) y3).put (some 9) z1).put (some 10) z2).put (some 11) z3) ∧ (∀ q, p[0]? = some (some q) → z1 = .pointer (some ⟨q, 0, none⟩)) ∧ (∀ q, p[1]? = some (some q) → z2 = .pointer (some ⟨q, 0, none⟩)) ∧ (∀ q, p[2]? = some (some q) → z3 = .pointer (some ⟨q, 0, none⟩)) ∧ OwnF w l [#[.float .f64 0, .float .f64 0], #[.float .f64 0, .float .f64 0], #[.float .f64 0, .float .f64 0]] p v := by
  obtain ⟨y1, y2, y3, z1, z2, z3, ha, E1, E2, E3, G1, G2, G3, h⟩ := h
  obtain rfl := E1 (by decide)
  obtain rfl := E2 (by decide)
  exact ⟨y3, z1, z2, z3, ha, G1, G2, G3, h⟩
theorem gwtwoJ3_fin {q1 q2 q3 : Nat} (h : gwtwoJ3 w xl xh yl yh zl zh l a0 3 [some q1, some q2, some q3] a v) : a = ((((((a0.put (some 47) (.agg #[.float .f64 xl, .float .f64 xh])).put (some 50) (.agg #[.float .f64 yl, .float .f64 yh])).put (some 53) (.agg #[.float .f64 zl, .float .f64 zh])).put (some 9) (.pointer (some ⟨q1, 0, none⟩))).put (some 10) (.pointer (some ⟨q2, 0, none⟩))).put (some 11) (.pointer (some ⟨q3, 0, none⟩))) ∧ OwnF w l [#[.float .f64 0, .float .f64 0], #[.float .f64 0, .float .f64 0], #[.float .f64 0, .float .f64 0]] [some q1, some q2, some q3] v := by
  obtain ⟨y1, y2, y3, z1, z2, z3, ha, E1, E2, E3, G1, G2, G3, h⟩ := h
  obtain rfl := E1 (by decide)
  obtain rfl := E2 (by decide)
  obtain rfl := E3 (by decide)
  obtain rfl := G1 _ rfl
  obtain rfl := G2 _ rfl
  obtain rfl := G3 _ rfl
  exact ⟨ha, h⟩
end

set_option maxRecDepth 100000 in
set_option maxHeartbeats 16000000 in
theorem gwithin_two {u0 u1 u2 u3 u4 u5 v0 v1 v2 v3 v4 v5 il ih ol oh al ah xl xh yl yh zl zh dl dh gl gh ll lh ml mh nl nh ql qh sl sh tl th : Nat} {er es : Int} (w : World)
    (c1 : Hid (∀ w, Calls Try.prog 29 #[.float .f64 0, .float .f64 4607182418800017408, .int .u32 u0, .int .u32 u1] w fun r w' => r = .returned (.agg #[.float .f64 il, .float .f64 ih]) ∧ Below w.heap.size w w'))
    (c2 : Hid (∀ w, Calls Try.prog 29 #[.float .f64 0, .float .f64 4607182418800017408, .int .u32 u2, .int .u32 u3] w fun r w' => r = .returned (.agg #[.float .f64 ol, .float .f64 oh]) ∧ Below w.heap.size w w'))
    (c3 : Hid (∀ w, Calls Try.prog 29 #[.float .f64 4584664420663164928, .float .f64 4607182418800017408, .int .u32 u4, .int .u32 u5] w fun r w' => r = .returned (.agg #[.float .f64 al, .float .f64 ah]) ∧ Below w.heap.size w w'))
    (c4 : Hid (∀ (q : Nat) (v : World), Has1 v (q, #[.int .u32 v0, .int .u32 v1, .int .u32 v2, .int .u32 v3, .int .u32 v4, .int .u32 v5]) → Calls Try.prog 28 #[.agg #[.float .f64 il, .float .f64 ih], .int .i64 0, .pointer (some ⟨q, 0, none⟩)] v fun r w' => r = .returned (.agg #[.float .f64 xl, .float .f64 xh]) ∧ Below v.heap.size v w'))
    (c5 : Hid (∀ (q : Nat) (v : World), Has1 v (q, #[.int .u32 v0, .int .u32 v1, .int .u32 v2, .int .u32 v3, .int .u32 v4, .int .u32 v5]) → Calls Try.prog 28 #[.agg #[.float .f64 ol, .float .f64 oh], .int .i64 2, .pointer (some ⟨q, 0, none⟩)] v fun r w' => r = .returned (.agg #[.float .f64 yl, .float .f64 yh]) ∧ Below v.heap.size v w'))
    (c6 : Hid (∀ (q : Nat) (v : World), Has1 v (q, #[.int .u32 v0, .int .u32 v1, .int .u32 v2, .int .u32 v3, .int .u32 v4, .int .u32 v5]) → Calls Try.prog 28 #[.agg #[.float .f64 al, .float .f64 ah], .int .i64 4, .pointer (some ⟨q, 0, none⟩)] v fun r w' => r = .returned (.agg #[.float .f64 zl, .float .f64 zh]) ∧ Below v.heap.size v w'))
    (c7 : Hid (∀ w, Calls Try.prog 21 #[.agg #[.float .f64 il, .float .f64 ih], .agg #[.float .f64 al, .float .f64 ah]] w fun r w' => r = .returned (.tuple #[.agg #[.float .f64 dl, .float .f64 dh], .int .i64 0]) ∧ Below w.heap.size w w'))
    (c8 : Hid (∀ w, Calls Try.prog 21 #[.agg #[.float .f64 xl, .float .f64 xh], .agg #[.float .f64 zl, .float .f64 zh]] w fun r w' => r = .returned (.tuple #[.agg #[.float .f64 gl, .float .f64 gh], .int .i64 0]) ∧ Below w.heap.size w w'))
    (c9 : Hid (∀ w, Calls Try.prog 32 #[.agg #[.float .f64 il, .float .f64 ih], .agg #[.float .f64 al, .float .f64 ah]] w fun r w' => r = .returned (.tuple #[.agg #[.float .f64 ll, .float .f64 lh], .int .i64 0]) ∧ Below w.heap.size w w'))
    (c10 : Hid (∀ w, Calls Try.prog 32 #[.agg #[.float .f64 xl, .float .f64 xh], .agg #[.float .f64 zl, .float .f64 zh]] w fun r w' => r = .returned (.tuple #[.agg #[.float .f64 ml, .float .f64 mh], .int .i64 0]) ∧ Below w.heap.size w w'))
    (c11 : Hid (∀ w, Calls Try.prog 26 #[.agg #[.float .f64 il, .float .f64 ih], .agg #[.float .f64 ol, .float .f64 oh], .agg #[.float .f64 al, .float .f64 ah]] w fun r w' => r = .returned (.tuple #[.agg #[.float .f64 nl, .float .f64 nh], .int .i64 er]) ∧ Below w.heap.size w w'))
    (c12 : Hid (∀ w, Calls Try.prog 26 #[.agg #[.float .f64 xl, .float .f64 xh], .agg #[.float .f64 yl, .float .f64 yh], .agg #[.float .f64 zl, .float .f64 zh]] w fun r w' => r = .returned (.tuple #[.agg #[.float .f64 ql, .float .f64 qh], .int .i64 es]) ∧ Below w.heap.size w w'))
    (c13 : Hid (∀ w, Calls Try.prog 17 #[.agg #[.float .f64 il, .float .f64 ih], .agg #[.float .f64 al, .float .f64 ah]] w fun r w' => r = .returned (.tuple #[.agg #[.float .f64 sl, .float .f64 sh], .int .i64 0]) ∧ Below w.heap.size w w'))
    (c14 : Hid (∀ w, Calls Try.prog 17 #[.agg #[.float .f64 xl, .float .f64 xh], .agg #[.float .f64 zl, .float .f64 zh]] w fun r w' => r = .returned (.tuple #[.agg #[.float .f64 tl, .float .f64 th], .int .i64 0]) ∧ Below w.heap.size w w'))
    (c15 : Hid (∀ w, Calls Try.prog 30 #[.agg #[.float .f64 dl, .float .f64 dh], .int .i64 0, .agg #[.float .f64 gl, .float .f64 gh], .int .i64 0] w fun r w' => r = .returned (.bool true) ∧ Below w.heap.size w w'))
    (c16 : Hid (∀ w, Calls Try.prog 30 #[.agg #[.float .f64 ll, .float .f64 lh], .int .i64 0, .agg #[.float .f64 ml, .float .f64 mh], .int .i64 0] w fun r w' => r = .returned (.bool true) ∧ Below w.heap.size w w'))
    (c17 : Hid (∀ w, Calls Try.prog 30 #[.agg #[.float .f64 nl, .float .f64 nh], .int .i64 er, .agg #[.float .f64 ql, .float .f64 qh], .int .i64 es] w fun r w' => r = .returned (.bool true) ∧ Below w.heap.size w w'))
    (c18 : Hid (∀ w, Calls Try.prog 30 #[.agg #[.float .f64 sl, .float .f64 sh], .int .i64 0, .agg #[.float .f64 tl, .float .f64 th], .int .i64 0] w fun r w' => r = .returned (.bool true) ∧ Below w.heap.size w w'))
    (c19 : Hid (∀ w, Calls Try.prog 24 #[] w fun r w' => r = .returned (.bool true) ∧ Below w.heap.size w w')) :
    Calls Try.prog 6 #[.agg #[.int .u32 u0, .int .u32 u1, .int .u32 u2, .int .u32 u3, .int .u32 u4, .int .u32 u5], .agg #[.int .u32 v0, .int .u32 v1, .int .u32 v2, .int .u32 v3, .int .u32 v4, .int .u32 v5]] w fun r w' => r = .returned (.bool true) ∧ Below w.heap.size w w' := by
  have M := Lib.hid (((Own.nil w).made #[.int .u32 u0, .int .u32 u1, .int .u32 u2, .int .u32 u3, .int .u32 u4, .int .u32 u5] 55).made #[.int .u32 v0, .int .u32 v1, .int .u32 v2, .int .u32 v3, .int .u32 v4, .int .u32 v5] 55)
  simp only [World.size_alloc] at M
  have eqF := eq_floats
  go_enter Try.func6, Try.ntmps6
  go_upto_region 2 with fail
  replace M := Lib.hid M.out.drew
  refine wp_region_noPanic ?_
  refine tails_region (S := fun w' => (w'.cell? ⟨w.heap.size, 0, none⟩ = some (.int .u32 u0) ∧ w'.cell? ⟨w.heap.size, 1, none⟩ = some (.int .u32 u1) ∧ w'.cell? ⟨w.heap.size, 2, none⟩ = some (.int .u32 u2) ∧ w'.cell? ⟨w.heap.size, 3, none⟩ = some (.int .u32 u3) ∧ w'.cell? ⟨w.heap.size, 4, none⟩ = some (.int .u32 u4) ∧ w'.cell? ⟨w.heap.size, 5, none⟩ = some (.int .u32 u5))) [] (by kernel_rfl) ?_ (fun hS => ?_)
  · exact (M.out.nth 1 rfl).six
  refine tk (x := ?_) 0 rfl (by kernel_rfl) ⟨by kernel_rfl, ?_⟩ (fun _ _ _ h => h) hS ?_
  rotate_left; focus (intro w hSw; (try dsimp only at hSw); go_simp; try with_reducible rfl)
  refine tk (x := ?_) 1 rfl (by kernel_rfl) ⟨by kernel_rfl, ?_⟩ (fun _ _ _ h => h) hS ?_
  rotate_left; focus (intro w hSw; (try dsimp only at hSw); go_simp; try with_reducible rfl)
  refine tk (x := ?_) 2 rfl (by kernel_rfl) ⟨by kernel_rfl, ?_⟩ (fun _ _ _ h => h) hS ?_
  rotate_left; focus (intro w hSw; (try dsimp only at hSw); go_simp; try with_reducible rfl)
  refine tk (x := ?_) 3 rfl (by kernel_rfl) ⟨by kernel_rfl, ?_⟩ (fun _ _ _ h => h) hS ?_
  rotate_left; focus (intro w hSw; (try dsimp only at hSw); go_simp; try with_reducible rfl)
  refine tk (x := ?_) 5 rfl (by kernel_rfl) ⟨by kernel_rfl, ?_⟩ (fun _ _ _ h => h) hS ?_
  rotate_left; focus (intro w hSw; (try dsimp only at hSw); go_simp; try with_reducible rfl)
  refine tk (x := ?_) 6 rfl (by kernel_rfl) ⟨by kernel_rfl, ?_⟩ (fun _ _ _ h => h) hS ?_
  rotate_left; focus (intro w hSw; (try dsimp only at hSw); go_simp; try with_reducible rfl)
  refine tk (x := ?_) 7 rfl (by kernel_rfl) ⟨by kernel_rfl, ?_⟩ (fun _ _ _ h => h) hS ?_
  rotate_left; focus (intro w hSw; (try dsimp only at hSw); go_simp; try with_reducible rfl)
  refine tk (x := ?_) 8 rfl (by kernel_rfl) ⟨by kernel_rfl, ?_⟩ (fun _ _ _ h => h) hS ?_
  rotate_left; focus (intro w hSw; (try dsimp only at hSw); go_simp; try with_reducible rfl)
  refine tk (x := ?_) 10 rfl (by kernel_rfl) ⟨by kernel_rfl, ?_⟩ (fun _ _ _ h => h) hS ?_
  rotate_left; focus (intro w hSw; (try dsimp only at hSw); go_simp; try with_reducible rfl)
  refine tk (x := ?_) 11 rfl (by kernel_rfl) ⟨by kernel_rfl, ?_⟩ (fun _ _ _ h => h) hS ?_
  rotate_left; focus (intro w hSw; (try dsimp only at hSw); go_simp; try with_reducible rfl)
  refine tk (x := ?_) 12 rfl (by kernel_rfl) ⟨by kernel_rfl, ?_⟩ (fun _ _ _ h => h) hS ?_
  rotate_left; focus (intro w hSw; (try dsimp only at hSw); go_simp; try with_reducible rfl)
  refine tk (x := ?_) 13 rfl (by kernel_rfl) ⟨by kernel_rfl, ?_⟩ (fun _ _ _ h => h) hS ?_
  rotate_left; focus (intro w hSw; (try dsimp only at hSw); go_simp; try with_reducible rfl)
  conv => arg 9; simp only [Act.put, go_sem]
  refine lp_ccc_3 M 4 9 14 15 16 17 [34, 39, 44, 6, 7, 8] 3 (gwtwoJ2 w il ih ol oh al ah) (by kernel_rfl) (by kernel_rfl) ?_ ?_ ?_ ?_ ?_ ?_ ?_ ?_ ?_
  · intro A hA
    obtain ⟨y1, hq1⟩ := put_ex (hA 34 (by simp))
    obtain ⟨y2, hq2⟩ := put_ex (hA 39 (by simp))
    obtain ⟨y3, hq3⟩ := put_ex (hA 44 (by simp))
    obtain ⟨z1, hq4⟩ := put_ex (hA 6 (by simp))
    obtain ⟨z2, hq5⟩ := put_ex (hA 7 (by simp))
    obtain ⟨z3, hq6⟩ := put_ex (hA 8 (by simp))
    exact ⟨y1, y2, y3, z1, z2, z3, by rw [hq1, hq2, hq3, hq4, hq5, hq6], by omega, by omega, by omega, by simp, by simp, by simp, OwnF.start M.out 3⟩
  · rintro k p a v ⟨y1, y2, y3, z1, z2, z3, _, _, _, _, _, _, _, h⟩
    exact (h.own.nth 1 rfl).six
  · intro p a v hJ
    refine op_step (o := _) rfl (fun K hK => ?_)
    obtain ⟨y1, y2, y3, z1, z2, z3, ha, gg1, gg2, gg3, h⟩ := gwtwoJ2_0 hJ
    have h := Lib.hid h
    clear hJ
    subst ha
    go_simp
    refine (c1.out _).mono ?_
    rintro rr w5 ⟨rfl, hp⟩
    try go_wp2_with fail
    refine hK.out _ _ ⟨_, y2, y3, z1, z2, z3, ?_, fun _ => rfl, by omega, by omega, gg1, gg2, gg3, h.out.below hp⟩
    kernel_rfl
  · intro p a v hJ
    refine op_step (o := _) rfl (fun K hK => ?_)
    obtain ⟨y2, y3, z1, z2, z3, ha, gg1, gg2, gg3, h⟩ := gwtwoJ2_1 hJ
    have h := Lib.hid h
    clear hJ
    subst ha
    go_simp
    refine (c2.out _).mono ?_
    rintro rr w5 ⟨rfl, hp⟩
    try go_wp2_with fail
    refine hK.out _ _ ⟨_, _, y3, z1, z2, z3, ?_, fun _ => rfl, fun _ => rfl, by omega, gg1, gg2, gg3, h.out.below hp⟩
    kernel_rfl
  · intro p a v hJ
    refine op_step (o := _) rfl (fun K hK => ?_)
    obtain ⟨y3, z1, z2, z3, ha, gg1, gg2, gg3, h⟩ := gwtwoJ2_2 hJ
    have h := Lib.hid h
    clear hJ
    subst ha
    go_simp
    refine (c3.out _).mono ?_
    rintro rr w5 ⟨rfl, hp⟩
    try go_wp2_with fail
    refine hK.out _ _ ⟨_, _, _, z1, z2, z3, ?_, fun _ => rfl, fun _ => rfl, fun _ => rfl, gg1, gg2, gg3, h.out.below hp⟩
    kernel_rfl
  · intro k p a v hp hJ
    refine op_step (o := _) rfl (fun K hK => ?_)
    obtain ⟨y1, y2, y3, z1, z2, z3, ha, ee1, ee2, ee3, gg1, gg2, gg3, h⟩ := hJ
    have h := Lib.hid h
    subst ha
    go_simp
    refine hK.out _ _ ⟨v.heap.size, y1, y2, y3, .pointer (some ⟨v.heap.size, 0, none⟩), z2, z3, ?_, ee1, ee2, ee3, fun q hq => ptr_set hq, ptr_keep 1 (by decide) gg2, ptr_keep 2 (by decide) gg3, h.out.alloc hp rfl _⟩
    kernel_rfl
  · intro k p a v hp hJ
    refine op_step (o := _) rfl (fun K hK => ?_)
    obtain ⟨y1, y2, y3, z1, z2, z3, ha, ee1, ee2, ee3, gg1, gg2, gg3, h⟩ := hJ
    have h := Lib.hid h
    subst ha
    go_simp
    refine hK.out _ _ ⟨v.heap.size, y1, y2, y3, z1, .pointer (some ⟨v.heap.size, 0, none⟩), z3, ?_, ee1, ee2, ee3, ptr_keep 0 (by decide) gg1, fun q hq => ptr_set hq, ptr_keep 2 (by decide) gg3, h.out.alloc hp rfl _⟩
    kernel_rfl
  · intro k p a v hp hJ
    refine op_step (o := _) rfl (fun K hK => ?_)
    obtain ⟨y1, y2, y3, z1, z2, z3, ha, ee1, ee2, ee3, gg1, gg2, gg3, h⟩ := hJ
    have h := Lib.hid h
    subst ha
    go_simp
    refine hK.out _ _ ⟨v.heap.size, y1, y2, y3, z1, z2, .pointer (some ⟨v.heap.size, 0, none⟩), ?_, ee1, ee2, ee3, ptr_keep 0 (by decide) gg1, ptr_keep 1 (by decide) gg2, fun q hq => ptr_set hq, h.out.alloc hp rfl _⟩
    kernel_rfl
  intro p2_1 p2_2 p2_3 a v hJ
  obtain ⟨rfl, h⟩ := gwtwoJ2_fin hJ
  clear hJ
  replace M := Lib.hid h.fin3
  clear h
  refine tails_one (T := []) (i := 18) (o := _) rfl (by kernel_rfl) (fun K hK => ?_)
  have kc := (M.out.nth 0 rfl).2.1
  have kf := (M.out.nth 0 rfl).2.2
  replace M : Hid (Own w [(p2_1, #[.float .f64 il, .float .f64 ih]), (p2_2, #[.float .f64 0, .float .f64 0]), (p2_3, #[.float .f64 0, .float .f64 0]), ((w.heap.size + 1), #[.int .u32 v0, .int .u32 v1, .int .u32 v2, .int .u32 v3, .int .u32 v4, .int .u32 v5]), (w.heap.size, #[.int .u32 u0, .int .u32 u1, .int .u32 u2, .int .u32 u3, .int .u32 u4, .int .u32 u5])] _) := Lib.hid (M.out.set2 0 rfl (.float .f64 il) (.float .f64 ih))
  go_simp
  refine hK.out _ _ (Or.inr (M.out.nth 4 rfl).six) (fun hHeld => ?_)
  clear hK K hHeld kc kf
  refine tails_one (T := []) (i := 19) (o := _) rfl (by kernel_rfl) (fun K hK => ?_)
  have kc := (M.out.nth 1 rfl).2.1
  have kf := (M.out.nth 1 rfl).2.2
  replace M : Hid (Own w [(p2_1, #[.float .f64 il, .float .f64 ih]), (p2_2, #[.float .f64 ol, .float .f64 oh]), (p2_3, #[.float .f64 0, .float .f64 0]), ((w.heap.size + 1), #[.int .u32 v0, .int .u32 v1, .int .u32 v2, .int .u32 v3, .int .u32 v4, .int .u32 v5]), (w.heap.size, #[.int .u32 u0, .int .u32 u1, .int .u32 u2, .int .u32 u3, .int .u32 u4, .int .u32 u5])] _) := Lib.hid (M.out.set2 1 rfl (.float .f64 ol) (.float .f64 oh))
  go_simp
  refine hK.out _ _ (Or.inr (M.out.nth 4 rfl).six) (fun hHeld => ?_)
  clear hK K hHeld kc kf
  refine tails_one (T := []) (i := 20) (o := _) rfl (by kernel_rfl) (fun K hK => ?_)
  have kc := (M.out.nth 2 rfl).2.1
  have kf := (M.out.nth 2 rfl).2.2
  replace M : Hid (Own w [(p2_1, #[.float .f64 il, .float .f64 ih]), (p2_2, #[.float .f64 ol, .float .f64 oh]), (p2_3, #[.float .f64 al, .float .f64 ah]), ((w.heap.size + 1), #[.int .u32 v0, .int .u32 v1, .int .u32 v2, .int .u32 v3, .int .u32 v4, .int .u32 v5]), (w.heap.size, #[.int .u32 u0, .int .u32 u1, .int .u32 u2, .int .u32 u3, .int .u32 u4, .int .u32 u5])] _) := Lib.hid (M.out.set2 2 rfl (.float .f64 al) (.float .f64 ah))
  go_simp
  refine hK.out _ _ (Or.inr (M.out.nth 4 rfl).six) (fun hHeld => ?_)
  clear hK K hHeld kc kf
  refine tails_done (by kernel_rfl) ?_ _
  refine NoPanic.normal ?_
  clear hS
  revert M
  generalize ((((((v.setCell ⟨p2_1, 0, none⟩ (.float .f64 il)).setCell ⟨p2_1, 1, none⟩ (.float .f64 ih)).setCell ⟨p2_2, 0, none⟩ (.float .f64 ol)).setCell ⟨p2_2, 1, none⟩ (.float .f64 oh)).setCell ⟨p2_3, 0, none⟩ (.float .f64 al)).setCell ⟨p2_3, 1, none⟩ (.float .f64 ah)) = W1_
  intro M
  go_upto_region 3 with fail
  replace M := Lib.hid M.out.drew
  refine wp_region_noPanic ?_
  refine tails_region (S := fun w' => (w'.cell? ⟨p2_1, 0, none⟩ = some (.float .f64 il) ∧ w'.cell? ⟨p2_1, 1, none⟩ = some (.float .f64 ih)) ∧ (w'.cell? ⟨p2_2, 0, none⟩ = some (.float .f64 ol) ∧ w'.cell? ⟨p2_2, 1, none⟩ = some (.float .f64 oh)) ∧ (w'.cell? ⟨p2_3, 0, none⟩ = some (.float .f64 al) ∧ w'.cell? ⟨p2_3, 1, none⟩ = some (.float .f64 ah))) [] (by kernel_rfl) ?_ (fun hS => ?_)
  · exact ⟨(M.out.nth 0 rfl).two, (M.out.nth 1 rfl).two, (M.out.nth 2 rfl).two⟩
  refine tk (x := ?_) 0 rfl (by kernel_rfl) ⟨by kernel_rfl, ?_⟩ (fun _ _ _ h => h) hS ?_
  rotate_left; focus (intro w hSw; (try dsimp only at hSw); go_simp; try with_reducible rfl)
  refine tk (x := ?_) 1 rfl (by kernel_rfl) ⟨by kernel_rfl, ?_⟩ (fun _ _ _ h => h) hS ?_
  rotate_left; focus (intro w hSw; (try dsimp only at hSw); go_simp; try with_reducible rfl)
  refine tk (x := ?_) 3 rfl (by kernel_rfl) ⟨by kernel_rfl, ?_⟩ (fun _ _ _ h => h) hS ?_
  rotate_left; focus (intro w hSw; (try dsimp only at hSw); go_simp; try with_reducible rfl)
  refine tk (x := ?_) 4 rfl (by kernel_rfl) ⟨by kernel_rfl, ?_⟩ (fun _ _ _ h => h) hS ?_
  rotate_left; focus (intro w hSw; (try dsimp only at hSw); go_simp; try with_reducible rfl)
  refine tk (x := ?_) 6 rfl (by kernel_rfl) ⟨by kernel_rfl, ?_⟩ (fun _ _ _ h => h) hS ?_
  rotate_left; focus (intro w hSw; (try dsimp only at hSw); go_simp; try with_reducible rfl)
  refine tk (x := ?_) 7 rfl (by kernel_rfl) ⟨by kernel_rfl, ?_⟩ (fun _ _ _ h => h) hS ?_
  rotate_left; focus (intro w hSw; (try dsimp only at hSw); go_simp; try with_reducible rfl)
  conv => arg 9; simp only [Act.put, go_sem]
  refine lp_ccc_3 M 2 5 8 9 10 11 [47, 50, 53, 9, 10, 11] 3 (gwtwoJ3 w xl xh yl yh zl zh) (by kernel_rfl) (by kernel_rfl) ?_ ?_ ?_ ?_ ?_ ?_ ?_ ?_ ?_
  · intro A hA
    obtain ⟨y1, hq1⟩ := put_ex (hA 47 (by simp))
    obtain ⟨y2, hq2⟩ := put_ex (hA 50 (by simp))
    obtain ⟨y3, hq3⟩ := put_ex (hA 53 (by simp))
    obtain ⟨z1, hq4⟩ := put_ex (hA 9 (by simp))
    obtain ⟨z2, hq5⟩ := put_ex (hA 10 (by simp))
    obtain ⟨z3, hq6⟩ := put_ex (hA 11 (by simp))
    exact ⟨y1, y2, y3, z1, z2, z3, by rw [hq1, hq2, hq3, hq4, hq5, hq6], by omega, by omega, by omega, by simp, by simp, by simp, OwnF.start M.out 3⟩
  · rintro k p a v ⟨y1, y2, y3, z1, z2, z3, _, _, _, _, _, _, _, h⟩
    exact ⟨(h.own.nth 0 rfl).two, (h.own.nth 1 rfl).two, (h.own.nth 2 rfl).two⟩
  · intro p a v hJ
    refine op_step (o := _) rfl (fun K hK => ?_)
    obtain ⟨y1, y2, y3, z1, z2, z3, ha, gg1, gg2, gg3, h⟩ := gwtwoJ3_0 hJ
    have h := Lib.hid h
    clear hJ
    subst ha
    go_simp
    refine (c4.out _ _ (h.out.own.nth 3 rfl)).mono ?_
    rintro rr w5 ⟨rfl, hp⟩
    try go_wp2_with fail
    refine hK.out _ _ ⟨_, y2, y3, z1, z2, z3, ?_, fun _ => rfl, by omega, by omega, gg1, gg2, gg3, h.out.below hp⟩
    kernel_rfl
  · intro p a v hJ
    refine op_step (o := _) rfl (fun K hK => ?_)
    obtain ⟨y2, y3, z1, z2, z3, ha, gg1, gg2, gg3, h⟩ := gwtwoJ3_1 hJ
    have h := Lib.hid h
    clear hJ
    subst ha
    go_simp
    refine (c5.out _ _ (h.out.own.nth 3 rfl)).mono ?_
    rintro rr w5 ⟨rfl, hp⟩
    try go_wp2_with fail
    refine hK.out _ _ ⟨_, _, y3, z1, z2, z3, ?_, fun _ => rfl, fun _ => rfl, by omega, gg1, gg2, gg3, h.out.below hp⟩
    kernel_rfl
  · intro p a v hJ
    refine op_step (o := _) rfl (fun K hK => ?_)
    obtain ⟨y3, z1, z2, z3, ha, gg1, gg2, gg3, h⟩ := gwtwoJ3_2 hJ
    have h := Lib.hid h
    clear hJ
    subst ha
    go_simp
    refine (c6.out _ _ (h.out.own.nth 3 rfl)).mono ?_
    rintro rr w5 ⟨rfl, hp⟩
    try go_wp2_with fail
    refine hK.out _ _ ⟨_, _, _, z1, z2, z3, ?_, fun _ => rfl, fun _ => rfl, fun _ => rfl, gg1, gg2, gg3, h.out.below hp⟩
    kernel_rfl
  · intro k p a v hp hJ
    refine op_step (o := _) rfl (fun K hK => ?_)
    obtain ⟨y1, y2, y3, z1, z2, z3, ha, ee1, ee2, ee3, gg1, gg2, gg3, h⟩ := hJ
    have h := Lib.hid h
    subst ha
    go_simp
    refine hK.out _ _ ⟨v.heap.size, y1, y2, y3, .pointer (some ⟨v.heap.size, 0, none⟩), z2, z3, ?_, ee1, ee2, ee3, fun q hq => ptr_set hq, ptr_keep 1 (by decide) gg2, ptr_keep 2 (by decide) gg3, h.out.alloc hp rfl _⟩
    kernel_rfl
  · intro k p a v hp hJ
    refine op_step (o := _) rfl (fun K hK => ?_)
    obtain ⟨y1, y2, y3, z1, z2, z3, ha, ee1, ee2, ee3, gg1, gg2, gg3, h⟩ := hJ
    have h := Lib.hid h
    subst ha
    go_simp
    refine hK.out _ _ ⟨v.heap.size, y1, y2, y3, z1, .pointer (some ⟨v.heap.size, 0, none⟩), z3, ?_, ee1, ee2, ee3, ptr_keep 0 (by decide) gg1, fun q hq => ptr_set hq, ptr_keep 2 (by decide) gg3, h.out.alloc hp rfl _⟩
    kernel_rfl
  · intro k p a v hp hJ
    refine op_step (o := _) rfl (fun K hK => ?_)
    obtain ⟨y1, y2, y3, z1, z2, z3, ha, ee1, ee2, ee3, gg1, gg2, gg3, h⟩ := hJ
    have h := Lib.hid h
    subst ha
    go_simp
    refine hK.out _ _ ⟨v.heap.size, y1, y2, y3, z1, z2, .pointer (some ⟨v.heap.size, 0, none⟩), ?_, ee1, ee2, ee3, ptr_keep 0 (by decide) gg1, ptr_keep 1 (by decide) gg2, fun q hq => ptr_set hq, h.out.alloc hp rfl _⟩
    kernel_rfl
  intro p3_1 p3_2 p3_3 a v hJ
  obtain ⟨rfl, h⟩ := gwtwoJ3_fin hJ
  clear hJ
  replace M := Lib.hid h.fin3
  clear h
  refine tails_one (T := []) (i := 12) (o := _) rfl (by kernel_rfl) (fun K hK => ?_)
  have kc := (M.out.nth 0 rfl).2.1
  have kf := (M.out.nth 0 rfl).2.2
  replace M : Hid (Own w [(p3_1, #[.float .f64 xl, .float .f64 xh]), (p3_2, #[.float .f64 0, .float .f64 0]), (p3_3, #[.float .f64 0, .float .f64 0]), (p2_1, #[.float .f64 il, .float .f64 ih]), (p2_2, #[.float .f64 ol, .float .f64 oh]), (p2_3, #[.float .f64 al, .float .f64 ah]), ((w.heap.size + 1), #[.int .u32 v0, .int .u32 v1, .int .u32 v2, .int .u32 v3, .int .u32 v4, .int .u32 v5]), (w.heap.size, #[.int .u32 u0, .int .u32 u1, .int .u32 u2, .int .u32 u3, .int .u32 u4, .int .u32 u5])] _) := Lib.hid (M.out.set2 0 rfl (.float .f64 xl) (.float .f64 xh))
  go_simp
  refine hK.out _ _ (Or.inr ⟨(M.out.nth 3 rfl).two, (M.out.nth 4 rfl).two, (M.out.nth 5 rfl).two⟩) (fun hHeld => ?_)
  clear hK K hHeld kc kf
  refine tails_one (T := []) (i := 13) (o := _) rfl (by kernel_rfl) (fun K hK => ?_)
  have kc := (M.out.nth 1 rfl).2.1
  have kf := (M.out.nth 1 rfl).2.2
  replace M : Hid (Own w [(p3_1, #[.float .f64 xl, .float .f64 xh]), (p3_2, #[.float .f64 yl, .float .f64 yh]), (p3_3, #[.float .f64 0, .float .f64 0]), (p2_1, #[.float .f64 il, .float .f64 ih]), (p2_2, #[.float .f64 ol, .float .f64 oh]), (p2_3, #[.float .f64 al, .float .f64 ah]), ((w.heap.size + 1), #[.int .u32 v0, .int .u32 v1, .int .u32 v2, .int .u32 v3, .int .u32 v4, .int .u32 v5]), (w.heap.size, #[.int .u32 u0, .int .u32 u1, .int .u32 u2, .int .u32 u3, .int .u32 u4, .int .u32 u5])] _) := Lib.hid (M.out.set2 1 rfl (.float .f64 yl) (.float .f64 yh))
  go_simp
  refine hK.out _ _ (Or.inr ⟨(M.out.nth 3 rfl).two, (M.out.nth 4 rfl).two, (M.out.nth 5 rfl).two⟩) (fun hHeld => ?_)
  clear hK K hHeld kc kf
  refine tails_one (T := []) (i := 14) (o := _) rfl (by kernel_rfl) (fun K hK => ?_)
  have kc := (M.out.nth 2 rfl).2.1
  have kf := (M.out.nth 2 rfl).2.2
  replace M : Hid (Own w [(p3_1, #[.float .f64 xl, .float .f64 xh]), (p3_2, #[.float .f64 yl, .float .f64 yh]), (p3_3, #[.float .f64 zl, .float .f64 zh]), (p2_1, #[.float .f64 il, .float .f64 ih]), (p2_2, #[.float .f64 ol, .float .f64 oh]), (p2_3, #[.float .f64 al, .float .f64 ah]), ((w.heap.size + 1), #[.int .u32 v0, .int .u32 v1, .int .u32 v2, .int .u32 v3, .int .u32 v4, .int .u32 v5]), (w.heap.size, #[.int .u32 u0, .int .u32 u1, .int .u32 u2, .int .u32 u3, .int .u32 u4, .int .u32 u5])] _) := Lib.hid (M.out.set2 2 rfl (.float .f64 zl) (.float .f64 zh))
  go_simp
  refine hK.out _ _ (Or.inr ⟨(M.out.nth 3 rfl).two, (M.out.nth 4 rfl).two, (M.out.nth 5 rfl).two⟩) (fun hHeld => ?_)
  clear hK K hHeld kc kf
  refine tails_done (by kernel_rfl) ?_ _
  refine NoPanic.normal ?_
  clear hS
  revert M
  generalize ((((((v.setCell ⟨p3_1, 0, none⟩ (.float .f64 xl)).setCell ⟨p3_1, 1, none⟩ (.float .f64 xh)).setCell ⟨p3_2, 0, none⟩ (.float .f64 yl)).setCell ⟨p3_2, 1, none⟩ (.float .f64 yh)).setCell ⟨p3_3, 0, none⟩ (.float .f64 zl)).setCell ⟨p3_3, 1, none⟩ (.float .f64 zh)) = W2_
  intro M
  obtain ⟨k1, k2⟩ := (M.out.nth 3 rfl).two
  obtain ⟨k3, k4⟩ := (M.out.nth 5 rfl).two
  go_wp2_with fail
  refine (c7.out _).mono ?_
  rintro r w3_ ⟨rfl, hb⟩
  replace M := Lib.hid (M.out.below hb)
  clear hb
  clear k1 k2 k3 k4
  replace M := Lib.hid (M.out.made #[.float .f64 dl, .float .f64 dh] 27)
  obtain ⟨k1, k2⟩ := (M.out.nth 1 rfl).two
  obtain ⟨k3, k4⟩ := (M.out.nth 3 rfl).two
  go_wp2_with fail
  refine (c8.out _).mono ?_
  rintro r w4_ ⟨rfl, hb⟩
  replace M := Lib.hid (M.out.below hb)
  clear hb
  clear k1 k2 k3 k4
  replace M := Lib.hid (M.out.made #[.float .f64 gl, .float .f64 gh] 27)
  obtain ⟨k1, k2⟩ := (M.out.nth 5 rfl).two
  obtain ⟨k3, k4⟩ := (M.out.nth 7 rfl).two
  go_wp2_with fail
  refine (c9.out _).mono ?_
  rintro r w5_ ⟨rfl, hb⟩
  replace M := Lib.hid (M.out.below hb)
  clear hb
  clear k1 k2 k3 k4
  replace M := Lib.hid (M.out.made #[.float .f64 ll, .float .f64 lh] 27)
  obtain ⟨k1, k2⟩ := (M.out.nth 3 rfl).two
  obtain ⟨k3, k4⟩ := (M.out.nth 5 rfl).two
  go_wp2_with fail
  refine (c10.out _).mono ?_
  rintro r w6_ ⟨rfl, hb⟩
  replace M := Lib.hid (M.out.below hb)
  clear hb
  clear k1 k2 k3 k4
  replace M := Lib.hid (M.out.made #[.float .f64 ml, .float .f64 mh] 27)
  obtain ⟨k1, k2⟩ := (M.out.nth 7 rfl).two
  obtain ⟨k3, k4⟩ := (M.out.nth 8 rfl).two
  obtain ⟨k5, k6⟩ := (M.out.nth 9 rfl).two
  go_wp2_with fail
  refine (c11.out _).mono ?_
  rintro r w7_ ⟨rfl, hb⟩
  replace M := Lib.hid (M.out.below hb)
  clear hb
  clear k1 k2 k3 k4 k5 k6
  replace M := Lib.hid (M.out.made #[.float .f64 nl, .float .f64 nh] 27)
  obtain ⟨k1, k2⟩ := (M.out.nth 5 rfl).two
  obtain ⟨k3, k4⟩ := (M.out.nth 6 rfl).two
  obtain ⟨k5, k6⟩ := (M.out.nth 7 rfl).two
  go_wp2_with fail
  refine (c12.out _).mono ?_
  rintro r w8_ ⟨rfl, hb⟩
  replace M := Lib.hid (M.out.below hb)
  clear hb
  clear k1 k2 k3 k4 k5 k6
  replace M := Lib.hid (M.out.made #[.float .f64 ql, .float .f64 qh] 27)
  obtain ⟨k1, k2⟩ := (M.out.nth 9 rfl).two
  obtain ⟨k3, k4⟩ := (M.out.nth 11 rfl).two
  go_wp2_with fail
  refine (c13.out _).mono ?_
  rintro r w9_ ⟨rfl, hb⟩
  replace M := Lib.hid (M.out.below hb)
  clear hb
  clear k1 k2 k3 k4
  replace M := Lib.hid (M.out.made #[.float .f64 sl, .float .f64 sh] 27)
  obtain ⟨k1, k2⟩ := (M.out.nth 7 rfl).two
  obtain ⟨k3, k4⟩ := (M.out.nth 9 rfl).two
  go_wp2_with fail
  refine (c14.out _).mono ?_
  rintro r w10_ ⟨rfl, hb⟩
  replace M := Lib.hid (M.out.below hb)
  clear hb
  clear k1 k2 k3 k4
  replace M := Lib.hid (M.out.made #[.float .f64 tl, .float .f64 th] 27)
  obtain ⟨k1, k2⟩ := (M.out.nth 7 rfl).two
  obtain ⟨k3, k4⟩ := (M.out.nth 6 rfl).two
  go_wp2_with fail
  refine (c15.out _).mono ?_
  rintro r w11_ ⟨rfl, hb⟩
  replace M := Lib.hid (M.out.below hb)
  clear hb
  clear k1 k2 k3 k4
  obtain ⟨k1, k2⟩ := (M.out.nth 5 rfl).two
  obtain ⟨k3, k4⟩ := (M.out.nth 4 rfl).two
  go_wp2_with fail
  refine (c16.out _).mono ?_
  rintro r w12_ ⟨rfl, hb⟩
  replace M := Lib.hid (M.out.below hb)
  clear hb
  clear k1 k2 k3 k4
  obtain ⟨k1, k2⟩ := (M.out.nth 3 rfl).two
  obtain ⟨k3, k4⟩ := (M.out.nth 2 rfl).two
  go_wp2_with fail
  refine (c17.out _).mono ?_
  rintro r w13_ ⟨rfl, hb⟩
  replace M := Lib.hid (M.out.below hb)
  clear hb
  clear k1 k2 k3 k4
  obtain ⟨k1, k2⟩ := (M.out.nth 1 rfl).two
  obtain ⟨k3, k4⟩ := (M.out.nth 0 rfl).two
  go_wp2_with fail
  refine (c18.out _).mono ?_
  rintro r w14_ ⟨rfl, hb⟩
  replace M := Lib.hid (M.out.below hb)
  clear hb
  clear k1 k2 k3 k4
  go_wp2_with fail
  refine (c19.out _).mono ?_
  rintro r w15_ ⟨rfl, hb⟩
  replace M := Lib.hid (M.out.below hb)
  clear hb
  go_wp2
  go_ret
  exact ⟨rfl, M.out.base⟩

/-- Region 2. -/
def gwerrJ2 (w : World) (il ih ol oh al ah : Nat) (l : RowL) (a0 : Act) (k : Nat) (p : List (Option Nat)) (a : Act) (v : World) : Prop :=
  ∃ y1 y2 y3 z1 z2 z3 : Value, a = ((((((a0.put (some 34) y1).put (some 39) y2).put (some 44) y3).put (some 6) z1).put (some 7) z2).put (some 8) z3) ∧ (0 < k → y1 = .agg #[.float .f64 il, .float .f64 ih]) ∧ (1 < k → y2 = .agg #[.float .f64 ol, .float .f64 oh]) ∧ (2 < k → y3 = .agg #[.float .f64 al, .float .f64 ah]) ∧ (∀ q, p[0]? = some (some q) → z1 = .pointer (some ⟨q, 0, none⟩)) ∧ (∀ q, p[1]? = some (some q) → z2 = .pointer (some ⟨q, 0, none⟩)) ∧ (∀ q, p[2]? = some (some q) → z3 = .pointer (some ⟨q, 0, none⟩)) ∧ OwnF w l [#[.float .f64 0, .float .f64 0], #[.float .f64 0, .float .f64 0], #[.float .f64 0, .float .f64 0]] p v
section
variable {w v : World} {il ih ol oh al ah : Nat} {l : RowL} {a0 a : Act} {p : List (Option Nat)}
theorem gwerrJ2_0 (h : gwerrJ2 w il ih ol oh al ah l a0 0 p a v) : ∃ y1 y2 y3 z1 z2 z3 : Value, a = ((((((a0.put (some 34) y1).put (some 39) y2).put (some 44) y3).put (some 6) z1).put (some 7) z2).put (some 8) z3) ∧ (∀ q, p[0]? = some (some q) → z1 = .pointer (some ⟨q, 0, none⟩)) ∧ (∀ q, p[1]? = some (some q) → z2 = .pointer (some ⟨q, 0, none⟩)) ∧ (∀ q, p[2]? = some (some q) → z3 = .pointer (some ⟨q, 0, none⟩)) ∧ OwnF w l [#[.float .f64 0, .float .f64 0], #[.float .f64 0, .float .f64 0], #[.float .f64 0, .float .f64 0]] p v := by
  obtain ⟨y1, y2, y3, z1, z2, z3, ha, E1, E2, E3, G1, G2, G3, h⟩ := h
  exact ⟨y1, y2, y3, z1, z2, z3, ha, G1, G2, G3, h⟩
theorem gwerrJ2_1 (h : gwerrJ2 w il ih ol oh al ah l a0 1 p a v) : ∃ y2 y3 z1 z2 z3 : Value, a = ((((((a0.put (some 34) (.agg #[.float .f64 il, .float .f64 ih])).put (some 39) y2).put (some 44) y3).put (some 6) z1).put (some 7) z2).put (some 8) z3) ∧ (∀ q, p[0]? = some (some q) → z1 = .pointer (some ⟨q, 0, none⟩)) ∧ (∀ q, p[1]? = some (some q) → z2 = .pointer (some ⟨q, 0, none⟩)) ∧ (∀ q, p[2]? = some (some q) → z3 = .pointer (some ⟨q, 0, none⟩)) ∧ OwnF w l [#[.float .f64 0, .float .f64 0], #[.float .f64 0, .float .f64 0], #[.float .f64 0, .float .f64 0]] p v := by
  obtain ⟨y1, y2, y3, z1, z2, z3, ha, E1, E2, E3, G1, G2, G3, h⟩ := h
  obtain rfl := E1 (by decide)
  exact ⟨y2, y3, z1, z2, z3, ha, G1, G2, G3, h⟩
theorem gwerrJ2_2 (h : gwerrJ2 w il ih ol oh al ah l a0 2 p a v) : ∃ y3 z1 z2 z3 : Value, a = ((((((a0.put (some 34) (.agg #[.float .f64 il, .float .f64 ih])).put (some 39) (.agg #[.float .f64 ol, .float .f64 oh])).put (some 44) y3).put (some 6) z1).put (some 7) z2).put (some 8) z3) ∧ (∀ q, p[0]? = some (some q) → z1 = .pointer (some ⟨q, 0, none⟩)) ∧ (∀ q, p[1]? = some (some q) → z2 = .pointer (some ⟨q, 0, none⟩)) ∧ (∀ q, p[2]? = some (some q) → z3 = .pointer (some ⟨q, 0, none⟩)) ∧ OwnF w l [#[.float .f64 0, .float .f64 0], #[.float .f64 0, .float .f64 0], #[.float .f64 0, .float .f64 0]] p v := by
  obtain ⟨y1, y2, y3, z1, z2, z3, ha, E1, E2, E3, G1, G2, G3, h⟩ := h
  obtain rfl := E1 (by decide)
  obtain rfl := E2 (by decide)
  exact ⟨y3, z1, z2, z3, ha, G1, G2, G3, h⟩
theorem gwerrJ2_fin {q1 q2 q3 : Nat} (h : gwerrJ2 w il ih ol oh al ah l a0 3 [some q1, some q2, some q3] a v) : a = ((((((a0.put (some 34) (.agg #[.float .f64 il, .float .f64 ih])).put (some 39) (.agg #[.float .f64 ol, .float .f64 oh])).put (some 44) (.agg #[.float .f64 al, .float .f64 ah])).put (some 6) (.pointer (some ⟨q1, 0, none⟩))).put (some 7) (.pointer (some ⟨q2, 0, none⟩))).put (some 8) (.pointer (some ⟨q3, 0, none⟩))) ∧ OwnF w l [#[.float .f64 0, .float .f64 0], #[.float .f64 0, .float .f64 0], #[.float .f64 0, .float .f64 0]] [some q1, some q2, some q3] v := by
  obtain ⟨y1, y2, y3, z1, z2, z3, ha, E1, E2, E3, G1, G2, G3, h⟩ := h
  obtain rfl := E1 (by decide)
  obtain rfl := E2 (by decide)
  obtain rfl := E3 (by decide)
  obtain rfl := G1 _ rfl
  obtain rfl := G2 _ rfl
  obtain rfl := G3 _ rfl
  exact ⟨ha, h⟩
end

/-- Region 3. -/
def gwerrJ3 (w : World) (xl xh yl yh zl zh : Nat) (l : RowL) (a0 : Act) (k : Nat) (p : List (Option Nat)) (a : Act) (v : World) : Prop :=
  ∃ y1 y2 y3 z1 z2 z3 : Value, a = ((((((a0.put (some 47) y1).put (some 50) y2).put (some 53) y3).put (some 9) z1).put (some 10) z2).put (some 11) z3) ∧ (0 < k → y1 = .agg #[.float .f64 xl, .float .f64 xh]) ∧ (1 < k → y2 = .agg #[.float .f64 yl, .float .f64 yh]) ∧ (2 < k → y3 = .agg #[.float .f64 zl, .float .f64 zh]) ∧ (∀ q, p[0]? = some (some q) → z1 = .pointer (some ⟨q, 0, none⟩)) ∧ (∀ q, p[1]? = some (some q) → z2 = .pointer (some ⟨q, 0, none⟩)) ∧ (∀ q, p[2]? = some (some q) → z3 = .pointer (some ⟨q, 0, none⟩)) ∧ OwnF w l [#[.float .f64 0, .float .f64 0], #[.float .f64 0, .float .f64 0], #[.float .f64 0, .float .f64 0]] p v
section
variable {w v : World} {xl xh yl yh zl zh : Nat} {l : RowL} {a0 a : Act} {p : List (Option Nat)}
theorem gwerrJ3_0 (h : gwerrJ3 w xl xh yl yh zl zh l a0 0 p a v) : ∃ y1 y2 y3 z1 z2 z3 : Value, a = ((((((a0.put (some 47) y1).put (some 50) y2).put (some 53) y3).put (some 9) z1).put (some 10) z2).put (some 11) z3) ∧ (∀ q, p[0]? = some (some q) → z1 = .pointer (some ⟨q, 0, none⟩)) ∧ (∀ q, p[1]? = some (some q) → z2 = .pointer (some ⟨q, 0, none⟩)) ∧ (∀ q, p[2]? = some (some q) → z3 = .pointer (some ⟨q, 0, none⟩)) ∧ OwnF w l [#[.float .f64 0, .float .f64 0], #[.float .f64 0, .float .f64 0], #[.float .f64 0, .float .f64 0]] p v := by
  obtain ⟨y1, y2, y3, z1, z2, z3, ha, E1, E2, E3, G1, G2, G3, h⟩ := h
  exact ⟨y1, y2, y3, z1, z2, z3, ha, G1, G2, G3, h⟩
theorem gwerrJ3_1 (h : gwerrJ3 w xl xh yl yh zl zh l a0 1 p a v) : ∃ y2 y3 z1 z2 z3 : Value, a = ((((((a0.put (some 47) (.agg #[.float .f64 xl, .float .f64 xh])).put (some 50) y2).put (some 53) y3).put (some 9) z1).put (some 10) z2).put (some 11) z3) ∧ (∀ q, p[0]? = some (some q) → z1 = .pointer (some ⟨q, 0, none⟩)) ∧ (∀ q, p[1]? = some (some q) → z2 = .pointer (some ⟨q, 0, none⟩)) ∧ (∀ q, p[2]? = some (some q) → z3 = .pointer (some ⟨q, 0, none⟩)) ∧ OwnF w l [#[.float .f64 0, .float .f64 0], #[.float .f64 0, .float .f64 0], #[.float .f64 0, .float .f64 0]] p v := by
  obtain ⟨y1, y2, y3, z1, z2, z3, ha, E1, E2, E3, G1, G2, G3, h⟩ := h
  obtain rfl := E1 (by decide)
  exact ⟨y2, y3, z1, z2, z3, ha, G1, G2, G3, h⟩
theorem gwerrJ3_2 (h : gwerrJ3 w xl xh yl yh zl zh l a0 2 p a v) : ∃ y3 z1 z2 z3 : Value, a = ((((((a0.put (some 47) (.agg #[.float .f64 xl, .float .f64 xh])).put (some 50) (.agg #[.float .f64 yl, .float .f64 yh])).put (some 53) y3).put (some 9) z1).put (some 10) z2).put (some 11) z3) ∧ (∀ q, p[0]? = some (some q) → z1 = .pointer (some ⟨q, 0, none⟩)) ∧ (∀ q, p[1]? = some (some q) → z2 = .pointer (some ⟨q, 0, none⟩)) ∧ (∀ q, p[2]? = some (some q) → z3 = .pointer (some ⟨q, 0, none⟩)) ∧ OwnF w l [#[.float .f64 0, .float .f64 0], #[.float .f64 0, .float .f64 0], #[.float .f64 0, .float .f64 0]] p v := by
  obtain ⟨y1, y2, y3, z1, z2, z3, ha, E1, E2, E3, G1, G2, G3, h⟩ := h
  obtain rfl := E1 (by decide)
  obtain rfl := E2 (by decide)
  exact ⟨y3, z1, z2, z3, ha, G1, G2, G3, h⟩
theorem gwerrJ3_fin {q1 q2 q3 : Nat} (h : gwerrJ3 w xl xh yl yh zl zh l a0 3 [some q1, some q2, some q3] a v) : a = ((((((a0.put (some 47) (.agg #[.float .f64 xl, .float .f64 xh])).put (some 50) (.agg #[.float .f64 yl, .float .f64 yh])).put (some 53) (.agg #[.float .f64 zl, .float .f64 zh])).put (some 9) (.pointer (some ⟨q1, 0, none⟩))).put (some 10) (.pointer (some ⟨q2, 0, none⟩))).put (some 11) (.pointer (some ⟨q3, 0, none⟩))) ∧ OwnF w l [#[.float .f64 0, .float .f64 0], #[.float .f64 0, .float .f64 0], #[.float .f64 0, .float .f64 0]] [some q1, some q2, some q3] v := by
  obtain ⟨y1, y2, y3, z1, z2, z3, ha, E1, E2, E3, G1, G2, G3, h⟩ := h
  obtain rfl := E1 (by decide)
  obtain rfl := E2 (by decide)
  obtain rfl := E3 (by decide)
  obtain rfl := G1 _ rfl
  obtain rfl := G2 _ rfl
  obtain rfl := G3 _ rfl
  exact ⟨ha, h⟩
end

set_option maxRecDepth 100000 in
set_option maxHeartbeats 16000000 in
theorem gwithin_err {u0 u1 u2 u3 u4 u5 v0 v1 v2 v3 v4 v5 il ih ol oh al ah xl xh yl yh zl zh dl dh gl gh ll lh ml mh nl nh ql qh sl sh tl th : Nat} {ep eq er es : Int} (w : World)
    (c1 : Hid (∀ w, Calls Try.prog 29 #[.float .f64 0, .float .f64 4607182418800017408, .int .u32 u0, .int .u32 u1] w fun r w' => r = .returned (.agg #[.float .f64 il, .float .f64 ih]) ∧ Below w.heap.size w w'))
    (c2 : Hid (∀ w, Calls Try.prog 29 #[.float .f64 0, .float .f64 4607182418800017408, .int .u32 u2, .int .u32 u3] w fun r w' => r = .returned (.agg #[.float .f64 ol, .float .f64 oh]) ∧ Below w.heap.size w w'))
    (c3 : Hid (∀ w, Calls Try.prog 29 #[.float .f64 4584664420663164928, .float .f64 4607182418800017408, .int .u32 u4, .int .u32 u5] w fun r w' => r = .returned (.agg #[.float .f64 al, .float .f64 ah]) ∧ Below w.heap.size w w'))
    (c4 : Hid (∀ (q : Nat) (v : World), Has1 v (q, #[.int .u32 v0, .int .u32 v1, .int .u32 v2, .int .u32 v3, .int .u32 v4, .int .u32 v5]) → Calls Try.prog 28 #[.agg #[.float .f64 il, .float .f64 ih], .int .i64 0, .pointer (some ⟨q, 0, none⟩)] v fun r w' => r = .returned (.agg #[.float .f64 xl, .float .f64 xh]) ∧ Below v.heap.size v w'))
    (c5 : Hid (∀ (q : Nat) (v : World), Has1 v (q, #[.int .u32 v0, .int .u32 v1, .int .u32 v2, .int .u32 v3, .int .u32 v4, .int .u32 v5]) → Calls Try.prog 28 #[.agg #[.float .f64 ol, .float .f64 oh], .int .i64 2, .pointer (some ⟨q, 0, none⟩)] v fun r w' => r = .returned (.agg #[.float .f64 yl, .float .f64 yh]) ∧ Below v.heap.size v w'))
    (c6 : Hid (∀ (q : Nat) (v : World), Has1 v (q, #[.int .u32 v0, .int .u32 v1, .int .u32 v2, .int .u32 v3, .int .u32 v4, .int .u32 v5]) → Calls Try.prog 28 #[.agg #[.float .f64 al, .float .f64 ah], .int .i64 4, .pointer (some ⟨q, 0, none⟩)] v fun r w' => r = .returned (.agg #[.float .f64 zl, .float .f64 zh]) ∧ Below v.heap.size v w'))
    (c7 : Hid (∀ w, Calls Try.prog 21 #[.agg #[.float .f64 il, .float .f64 ih], .agg #[.float .f64 al, .float .f64 ah]] w fun r w' => r = .returned (.tuple #[.agg #[.float .f64 dl, .float .f64 dh], .int .i64 0]) ∧ Below w.heap.size w w'))
    (c8 : Hid (∀ w, Calls Try.prog 21 #[.agg #[.float .f64 xl, .float .f64 xh], .agg #[.float .f64 zl, .float .f64 zh]] w fun r w' => r = .returned (.tuple #[.agg #[.float .f64 gl, .float .f64 gh], .int .i64 0]) ∧ Below w.heap.size w w'))
    (c9 : Hid (∀ w, Calls Try.prog 32 #[.agg #[.float .f64 il, .float .f64 ih], .agg #[.float .f64 al, .float .f64 ah]] w fun r w' => r = .returned (.tuple #[.agg #[.float .f64 ll, .float .f64 lh], .int .i64 ep]) ∧ Below w.heap.size w w'))
    (c10 : Hid (∀ w, Calls Try.prog 32 #[.agg #[.float .f64 xl, .float .f64 xh], .agg #[.float .f64 zl, .float .f64 zh]] w fun r w' => r = .returned (.tuple #[.agg #[.float .f64 ml, .float .f64 mh], .int .i64 eq]) ∧ Below w.heap.size w w'))
    (c11 : Hid (∀ w, Calls Try.prog 26 #[.agg #[.float .f64 il, .float .f64 ih], .agg #[.float .f64 ol, .float .f64 oh], .agg #[.float .f64 al, .float .f64 ah]] w fun r w' => r = .returned (.tuple #[.agg #[.float .f64 nl, .float .f64 nh], .int .i64 er]) ∧ Below w.heap.size w w'))
    (c12 : Hid (∀ w, Calls Try.prog 26 #[.agg #[.float .f64 xl, .float .f64 xh], .agg #[.float .f64 yl, .float .f64 yh], .agg #[.float .f64 zl, .float .f64 zh]] w fun r w' => r = .returned (.tuple #[.agg #[.float .f64 ql, .float .f64 qh], .int .i64 es]) ∧ Below w.heap.size w w'))
    (c13 : Hid (∀ w, Calls Try.prog 17 #[.agg #[.float .f64 il, .float .f64 ih], .agg #[.float .f64 al, .float .f64 ah]] w fun r w' => r = .returned (.tuple #[.agg #[.float .f64 sl, .float .f64 sh], .int .i64 0]) ∧ Below w.heap.size w w'))
    (c14 : Hid (∀ w, Calls Try.prog 17 #[.agg #[.float .f64 xl, .float .f64 xh], .agg #[.float .f64 zl, .float .f64 zh]] w fun r w' => r = .returned (.tuple #[.agg #[.float .f64 tl, .float .f64 th], .int .i64 0]) ∧ Below w.heap.size w w'))
    (c15 : Hid (∀ w, Calls Try.prog 30 #[.agg #[.float .f64 dl, .float .f64 dh], .int .i64 0, .agg #[.float .f64 gl, .float .f64 gh], .int .i64 0] w fun r w' => r = .returned (.bool true) ∧ Below w.heap.size w w'))
    (c16 : Hid (∀ w, Calls Try.prog 30 #[.agg #[.float .f64 ll, .float .f64 lh], .int .i64 ep, .agg #[.float .f64 ml, .float .f64 mh], .int .i64 eq] w fun r w' => r = .returned (.bool true) ∧ Below w.heap.size w w'))
    (c17 : Hid (∀ w, Calls Try.prog 30 #[.agg #[.float .f64 nl, .float .f64 nh], .int .i64 er, .agg #[.float .f64 ql, .float .f64 qh], .int .i64 es] w fun r w' => r = .returned (.bool true) ∧ Below w.heap.size w w'))
    (c18 : Hid (∀ w, Calls Try.prog 30 #[.agg #[.float .f64 sl, .float .f64 sh], .int .i64 0, .agg #[.float .f64 tl, .float .f64 th], .int .i64 0] w fun r w' => r = .returned (.bool true) ∧ Below w.heap.size w w'))
    (c19 : Hid (∀ w, Calls Try.prog 24 #[] w fun r w' => r = .returned (.bool true) ∧ Below w.heap.size w w')) :
    Calls Try.prog 6 #[.agg #[.int .u32 u0, .int .u32 u1, .int .u32 u2, .int .u32 u3, .int .u32 u4, .int .u32 u5], .agg #[.int .u32 v0, .int .u32 v1, .int .u32 v2, .int .u32 v3, .int .u32 v4, .int .u32 v5]] w fun r w' => r = .returned (.bool true) ∧ Below w.heap.size w w' := by
  have M := Lib.hid (((Own.nil w).made #[.int .u32 u0, .int .u32 u1, .int .u32 u2, .int .u32 u3, .int .u32 u4, .int .u32 u5] 55).made #[.int .u32 v0, .int .u32 v1, .int .u32 v2, .int .u32 v3, .int .u32 v4, .int .u32 v5] 55)
  simp only [World.size_alloc] at M
  have eqF := eq_floats
  go_enter Try.func6, Try.ntmps6
  go_upto_region 2 with fail
  replace M := Lib.hid M.out.drew
  refine wp_region_noPanic ?_
  refine tails_region (S := fun w' => (w'.cell? ⟨w.heap.size, 0, none⟩ = some (.int .u32 u0) ∧ w'.cell? ⟨w.heap.size, 1, none⟩ = some (.int .u32 u1) ∧ w'.cell? ⟨w.heap.size, 2, none⟩ = some (.int .u32 u2) ∧ w'.cell? ⟨w.heap.size, 3, none⟩ = some (.int .u32 u3) ∧ w'.cell? ⟨w.heap.size, 4, none⟩ = some (.int .u32 u4) ∧ w'.cell? ⟨w.heap.size, 5, none⟩ = some (.int .u32 u5))) [] (by kernel_rfl) ?_ (fun hS => ?_)
  · exact (M.out.nth 1 rfl).six
  refine tk (x := ?_) 0 rfl (by kernel_rfl) ⟨by kernel_rfl, ?_⟩ (fun _ _ _ h => h) hS ?_
  rotate_left; focus (intro w hSw; (try dsimp only at hSw); go_simp; try with_reducible rfl)
  refine tk (x := ?_) 1 rfl (by kernel_rfl) ⟨by kernel_rfl, ?_⟩ (fun _ _ _ h => h) hS ?_
  rotate_left; focus (intro w hSw; (try dsimp only at hSw); go_simp; try with_reducible rfl)
  refine tk (x := ?_) 2 rfl (by kernel_rfl) ⟨by kernel_rfl, ?_⟩ (fun _ _ _ h => h) hS ?_
  rotate_left; focus (intro w hSw; (try dsimp only at hSw); go_simp; try with_reducible rfl)
  refine tk (x := ?_) 3 rfl (by kernel_rfl) ⟨by kernel_rfl, ?_⟩ (fun _ _ _ h => h) hS ?_
  rotate_left; focus (intro w hSw; (try dsimp only at hSw); go_simp; try with_reducible rfl)
  refine tk (x := ?_) 5 rfl (by kernel_rfl) ⟨by kernel_rfl, ?_⟩ (fun _ _ _ h => h) hS ?_
  rotate_left; focus (intro w hSw; (try dsimp only at hSw); go_simp; try with_reducible rfl)
  refine tk (x := ?_) 6 rfl (by kernel_rfl) ⟨by kernel_rfl, ?_⟩ (fun _ _ _ h => h) hS ?_
  rotate_left; focus (intro w hSw; (try dsimp only at hSw); go_simp; try with_reducible rfl)
  refine tk (x := ?_) 7 rfl (by kernel_rfl) ⟨by kernel_rfl, ?_⟩ (fun _ _ _ h => h) hS ?_
  rotate_left; focus (intro w hSw; (try dsimp only at hSw); go_simp; try with_reducible rfl)
  refine tk (x := ?_) 8 rfl (by kernel_rfl) ⟨by kernel_rfl, ?_⟩ (fun _ _ _ h => h) hS ?_
  rotate_left; focus (intro w hSw; (try dsimp only at hSw); go_simp; try with_reducible rfl)
  refine tk (x := ?_) 10 rfl (by kernel_rfl) ⟨by kernel_rfl, ?_⟩ (fun _ _ _ h => h) hS ?_
  rotate_left; focus (intro w hSw; (try dsimp only at hSw); go_simp; try with_reducible rfl)
  refine tk (x := ?_) 11 rfl (by kernel_rfl) ⟨by kernel_rfl, ?_⟩ (fun _ _ _ h => h) hS ?_
  rotate_left; focus (intro w hSw; (try dsimp only at hSw); go_simp; try with_reducible rfl)
  refine tk (x := ?_) 12 rfl (by kernel_rfl) ⟨by kernel_rfl, ?_⟩ (fun _ _ _ h => h) hS ?_
  rotate_left; focus (intro w hSw; (try dsimp only at hSw); go_simp; try with_reducible rfl)
  refine tk (x := ?_) 13 rfl (by kernel_rfl) ⟨by kernel_rfl, ?_⟩ (fun _ _ _ h => h) hS ?_
  rotate_left; focus (intro w hSw; (try dsimp only at hSw); go_simp; try with_reducible rfl)
  conv => arg 9; simp only [Act.put, go_sem]
  refine lp_ccc_3 M 4 9 14 15 16 17 [34, 39, 44, 6, 7, 8] 3 (gwerrJ2 w il ih ol oh al ah) (by kernel_rfl) (by kernel_rfl) ?_ ?_ ?_ ?_ ?_ ?_ ?_ ?_ ?_
  · intro A hA
    obtain ⟨y1, hq1⟩ := put_ex (hA 34 (by simp))
    obtain ⟨y2, hq2⟩ := put_ex (hA 39 (by simp))
    obtain ⟨y3, hq3⟩ := put_ex (hA 44 (by simp))
    obtain ⟨z1, hq4⟩ := put_ex (hA 6 (by simp))
    obtain ⟨z2, hq5⟩ := put_ex (hA 7 (by simp))
    obtain ⟨z3, hq6⟩ := put_ex (hA 8 (by simp))
    exact ⟨y1, y2, y3, z1, z2, z3, by rw [hq1, hq2, hq3, hq4, hq5, hq6], by omega, by omega, by omega, by simp, by simp, by simp, OwnF.start M.out 3⟩
  · rintro k p a v ⟨y1, y2, y3, z1, z2, z3, _, _, _, _, _, _, _, h⟩
    exact (h.own.nth 1 rfl).six
  · intro p a v hJ
    refine op_step (o := _) rfl (fun K hK => ?_)
    obtain ⟨y1, y2, y3, z1, z2, z3, ha, gg1, gg2, gg3, h⟩ := gwerrJ2_0 hJ
    have h := Lib.hid h
    clear hJ
    subst ha
    go_simp
    refine (c1.out _).mono ?_
    rintro rr w5 ⟨rfl, hp⟩
    try go_wp2_with fail
    refine hK.out _ _ ⟨_, y2, y3, z1, z2, z3, ?_, fun _ => rfl, by omega, by omega, gg1, gg2, gg3, h.out.below hp⟩
    kernel_rfl
  · intro p a v hJ
    refine op_step (o := _) rfl (fun K hK => ?_)
    obtain ⟨y2, y3, z1, z2, z3, ha, gg1, gg2, gg3, h⟩ := gwerrJ2_1 hJ
    have h := Lib.hid h
    clear hJ
    subst ha
    go_simp
    refine (c2.out _).mono ?_
    rintro rr w5 ⟨rfl, hp⟩
    try go_wp2_with fail
    refine hK.out _ _ ⟨_, _, y3, z1, z2, z3, ?_, fun _ => rfl, fun _ => rfl, by omega, gg1, gg2, gg3, h.out.below hp⟩
    kernel_rfl
  · intro p a v hJ
    refine op_step (o := _) rfl (fun K hK => ?_)
    obtain ⟨y3, z1, z2, z3, ha, gg1, gg2, gg3, h⟩ := gwerrJ2_2 hJ
    have h := Lib.hid h
    clear hJ
    subst ha
    go_simp
    refine (c3.out _).mono ?_
    rintro rr w5 ⟨rfl, hp⟩
    try go_wp2_with fail
    refine hK.out _ _ ⟨_, _, _, z1, z2, z3, ?_, fun _ => rfl, fun _ => rfl, fun _ => rfl, gg1, gg2, gg3, h.out.below hp⟩
    kernel_rfl
  · intro k p a v hp hJ
    refine op_step (o := _) rfl (fun K hK => ?_)
    obtain ⟨y1, y2, y3, z1, z2, z3, ha, ee1, ee2, ee3, gg1, gg2, gg3, h⟩ := hJ
    have h := Lib.hid h
    subst ha
    go_simp
    refine hK.out _ _ ⟨v.heap.size, y1, y2, y3, .pointer (some ⟨v.heap.size, 0, none⟩), z2, z3, ?_, ee1, ee2, ee3, fun q hq => ptr_set hq, ptr_keep 1 (by decide) gg2, ptr_keep 2 (by decide) gg3, h.out.alloc hp rfl _⟩
    kernel_rfl
  · intro k p a v hp hJ
    refine op_step (o := _) rfl (fun K hK => ?_)
    obtain ⟨y1, y2, y3, z1, z2, z3, ha, ee1, ee2, ee3, gg1, gg2, gg3, h⟩ := hJ
    have h := Lib.hid h
    subst ha
    go_simp
    refine hK.out _ _ ⟨v.heap.size, y1, y2, y3, z1, .pointer (some ⟨v.heap.size, 0, none⟩), z3, ?_, ee1, ee2, ee3, ptr_keep 0 (by decide) gg1, fun q hq => ptr_set hq, ptr_keep 2 (by decide) gg3, h.out.alloc hp rfl _⟩
    kernel_rfl
  · intro k p a v hp hJ
    refine op_step (o := _) rfl (fun K hK => ?_)
    obtain ⟨y1, y2, y3, z1, z2, z3, ha, ee1, ee2, ee3, gg1, gg2, gg3, h⟩ := hJ
    have h := Lib.hid h
    subst ha
    go_simp
    refine hK.out _ _ ⟨v.heap.size, y1, y2, y3, z1, z2, .pointer (some ⟨v.heap.size, 0, none⟩), ?_, ee1, ee2, ee3, ptr_keep 0 (by decide) gg1, ptr_keep 1 (by decide) gg2, fun q hq => ptr_set hq, h.out.alloc hp rfl _⟩
    kernel_rfl
  intro p2_1 p2_2 p2_3 a v hJ
  obtain ⟨rfl, h⟩ := gwerrJ2_fin hJ
  clear hJ
  replace M := Lib.hid h.fin3
  clear h
  refine tails_one (T := []) (i := 18) (o := _) rfl (by kernel_rfl) (fun K hK => ?_)
  have kc := (M.out.nth 0 rfl).2.1
  have kf := (M.out.nth 0 rfl).2.2
  replace M : Hid (Own w [(p2_1, #[.float .f64 il, .float .f64 ih]), (p2_2, #[.float .f64 0, .float .f64 0]), (p2_3, #[.float .f64 0, .float .f64 0]), ((w.heap.size + 1), #[.int .u32 v0, .int .u32 v1, .int .u32 v2, .int .u32 v3, .int .u32 v4, .int .u32 v5]), (w.heap.size, #[.int .u32 u0, .int .u32 u1, .int .u32 u2, .int .u32 u3, .int .u32 u4, .int .u32 u5])] _) := Lib.hid (M.out.set2 0 rfl (.float .f64 il) (.float .f64 ih))
  go_simp
  refine hK.out _ _ (Or.inr (M.out.nth 4 rfl).six) (fun hHeld => ?_)
  clear hK K hHeld kc kf
  refine tails_one (T := []) (i := 19) (o := _) rfl (by kernel_rfl) (fun K hK => ?_)
  have kc := (M.out.nth 1 rfl).2.1
  have kf := (M.out.nth 1 rfl).2.2
  replace M : Hid (Own w [(p2_1, #[.float .f64 il, .float .f64 ih]), (p2_2, #[.float .f64 ol, .float .f64 oh]), (p2_3, #[.float .f64 0, .float .f64 0]), ((w.heap.size + 1), #[.int .u32 v0, .int .u32 v1, .int .u32 v2, .int .u32 v3, .int .u32 v4, .int .u32 v5]), (w.heap.size, #[.int .u32 u0, .int .u32 u1, .int .u32 u2, .int .u32 u3, .int .u32 u4, .int .u32 u5])] _) := Lib.hid (M.out.set2 1 rfl (.float .f64 ol) (.float .f64 oh))
  go_simp
  refine hK.out _ _ (Or.inr (M.out.nth 4 rfl).six) (fun hHeld => ?_)
  clear hK K hHeld kc kf
  refine tails_one (T := []) (i := 20) (o := _) rfl (by kernel_rfl) (fun K hK => ?_)
  have kc := (M.out.nth 2 rfl).2.1
  have kf := (M.out.nth 2 rfl).2.2
  replace M : Hid (Own w [(p2_1, #[.float .f64 il, .float .f64 ih]), (p2_2, #[.float .f64 ol, .float .f64 oh]), (p2_3, #[.float .f64 al, .float .f64 ah]), ((w.heap.size + 1), #[.int .u32 v0, .int .u32 v1, .int .u32 v2, .int .u32 v3, .int .u32 v4, .int .u32 v5]), (w.heap.size, #[.int .u32 u0, .int .u32 u1, .int .u32 u2, .int .u32 u3, .int .u32 u4, .int .u32 u5])] _) := Lib.hid (M.out.set2 2 rfl (.float .f64 al) (.float .f64 ah))
  go_simp
  refine hK.out _ _ (Or.inr (M.out.nth 4 rfl).six) (fun hHeld => ?_)
  clear hK K hHeld kc kf
  refine tails_done (by kernel_rfl) ?_ _
  refine NoPanic.normal ?_
  clear hS
  revert M
  generalize ((((((v.setCell ⟨p2_1, 0, none⟩ (.float .f64 il)).setCell ⟨p2_1, 1, none⟩ (.float .f64 ih)).setCell ⟨p2_2, 0, none⟩ (.float .f64 ol)).setCell ⟨p2_2, 1, none⟩ (.float .f64 oh)).setCell ⟨p2_3, 0, none⟩ (.float .f64 al)).setCell ⟨p2_3, 1, none⟩ (.float .f64 ah)) = W1_
  intro M
  go_upto_region 3 with fail
  replace M := Lib.hid M.out.drew
  refine wp_region_noPanic ?_
  refine tails_region (S := fun w' => (w'.cell? ⟨p2_1, 0, none⟩ = some (.float .f64 il) ∧ w'.cell? ⟨p2_1, 1, none⟩ = some (.float .f64 ih)) ∧ (w'.cell? ⟨p2_2, 0, none⟩ = some (.float .f64 ol) ∧ w'.cell? ⟨p2_2, 1, none⟩ = some (.float .f64 oh)) ∧ (w'.cell? ⟨p2_3, 0, none⟩ = some (.float .f64 al) ∧ w'.cell? ⟨p2_3, 1, none⟩ = some (.float .f64 ah))) [] (by kernel_rfl) ?_ (fun hS => ?_)
  · exact ⟨(M.out.nth 0 rfl).two, (M.out.nth 1 rfl).two, (M.out.nth 2 rfl).two⟩
  refine tk (x := ?_) 0 rfl (by kernel_rfl) ⟨by kernel_rfl, ?_⟩ (fun _ _ _ h => h) hS ?_
  rotate_left; focus (intro w hSw; (try dsimp only at hSw); go_simp; try with_reducible rfl)
  refine tk (x := ?_) 1 rfl (by kernel_rfl) ⟨by kernel_rfl, ?_⟩ (fun _ _ _ h => h) hS ?_
  rotate_left; focus (intro w hSw; (try dsimp only at hSw); go_simp; try with_reducible rfl)
  refine tk (x := ?_) 3 rfl (by kernel_rfl) ⟨by kernel_rfl, ?_⟩ (fun _ _ _ h => h) hS ?_
  rotate_left; focus (intro w hSw; (try dsimp only at hSw); go_simp; try with_reducible rfl)
  refine tk (x := ?_) 4 rfl (by kernel_rfl) ⟨by kernel_rfl, ?_⟩ (fun _ _ _ h => h) hS ?_
  rotate_left; focus (intro w hSw; (try dsimp only at hSw); go_simp; try with_reducible rfl)
  refine tk (x := ?_) 6 rfl (by kernel_rfl) ⟨by kernel_rfl, ?_⟩ (fun _ _ _ h => h) hS ?_
  rotate_left; focus (intro w hSw; (try dsimp only at hSw); go_simp; try with_reducible rfl)
  refine tk (x := ?_) 7 rfl (by kernel_rfl) ⟨by kernel_rfl, ?_⟩ (fun _ _ _ h => h) hS ?_
  rotate_left; focus (intro w hSw; (try dsimp only at hSw); go_simp; try with_reducible rfl)
  conv => arg 9; simp only [Act.put, go_sem]
  refine lp_ccc_3 M 2 5 8 9 10 11 [47, 50, 53, 9, 10, 11] 3 (gwerrJ3 w xl xh yl yh zl zh) (by kernel_rfl) (by kernel_rfl) ?_ ?_ ?_ ?_ ?_ ?_ ?_ ?_ ?_
  · intro A hA
    obtain ⟨y1, hq1⟩ := put_ex (hA 47 (by simp))
    obtain ⟨y2, hq2⟩ := put_ex (hA 50 (by simp))
    obtain ⟨y3, hq3⟩ := put_ex (hA 53 (by simp))
    obtain ⟨z1, hq4⟩ := put_ex (hA 9 (by simp))
    obtain ⟨z2, hq5⟩ := put_ex (hA 10 (by simp))
    obtain ⟨z3, hq6⟩ := put_ex (hA 11 (by simp))
    exact ⟨y1, y2, y3, z1, z2, z3, by rw [hq1, hq2, hq3, hq4, hq5, hq6], by omega, by omega, by omega, by simp, by simp, by simp, OwnF.start M.out 3⟩
  · rintro k p a v ⟨y1, y2, y3, z1, z2, z3, _, _, _, _, _, _, _, h⟩
    exact ⟨(h.own.nth 0 rfl).two, (h.own.nth 1 rfl).two, (h.own.nth 2 rfl).two⟩
  · intro p a v hJ
    refine op_step (o := _) rfl (fun K hK => ?_)
    obtain ⟨y1, y2, y3, z1, z2, z3, ha, gg1, gg2, gg3, h⟩ := gwerrJ3_0 hJ
    have h := Lib.hid h
    clear hJ
    subst ha
    go_simp
    refine (c4.out _ _ (h.out.own.nth 3 rfl)).mono ?_
    rintro rr w5 ⟨rfl, hp⟩
    try go_wp2_with fail
    refine hK.out _ _ ⟨_, y2, y3, z1, z2, z3, ?_, fun _ => rfl, by omega, by omega, gg1, gg2, gg3, h.out.below hp⟩
    kernel_rfl
  · intro p a v hJ
    refine op_step (o := _) rfl (fun K hK => ?_)
    obtain ⟨y2, y3, z1, z2, z3, ha, gg1, gg2, gg3, h⟩ := gwerrJ3_1 hJ
    have h := Lib.hid h
    clear hJ
    subst ha
    go_simp
    refine (c5.out _ _ (h.out.own.nth 3 rfl)).mono ?_
    rintro rr w5 ⟨rfl, hp⟩
    try go_wp2_with fail
    refine hK.out _ _ ⟨_, _, y3, z1, z2, z3, ?_, fun _ => rfl, fun _ => rfl, by omega, gg1, gg2, gg3, h.out.below hp⟩
    kernel_rfl
  · intro p a v hJ
    refine op_step (o := _) rfl (fun K hK => ?_)
    obtain ⟨y3, z1, z2, z3, ha, gg1, gg2, gg3, h⟩ := gwerrJ3_2 hJ
    have h := Lib.hid h
    clear hJ
    subst ha
    go_simp
    refine (c6.out _ _ (h.out.own.nth 3 rfl)).mono ?_
    rintro rr w5 ⟨rfl, hp⟩
    try go_wp2_with fail
    refine hK.out _ _ ⟨_, _, _, z1, z2, z3, ?_, fun _ => rfl, fun _ => rfl, fun _ => rfl, gg1, gg2, gg3, h.out.below hp⟩
    kernel_rfl
  · intro k p a v hp hJ
    refine op_step (o := _) rfl (fun K hK => ?_)
    obtain ⟨y1, y2, y3, z1, z2, z3, ha, ee1, ee2, ee3, gg1, gg2, gg3, h⟩ := hJ
    have h := Lib.hid h
    subst ha
    go_simp
    refine hK.out _ _ ⟨v.heap.size, y1, y2, y3, .pointer (some ⟨v.heap.size, 0, none⟩), z2, z3, ?_, ee1, ee2, ee3, fun q hq => ptr_set hq, ptr_keep 1 (by decide) gg2, ptr_keep 2 (by decide) gg3, h.out.alloc hp rfl _⟩
    kernel_rfl
  · intro k p a v hp hJ
    refine op_step (o := _) rfl (fun K hK => ?_)
    obtain ⟨y1, y2, y3, z1, z2, z3, ha, ee1, ee2, ee3, gg1, gg2, gg3, h⟩ := hJ
    have h := Lib.hid h
    subst ha
    go_simp
    refine hK.out _ _ ⟨v.heap.size, y1, y2, y3, z1, .pointer (some ⟨v.heap.size, 0, none⟩), z3, ?_, ee1, ee2, ee3, ptr_keep 0 (by decide) gg1, fun q hq => ptr_set hq, ptr_keep 2 (by decide) gg3, h.out.alloc hp rfl _⟩
    kernel_rfl
  · intro k p a v hp hJ
    refine op_step (o := _) rfl (fun K hK => ?_)
    obtain ⟨y1, y2, y3, z1, z2, z3, ha, ee1, ee2, ee3, gg1, gg2, gg3, h⟩ := hJ
    have h := Lib.hid h
    subst ha
    go_simp
    refine hK.out _ _ ⟨v.heap.size, y1, y2, y3, z1, z2, .pointer (some ⟨v.heap.size, 0, none⟩), ?_, ee1, ee2, ee3, ptr_keep 0 (by decide) gg1, ptr_keep 1 (by decide) gg2, fun q hq => ptr_set hq, h.out.alloc hp rfl _⟩
    kernel_rfl
  intro p3_1 p3_2 p3_3 a v hJ
  obtain ⟨rfl, h⟩ := gwerrJ3_fin hJ
  clear hJ
  replace M := Lib.hid h.fin3
  clear h
  refine tails_one (T := []) (i := 12) (o := _) rfl (by kernel_rfl) (fun K hK => ?_)
  have kc := (M.out.nth 0 rfl).2.1
  have kf := (M.out.nth 0 rfl).2.2
  replace M : Hid (Own w [(p3_1, #[.float .f64 xl, .float .f64 xh]), (p3_2, #[.float .f64 0, .float .f64 0]), (p3_3, #[.float .f64 0, .float .f64 0]), (p2_1, #[.float .f64 il, .float .f64 ih]), (p2_2, #[.float .f64 ol, .float .f64 oh]), (p2_3, #[.float .f64 al, .float .f64 ah]), ((w.heap.size + 1), #[.int .u32 v0, .int .u32 v1, .int .u32 v2, .int .u32 v3, .int .u32 v4, .int .u32 v5]), (w.heap.size, #[.int .u32 u0, .int .u32 u1, .int .u32 u2, .int .u32 u3, .int .u32 u4, .int .u32 u5])] _) := Lib.hid (M.out.set2 0 rfl (.float .f64 xl) (.float .f64 xh))
  go_simp
  refine hK.out _ _ (Or.inr ⟨(M.out.nth 3 rfl).two, (M.out.nth 4 rfl).two, (M.out.nth 5 rfl).two⟩) (fun hHeld => ?_)
  clear hK K hHeld kc kf
  refine tails_one (T := []) (i := 13) (o := _) rfl (by kernel_rfl) (fun K hK => ?_)
  have kc := (M.out.nth 1 rfl).2.1
  have kf := (M.out.nth 1 rfl).2.2
  replace M : Hid (Own w [(p3_1, #[.float .f64 xl, .float .f64 xh]), (p3_2, #[.float .f64 yl, .float .f64 yh]), (p3_3, #[.float .f64 0, .float .f64 0]), (p2_1, #[.float .f64 il, .float .f64 ih]), (p2_2, #[.float .f64 ol, .float .f64 oh]), (p2_3, #[.float .f64 al, .float .f64 ah]), ((w.heap.size + 1), #[.int .u32 v0, .int .u32 v1, .int .u32 v2, .int .u32 v3, .int .u32 v4, .int .u32 v5]), (w.heap.size, #[.int .u32 u0, .int .u32 u1, .int .u32 u2, .int .u32 u3, .int .u32 u4, .int .u32 u5])] _) := Lib.hid (M.out.set2 1 rfl (.float .f64 yl) (.float .f64 yh))
  go_simp
  refine hK.out _ _ (Or.inr ⟨(M.out.nth 3 rfl).two, (M.out.nth 4 rfl).two, (M.out.nth 5 rfl).two⟩) (fun hHeld => ?_)
  clear hK K hHeld kc kf
  refine tails_one (T := []) (i := 14) (o := _) rfl (by kernel_rfl) (fun K hK => ?_)
  have kc := (M.out.nth 2 rfl).2.1
  have kf := (M.out.nth 2 rfl).2.2
  replace M : Hid (Own w [(p3_1, #[.float .f64 xl, .float .f64 xh]), (p3_2, #[.float .f64 yl, .float .f64 yh]), (p3_3, #[.float .f64 zl, .float .f64 zh]), (p2_1, #[.float .f64 il, .float .f64 ih]), (p2_2, #[.float .f64 ol, .float .f64 oh]), (p2_3, #[.float .f64 al, .float .f64 ah]), ((w.heap.size + 1), #[.int .u32 v0, .int .u32 v1, .int .u32 v2, .int .u32 v3, .int .u32 v4, .int .u32 v5]), (w.heap.size, #[.int .u32 u0, .int .u32 u1, .int .u32 u2, .int .u32 u3, .int .u32 u4, .int .u32 u5])] _) := Lib.hid (M.out.set2 2 rfl (.float .f64 zl) (.float .f64 zh))
  go_simp
  refine hK.out _ _ (Or.inr ⟨(M.out.nth 3 rfl).two, (M.out.nth 4 rfl).two, (M.out.nth 5 rfl).two⟩) (fun hHeld => ?_)
  clear hK K hHeld kc kf
  refine tails_done (by kernel_rfl) ?_ _
  refine NoPanic.normal ?_
  clear hS
  revert M
  generalize ((((((v.setCell ⟨p3_1, 0, none⟩ (.float .f64 xl)).setCell ⟨p3_1, 1, none⟩ (.float .f64 xh)).setCell ⟨p3_2, 0, none⟩ (.float .f64 yl)).setCell ⟨p3_2, 1, none⟩ (.float .f64 yh)).setCell ⟨p3_3, 0, none⟩ (.float .f64 zl)).setCell ⟨p3_3, 1, none⟩ (.float .f64 zh)) = W2_
  intro M
  obtain ⟨k1, k2⟩ := (M.out.nth 3 rfl).two
  obtain ⟨k3, k4⟩ := (M.out.nth 5 rfl).two
  go_wp2_with fail
  refine (c7.out _).mono ?_
  rintro r w3_ ⟨rfl, hb⟩
  replace M := Lib.hid (M.out.below hb)
  clear hb
  clear k1 k2 k3 k4
  replace M := Lib.hid (M.out.made #[.float .f64 dl, .float .f64 dh] 27)
  obtain ⟨k1, k2⟩ := (M.out.nth 1 rfl).two
  obtain ⟨k3, k4⟩ := (M.out.nth 3 rfl).two
  go_wp2_with fail
  refine (c8.out _).mono ?_
  rintro r w4_ ⟨rfl, hb⟩
  replace M := Lib.hid (M.out.below hb)
  clear hb
  clear k1 k2 k3 k4
  replace M := Lib.hid (M.out.made #[.float .f64 gl, .float .f64 gh] 27)
  obtain ⟨k1, k2⟩ := (M.out.nth 5 rfl).two
  obtain ⟨k3, k4⟩ := (M.out.nth 7 rfl).two
  go_wp2_with fail
  refine (c9.out _).mono ?_
  rintro r w5_ ⟨rfl, hb⟩
  replace M := Lib.hid (M.out.below hb)
  clear hb
  clear k1 k2 k3 k4
  replace M := Lib.hid (M.out.made #[.float .f64 ll, .float .f64 lh] 27)
  obtain ⟨k1, k2⟩ := (M.out.nth 3 rfl).two
  obtain ⟨k3, k4⟩ := (M.out.nth 5 rfl).two
  go_wp2_with fail
  refine (c10.out _).mono ?_
  rintro r w6_ ⟨rfl, hb⟩
  replace M := Lib.hid (M.out.below hb)
  clear hb
  clear k1 k2 k3 k4
  replace M := Lib.hid (M.out.made #[.float .f64 ml, .float .f64 mh] 27)
  obtain ⟨k1, k2⟩ := (M.out.nth 7 rfl).two
  obtain ⟨k3, k4⟩ := (M.out.nth 8 rfl).two
  obtain ⟨k5, k6⟩ := (M.out.nth 9 rfl).two
  go_wp2_with fail
  refine (c11.out _).mono ?_
  rintro r w7_ ⟨rfl, hb⟩
  replace M := Lib.hid (M.out.below hb)
  clear hb
  clear k1 k2 k3 k4 k5 k6
  replace M := Lib.hid (M.out.made #[.float .f64 nl, .float .f64 nh] 27)
  obtain ⟨k1, k2⟩ := (M.out.nth 5 rfl).two
  obtain ⟨k3, k4⟩ := (M.out.nth 6 rfl).two
  obtain ⟨k5, k6⟩ := (M.out.nth 7 rfl).two
  go_wp2_with fail
  refine (c12.out _).mono ?_
  rintro r w8_ ⟨rfl, hb⟩
  replace M := Lib.hid (M.out.below hb)
  clear hb
  clear k1 k2 k3 k4 k5 k6
  replace M := Lib.hid (M.out.made #[.float .f64 ql, .float .f64 qh] 27)
  obtain ⟨k1, k2⟩ := (M.out.nth 9 rfl).two
  obtain ⟨k3, k4⟩ := (M.out.nth 11 rfl).two
  go_wp2_with fail
  refine (c13.out _).mono ?_
  rintro r w9_ ⟨rfl, hb⟩
  replace M := Lib.hid (M.out.below hb)
  clear hb
  clear k1 k2 k3 k4
  replace M := Lib.hid (M.out.made #[.float .f64 sl, .float .f64 sh] 27)
  obtain ⟨k1, k2⟩ := (M.out.nth 7 rfl).two
  obtain ⟨k3, k4⟩ := (M.out.nth 9 rfl).two
  go_wp2_with fail
  refine (c14.out _).mono ?_
  rintro r w10_ ⟨rfl, hb⟩
  replace M := Lib.hid (M.out.below hb)
  clear hb
  clear k1 k2 k3 k4
  replace M := Lib.hid (M.out.made #[.float .f64 tl, .float .f64 th] 27)
  obtain ⟨k1, k2⟩ := (M.out.nth 7 rfl).two
  obtain ⟨k3, k4⟩ := (M.out.nth 6 rfl).two
  go_wp2_with fail
  refine (c15.out _).mono ?_
  rintro r w11_ ⟨rfl, hb⟩
  replace M := Lib.hid (M.out.below hb)
  clear hb
  clear k1 k2 k3 k4
  obtain ⟨k1, k2⟩ := (M.out.nth 5 rfl).two
  obtain ⟨k3, k4⟩ := (M.out.nth 4 rfl).two
  go_wp2_with fail
  refine (c16.out _).mono ?_
  rintro r w12_ ⟨rfl, hb⟩
  replace M := Lib.hid (M.out.below hb)
  clear hb
  clear k1 k2 k3 k4
  obtain ⟨k1, k2⟩ := (M.out.nth 3 rfl).two
  obtain ⟨k3, k4⟩ := (M.out.nth 2 rfl).two
  go_wp2_with fail
  refine (c17.out _).mono ?_
  rintro r w13_ ⟨rfl, hb⟩
  replace M := Lib.hid (M.out.below hb)
  clear hb
  clear k1 k2 k3 k4
  obtain ⟨k1, k2⟩ := (M.out.nth 1 rfl).two
  obtain ⟨k3, k4⟩ := (M.out.nth 0 rfl).two
  go_wp2_with fail
  refine (c18.out _).mono ?_
  rintro r w14_ ⟨rfl, hb⟩
  replace M := Lib.hid (M.out.below hb)
  clear hb
  clear k1 k2 k3 k4
  go_wp2_with fail
  refine (c19.out _).mono ?_
  rintro r w15_ ⟨rfl, hb⟩
  replace M := Lib.hid (M.out.below hb)
  clear hb
  go_wp2
  go_ret
  exact ⟨rfl, M.out.base⟩

end Go.Proofs.Ytdppppaoflhgdaa

namespace Go.Proofs.Ytdppppaoflhgdaa
open Go.RowKit

theorem span_a (p q : Nat) (hp : p < 4294967296) (hq : q < 4294967296) :
    ∃ a : Res, In a aI ∧ ∀ w, Calls Try.prog 29 #[.float .f64 4584664420663164928, .float .f64 4607182418800017408, .int .u32 p, .int .u32 q] w fun r w' => r = .returned (.agg #[.float .f64 a.lo, .float .f64 a.hi]) ∧ Below w.heap.size w w' :=
  span8_any 4584664420663164928 4607182418800017408 p q (by decide) (by decide) (by decide) (by decide) (by decide +kernel) (by decide +kernel) (by decide +kernel) hp hq
theorem same_in {a A : Res} (i : In a A) (fA : Fit A) (w : World) : Calls Try.prog 30 #[.agg #[.float .f64 A.lo, .float .f64 A.hi], .int .i64 0, .agg #[.float .f64 a.lo, .float .f64 a.hi], .int .i64 0] w fun r w' => r = .returned (.bool true) ∧ Below w.heap.size w w' :=
  same9_ok w (c1 := Lib.hid fun w => in8 i fA w)
theorem In.via {a B C : Res} (h : In a B) (k : In B C) : In a C := ⟨h.fit, Int.le_trans k.lo h.lo, Int.le_trans h.hi k.hi⟩

set_option maxRecDepth 100000 in
set_option maxHeartbeats 1000000 in
theorem gwithin_any (u0 u1' u2 u3 u4 u5 v0 v1 v2 v3 v4 v5 : Nat) (w : World) (g0 : u0 < 4294967296) (g1 : u1' < 4294967296) (g2 : u2 < 4294967296) (g3 : u3 < 4294967296) (g4 : u4 < 4294967296) (g5 : u5 < 4294967296)
    (h0 : v0 < 4294967296) (h1 : v1 < 4294967296) (h2 : v2 < 4294967296) (h3 : v3 < 4294967296) (h4 : v4 < 4294967296) (h5 : v5 < 4294967296) :
    Calls Try.prog 6 #[.agg #[.int .u32 u0, .int .u32 u1', .int .u32 u2, .int .u32 u3, .int .u32 u4, .int .u32 u5], .agg #[.int .u32 v0, .int .u32 v1, .int .u32 v2, .int .u32 v3, .int .u32 v4, .int .u32 v5]] w fun r w' => r = .returned (.bool true) ∧ Below w.heap.size w w' := by
  obtain ⟨i, hi, ci⟩ := span_u u0 u1' g0 g1
  obtain ⟨o, ho, co⟩ := span_u u2 u3 g2 g3
  obtain ⟨a, ha, ca⟩ := span_a u4 u5 g4 g5
  have m0 : val m1 ≤ val 0 := by decide +kernel
  have ma : val m1 ≤ val aI.lo := by decide +kernel
  obtain ⟨x, jx, cx⟩ := span_in hi.fit (Int.le_trans m0 hi.lo) hi.hi v0 v1 h0 h1
  obtain ⟨y, jy, cy⟩ := span_in ho.fit (Int.le_trans m0 ho.lo) ho.hi v2 v3 h2 h3
  obtain ⟨z, jz, cz⟩ := span_in ha.fit (Int.le_trans ma ha.lo) ha.hi v4 v5 h4 h5
  have hx := jx.via hi
  have hy := jy.via ho
  have hz := jz.via ha
  have K := (g_in hi ha).fits
  have Ko := (g_in ho ha).fits
  have I := gi_of K hi.fit ha.fit jx jz
  have d1 := fun q v hv => gin0_walk q i.lo i.hi v0 v1 v2 v3 v4 v5 x.lo x.hi v hv (Lib.hid cx)
  have d2 := fun q v hv => gin2_walk q o.lo o.hi v0 v1 v2 v3 v4 v5 y.lo y.hi v hv (Lib.hid cy)
  have d3 := fun q v hv => gin4_walk q a.lo a.hi v0 v1 v2 v3 v4 v5 z.lo z.hi v hv (Lib.hid cz)
  have sD := fun w => same_in I.D K.D w
  have sF := fun w => same_in I.F K.F w
  by_cases eG : (Wt.k5 i o a).e = 0
  · obtain ⟨Li, fq, Lo, f2, fw, _⟩ := G2_none hi ho ha eG
    obtain ⟨Lx, lx⟩ := li0_of K Li hi.fit ha.fit jx jz
    obtain ⟨Ly, ly⟩ := li0_of Ko Lo ho.fit ha.fit jy jz
    have q1 : In (Gx.q x z) (Gx.q i a) := add_in (.refl u1_fit) u1_fit lx Li.l fq.e
    have q2 : In (Gx.q2 x y z) (Gx.q2 i o a) := add_in q1 fq ly Lo.l f2.e
    have q3 : In (Gx.w x y z) (Gx.w i o a) := div_in (.refl u1_fit) u1_fit q2 f2 fw.e
    exact gwithin_ok (u0 := u0) (u1 := u1') (u2 := u2) (u3 := u3) (u4 := u4) (u5 := u5) (v0 := v0) (v1 := v1) (v2 := v2) (v3 := v3) (v4 := v4) (v5 := v5) w
      (c1 := Lib.hid ci) (c2 := Lib.hid co) (c3 := Lib.hid ca) (c4 := Lib.hid d1) (c5 := Lib.hid d2) (c6 := Lib.hid d3) (c7 := Lib.hid (D_any hi ha)) (c8 := Lib.hid (D_any hx hz)) (c9 := Lib.hid (L_ok hi ha Li)) (c10 := Lib.hid (L_ok hx hz Lx))
      (c11 := Lib.hid fun w => G2_ok hi ho ha Li fq Lo f2 fw w) (c12 := Lib.hid fun w => G2_ok hx hy hz Lx q1.fit Ly q2.fit q3.fit w) (c13 := Lib.hid (F_any hi ha)) (c14 := Lib.hid (F_any hx hz))
      (c15 := Lib.hid sD) (c16 := Lib.hid fun w => same_in lx Li.l w) (c17 := Lib.hid fun w => same_in q3 fw w) (c18 := Lib.hid sF) (c19 := Lib.hid awake9_any)
  · have sG : ∀ {al ah bl bh : Nat} {f : Int} (w : World), Calls Try.prog 30 #[.agg #[.float .f64 al, .float .f64 ah], .int .i64 (Wt.k5 i o a).e, .agg #[.float .f64 bl, .float .f64 bh], .int .i64 f] w fun r w' => r = .returned (.bool true) ∧ Below w.heap.size w w' := fun w => same9_err w (by simpa using eG)
    by_cases eL : (Lt.k12 0 i a).e = 0
    · obtain ⟨_, Li⟩ := lam_none eL K hi.fit ha.fit
      obtain ⟨Lx, lx⟩ := li0_of K Li hi.fit ha.fit jx jz
      exact gwithin_two (u0 := u0) (u1 := u1') (u2 := u2) (u3 := u3) (u4 := u4) (u5 := u5) (v0 := v0) (v1 := v1) (v2 := v2) (v3 := v3) (v4 := v4) (v5 := v5) w
        (c1 := Lib.hid ci) (c2 := Lib.hid co) (c3 := Lib.hid ca) (c4 := Lib.hid d1) (c5 := Lib.hid d2) (c6 := Lib.hid d3) (c7 := Lib.hid (D_any hi ha)) (c8 := Lib.hid (D_any hx hz)) (c9 := Lib.hid (L_ok hi ha Li)) (c10 := Lib.hid (L_ok hx hz Lx))
        (c11 := Lib.hid (G2_any hi ho ha)) (c12 := Lib.hid (G2_any hx hy hz)) (c13 := Lib.hid (F_any hi ha)) (c14 := Lib.hid (F_any hx hz))
        (c15 := Lib.hid sD) (c16 := Lib.hid fun w => same_in lx Li.l w) (c17 := Lib.hid sG) (c18 := Lib.hid sF) (c19 := Lib.hid awake9_any)
    · exact gwithin_err (u0 := u0) (u1 := u1') (u2 := u2) (u3 := u3) (u4 := u4) (u5 := u5) (v0 := v0) (v1 := v1) (v2 := v2) (v3 := v3) (v4 := v4) (v5 := v5) w
        (c1 := Lib.hid ci) (c2 := Lib.hid co) (c3 := Lib.hid ca) (c4 := Lib.hid d1) (c5 := Lib.hid d2) (c6 := Lib.hid d3) (c7 := Lib.hid (D_any hi ha)) (c8 := Lib.hid (D_any hx hz)) (c9 := Lib.hid (L_any hi ha)) (c10 := Lib.hid (L_any hx hz))
        (c11 := Lib.hid (G2_any hi ho ha)) (c12 := Lib.hid (G2_any hx hy hz)) (c13 := Lib.hid (F_any hi ha)) (c14 := Lib.hid (F_any hx hz))
        (c15 := Lib.hid sD) (c16 := Lib.hid fun w => same9_err w (by simpa using eL)) (c17 := Lib.hid sG) (c18 := Lib.hid sF) (c19 := Lib.hid awake9_any)
end Go.Proofs.Ytdppppaoflhgdaa

namespace Go.Proofs.Ytdppppaoflhgdaa
open Go.ChangeShapes Go.WideShapes Go.ChangeAt Go.RowKit

set_option maxRecDepth 100000 in
theorem ggxWithin_lifted (os : Os) (started : os.Started) (H : Type) (enc : TypeId × Value → H) :
    ReturnsInHanded {} Try.checked os 6 .any (Rows.ggxWithinSpec.pre6 enc Try.prog Try.f6 Rows.ggxWithinRow.domain false) (Rows.ggxWithinSpec.post enc Try.prog Try.f6 false true false false) := by
  refine returnsInHanded_of_change (C := Try.checked) Try.own started (by kernel_rfl) Try.func6
    (ChangeSpec.witness6 (enc := enc) (C := Try.checked) false ⟨#[], #[.agg #[.int .u32 0, .int .u32 0, .int .u32 0, .int .u32 0, .int .u32 0, .int .u32 0], .agg #[.int .u32 0, .int .u32 0, .int .u32 0, .int .u32 0, .int .u32 0, .int .u32 0]], []⟩ 8 (by kernel_rfl) (by kernel_rfl) (by kernel_rfl) (by kernel_rfl)) ?_
  intro W base args ds gs before hval0 hW hcnd _
  have hval : ∀ (j : Nat) t v, Try.f6.params[j]? = some t → args[j]? = some v → Value.okWide Try.prog W .any base t v := hval0
  have hW' := hW
  obtain ⟨p, q, hA0, hV, rfl, hfz, hnd⟩ := hW
  have hA : DataW.TrodAll enc Try.prog W 0 (fun _ => true) true Try.f6.params.toList args.toList ds p := hA0
  rw [Try.params6] at hA hval
  obtain ⟨v0, v1, d0, d1, p0, p1, rfl, rfl, rfl, h0, h1⟩ := trodAll_two hA
  obtain ⟨rfl, rfl⟩ := trodVars_none hV
  obtain ⟨y0_0, y0_1, y0_2, y0_3, y0_4, y0_5, rfl, rfl, rfl, z0_0, z0_1, z0_2, z0_3, z0_4, z0_5⟩ := open_u6 (hval 0 55 v0 rfl rfl) h0
  obtain ⟨y1_0, y1_1, y1_2, y1_3, y1_4, y1_5, rfl, rfl, rfl, z1_0, z1_1, z1_2, z1_3, z1_4, z1_5⟩ := open_u6 (hval 1 55 v1 rfl rfl) h1
  clear hA0 hval0
  simp only [List.append_nil] at hW'
  obtain ⟨x0_0, rfl, c0_0⟩ := u32_nat z0_0
  obtain ⟨x0_1, rfl, c0_1⟩ := u32_nat z0_1
  obtain ⟨x0_2, rfl, c0_2⟩ := u32_nat z0_2
  obtain ⟨x0_3, rfl, c0_3⟩ := u32_nat z0_3
  obtain ⟨x0_4, rfl, c0_4⟩ := u32_nat z0_4
  obtain ⟨x0_5, rfl, c0_5⟩ := u32_nat z0_5
  obtain ⟨x1_0, rfl, c1_0⟩ := u32_nat z1_0
  obtain ⟨x1_1, rfl, c1_1⟩ := u32_nat z1_1
  obtain ⟨x1_2, rfl, c1_2⟩ := u32_nat z1_2
  obtain ⟨x1_3, rfl, c1_3⟩ := u32_nat z1_3
  obtain ⟨x1_4, rfl, c1_4⟩ := u32_nat z1_4
  obtain ⟨x1_5, rfl, c1_5⟩ := u32_nat z1_5
  refine (gwithin_any x0_0 x0_1 x0_2 x0_3 x0_4 x0_5 x1_0 x1_1 x1_2 x1_3 x1_4 x1_5 W c0_0 c0_1 c0_2 c0_3 c0_4 c0_5 c1_0 c1_1 c1_2 c1_3 c1_4 c1_5).mono fun e W' ⟨he, hw⟩ => ?_
  subst he
  refine ⟨_, rfl, _, _, _, [], [], [], hW', trodAll_mk1 (shut_bool Try.underlying4 _), trodAll_mk2 (shut_u6 z0_0 z0_1 z0_2 z0_3 z0_4 z0_5) (shut_u6 z1_0 z1_1 z1_2 z1_3 z1_4 z1_5), rfl, hw.frame _, fun h => by cases h⟩

theorem ggxWithin_holds : Rows.GgxWithinSaid :=
  OpenClaim.holds_of_wide 6 Try.f6 rfl rfl rfl rfl rfl rfl rfl ⟨rfl, rfl, rfl, rfl, rfl⟩ rfl rfl rfl rfl rfl (by kernel_rfl) Try.func6 (by kernel_rfl)
    (of_decide_eq_true (by kernel_rfl)) (by unfold Func.isWrapper; first | (rw [if_pos (by decide +kernel)]; kernel_rfl) | (rw [if_neg (by decide +kernel)]; exact ⟨rfl, rfl⟩))
    (fun os started H enc _ => ggxWithin_lifted os started H enc)

end Go.Proofs.Ytdppppaoflhgdaa
