
/- GgxOnce, of any alpha from 1/8 on that is drawn, 1 to 64 rings of like widths, from any one of them on: what the rings cover has what Facing falls by between its lower and its upper sum; from 0 to 1 that is 1. No conditions. -/
import Derived.Test.YtdppppaoflhgdaaQTA
import Derived.Test.YtdppppaoflhgdaaQO2
import Derived.Test.YtdppppaoflhgdaaLmM
import Derived.Test.YtdppppaoflhgdaaLanS
import Derived.Test.YtdppppaoflhgdaaBtw
import Derived.Deep.RegionHeld3
import Derived.Test.YtdppppaoflhgdaaGgM
import Derived.Test.YtdppppaoflhgdaaQGe
import Derived.Test.YtdppppaoflhgdaaQOpen
import Derived.ProofKit
import Derived.Carry
namespace Go.Proofs.Ytdppppaoflhgdaa
open Go.RowKit

section
variable {P : Program} {ops : Array Oper} {Q : Exit → Act → World → Prop} {md : Region.Mode} {S : World → Prop} {T : List Nat}
/-- L waits for i, by so many steps at most. -/
def waitsD (md : Region.Mode) (ops : Array Oper) : Nat → Nat → Nat → Bool
  | 0, _, _ => false
  | n + 1, L, i => match ops[L]? with
    | some q => q.after.any fun e => Region.binds md e && (e.on == i || waitsD md ops n e.on i)
    | none => false
theorem waitsD_all {listed : Array Bool} {i : Nat} (hc : ClosedL md ops listed) : ∀ (n L : Nat), listed.getD L false = true → waitsD md ops n L i = true → listed.getD i false = true
  | 0, _, _, h => by simp [waitsD] at h
  | n + 1, L, hl, h => by
    unfold waitsD at h
    cases hq : ops[L]? with
    | none => rw [hq] at h; simp at h
    | some q =>
      rw [hq] at h
      simp only [Array.any_eq_true, Bool.and_eq_true, Bool.or_eq_true, beq_iff_eq] at h
      obtain ⟨k, hk, hb, hor⟩ := h
      have hl' := hc _ q hq hl _ (Array.getElem_mem hk) hb
      rcases hor with rfl | hor
      · exact hl'
      · exact waitsD_all hc n _ hl' hor
theorem waitsD_listed {listed : Array Bool} {L i : Nat} (n : Nat) (hc : ClosedL md ops listed) (hL : L ∈ Region.ready md ops listed) (h : waitsD md ops n L i = true) : listed.getD i false = true := by
  obtain ⟨_, q, hq, hall⟩ := mem_ready.1 hL
  cases n with
  | zero => simp [waitsD] at h
  | succ n =>
    unfold waitsD at h
    rw [hq] at h
    simp only [Array.any_eq_true, Bool.and_eq_true, Bool.or_eq_true, beq_iff_eq] at h
    obtain ⟨k, hk, hb, hor⟩ := h
    have hl := hall _ (Array.getElem_mem hk) hb
    rcases hor with rfl | hor
    · exact hl
    · exact waitsD_all hc n _ hl hor

theorem tails_firstD {i : Nat} {o : Oper} {x : Value} (hi : ops[i]? = some o) (hsel : ∀ (j : Nat) (q : Oper) cs b, ops[j]? = some q → q.op ≠ .select cs b) (hQ : ∀ c a w, Q (.panic c) (a.put o.dst x) w → Q (.panic c) a w)
    (hL : ∀ L, L ∈ T → ∀ listed, ClosedL md ops listed → L ∈ Region.ready md ops listed → listed.getD i false = true) (n : Nat) :
    ∀ (listed : Array Bool) (a : Act) (w : World), ClosedL md ops listed → (∀ j q, ops[j]? = some q → j ≠ i → listed.getD j true = false → (∀ e ∈ q.after, Region.binds md e = true → e.on ≠ i) → o.apart ops q = true) →
      i ∈ Region.ready md ops listed → YieldsIf P ops S o x a → S w → wpAnyV P md ops Q S T n (listed.setIfInBounds i true) (a.put o.dst x) w → wpAnyV P md ops Q S T (n + 1) listed a w := by
  have unl : ∀ {listed : Array Bool}, i ∈ Region.ready md ops listed → listed.getD i false = true → False := by
    intro listed hr h1
    have h0 := (mem_ready.1 hr).1
    rcases Nat.lt_or_ge i listed.size with g | g
    · simp [g] at h0 h1; rw [h0] at h1; cases h1
    · simp [Array.getElem?_eq_none g] at h1
  have wait : ∀ {listed : Array Bool} {j : Nat} {q : Oper}, i ∈ Region.ready md ops listed → (∀ e ∈ q.after, Region.binds md e = true → listed.getD e.on false = true) → ∀ e ∈ q.after, Region.binds md e = true → e.on ≠ i := by
    intro listed j q hr hall e he hb heq
    have h1 := hall e he hb
    rw [heq] at h1
    exact unl hr h1
  induction n with
  | zero =>
    intro listed a w _ _ hr hy hS H
    refine ⟨fun h => absurd hr (by rw [h]; simp), fun j hj => ?_⟩
    rcases Nat.decEq j i with hne | rfl
    · exact absurd (ready_mono hj hne) (by rw [H.1]; simp)
    · exact hy.wpOp hi hS ⟨Or.inr hS, H⟩
  | succ n ih =>
    intro listed a w hcl hfree hr hy hS H
    refine ⟨fun h => absurd hr (by rw [h]; simp), fun j hj => ?_⟩
    rcases Nat.decEq j i with hne | rfl
    · obtain ⟨un, q, hq, hall⟩ := mem_ready.1 hj
      have away := wait (j := j) hr hall
      have step := wpOp_putIf hq (hfree j q hq hne un away) (fun cs b => hsel i o cs b hi) (fun cs b => hsel j q cs b hq) hQ hy (H.2 j (ready_mono hj hne))
      have still : i ∈ Region.ready md ops (listed.setIfInBounds j true) := ready_mono hr (Ne.symm hne)
      have hcl' := closed_set hcl hj
      refine wpOp_mono (fun b v k => ?_) step
      obtain ⟨yb, ks, kt⟩ := k
      have ks' : S v := by
        rcases ks with ks | ks
        · exact absurd (hL j ks _ hcl hj) (fun h => unl hr h)
        · exact ks
      refine ⟨Or.inr ks', ih _ b v hcl' (fun l r hl hli hun hno => hfree l r hl hli ?_ hno) still yb ks' ?_⟩
      · by_cases g : j = l
        · subst g; exact un
        · rw [getD_set_ne true g] at hun; exact hun
      · rw [Array.setIfInBounds_comm _ _ hne]
        exact kt
    · exact hy.wpOp hi hS ⟨Or.inr hS, H⟩

theorem tails_takeD {i : Nat} {o : Oper} {x : Value} {n : Nat} {listed : Array Bool} {a : Act} {w : World} (hi : ops[i]? = some o) (hs : Region.noSelect ops = true) (hf : Region.free md ops listed i = true) (hr : (Region.ready md ops listed).contains i = true)
    (hl : (closedB md ops listed && T.all fun L => waitsD md ops 4 L i) = true) (hQ : ∀ c a w, Q (.panic c) (a.put o.dst x) w → Q (.panic c) a w) (hy : YieldsIf P ops S o x a) (hS : S w)
    (h : wpAnyV P md ops Q S T n (listed.setIfInBounds i true) (a.put o.dst x) w) : wpAnyV P md ops Q S T (n + 1) listed a w := by
  rw [Bool.and_eq_true, List.all_eq_true] at hl
  exact tails_firstD hi (Region.noSelect_spec hs) hQ (fun L hL l hc hr => waitsD_listed 4 hc hr (hl.2 L hL)) n listed a w (closed_of hl.1) (Region.free_spec hi hf) (by simpa using hr) hy hS h

end
end Go.Proofs.Ytdppppaoflhgdaa

namespace Go.Proofs.Ytdppppaoflhgdaa
open Go.RowKit

theorem ss_eq : SS = ((2 ^ sq : Nat) : Int) := rfl
theorem u1_ss : val u1 = SS := by decide +kernel
/-- The spacing of numbers below 2. -/
def gK : Nat := 1022
def gG : Int := ((2 ^ gK : Nat) : Int)
theorem gG_pos : 0 < gG := Int.natCast_pos.2 (Nat.two_pow_pos _)
theorem gG_ss : gG * 4503599627370496 = SS := by decide +kernel

theorem un_nil0 : In (oneR 0) unI := ⟨.of (by decide +kernel), Int.le_refl _, by decide +kernel⟩
/-- A quotient of words, of a real number from 0 to 2 / s-th. -/
theorem quo_gap {a b : Nat} (ha : a < 9218868437227405312) (hb : b < 9218868437227405312) (hb0 : b ≠ 0) {x0 y0 : Nat} (hx0 : x0 < 9218868437227405312) (hxp : 0 < val x0) (hx : val x0 * (steps b : Int) ≤ (steps a : Int) * SS) (hy0 : y0 < 9218868437227405312) (hy : (steps a : Int) * SS ≤ val y0 * (steps b : Int)) (hy2 : val y0 ≤ 2 * SS) :
    ∃ q, floatBits .quo .f64 a b = some q ∧ q < 18446744073709551616 ∧ rightB q = true ∧ val x0 ≤ val q ∧ val q ≤ val y0 ∧
      val q * (steps b : Int) ≤ (steps a : Int) * SS + gG * (steps b : Int) ∧ (steps a : Int) * SS ≤ val q * (steps b : Int) + gG * (steps b : Int) := by
  obtain ⟨a1, a2, a3, a4, a5⟩ := pos_facts a ha
  obtain ⟨b1, b2, b3, b4, b5⟩ := pos_facts b hb
  obtain ⟨y1, y2, y3, y4, y5⟩ := pos_facts y0 hy0
  obtain ⟨x1, x2, _, _, _⟩ := pos_facts x0 hx0
  obtain ⟨r, hr, hB⟩ := div_beside a b a1 b1 a2 b2 hb0
  have dd := div_dir a b a2 b2 b1 hb0
  have d1 := (dd false).1 rfl
  have d2 := (dd true).2 rfl
  rw [a3, b3, a4, b4] at hB d1 d2
  have hT : sg (!(false == false)) (steps a * 2 ^ sq) = (steps a : Int) * SS := by
    show ((steps a * 2 ^ sq : Nat) : Int) = _
    rw [Int.natCast_mul, ss_eq]
  rw [hT] at hB d1 d2
  have s0 : 0 < steps b := Nat.pos_of_ne_zero fun e => hb0 (by
    have h : steps b ≤ steps 0 := by rw [e]; exact Nat.zero_le _
    have := (steps_le_iff b 0).1 h
    omega)
  have t0 : 0 ≤ (steps a : Int) * SS := Int.mul_nonneg (Int.natCast_nonneg _) (Int.le_of_lt SS0)
  obtain ⟨n1, n2, n3, n4⟩ := near_between (x0 := x0) (y0 := y0) s0 d1 d2 hB x1 x2 hx y1 y2 hy
  have hright : rightB r = true := word_right (sgn_lt (by
    cases hs : sgnB r
    · rfl
    · have e := val_negs hs; omega)) n2
  refine ⟨r, hr, n1, hright, n3, n4, ?_⟩
  have k1 : 53 ≤ gK := by decide
  have k2 : gK ≤ 1899 := by decide
  have top : (9007199254740992 : Int) * gG = 2 * SS := by rw [← gG_ss]; omega
  -- the two ends
  rcases d1 with D | ⟨_, _, D⟩
  · rcases d2 with U | ⟨_, _, U⟩
    · obtain ⟨_, _, hv⟩ := hB _ _ (Or.inl ⟨rfl, D.2⟩) (Or.inl ⟨rfl, U.2⟩)
      have c0 : 0 ≤ val (divW a b false) := by
        have := D.2.2.2.2 0 (by decide) (by decide) (by rw [v00, Int.zero_mul]; exact t0)
        rw [v00] at this; exact this
      have c1 : val (divW a b true) ≤ val y0 := U.2.2.2.2 y0 y1 y2 hy
      have sp : (0 : Int) < (steps b : Int) := by omega
      have cc : val (divW a b false) ≤ val (divW a b true) := by
        have h := Int.le_trans D.2.2.2.1 U.2.2.2.1
        exact Int.le_of_mul_le_mul_right h sp
      rcases hv with e | e
      · rw [e]
        refine ⟨by have := D.2.2.2.1; have := Int.mul_pos gG_pos sp; omega, ?_⟩
        by_cases hc : val (divW a b false) < 2 * SS
        · have := down_gap (k := gK) k1 k2 s0 (Or.inl ⟨rfl, D.2⟩ : Down _ _ _ 0) (by show -9007199254740992 * gG ≤ _; have := gG_pos; omega) (by show _ < 9007199254740992 * gG; omega)
          have h2 : (steps a : Int) * SS < (val (divW a b false) + gG) * (steps b : Int) := this
          rw [Int.add_mul] at h2; omega
        · have h3 : val (divW a b false) = val y0 := by omega
          have h4 : (steps a : Int) * SS ≤ val (divW a b false) * (steps b : Int) := by rw [h3]; exact hy
          have := Int.mul_pos gG_pos sp; omega
      · rw [e]
        refine ⟨?_, by have := U.2.2.2.1; have := Int.mul_pos gG_pos sp; omega⟩
        have := up_gap (k := gK) k1 k2 s0 (Or.inl ⟨rfl, U.2⟩ : Up _ _ _ 0) (by show -9007199254740992 * gG < _; have := gG_pos; have := SS0; omega) (by show _ ≤ 9007199254740992 * gG; omega)
        have h2 : (val (divW a b true) - gG) * (steps b : Int) < (steps a : Int) * SS := this
        rw [Int.sub_mul] at h2; omega
    · exact absurd (U y0 y1 y2) (by omega)
  · exact absurd (D 0 (by decide) (by decide)) (by rw [v00, Int.zero_mul]; omega)

/-- i by n, as a word. -/
def xw (n i : Nat) : Nat := (floatBits .quo .f64 (floatOfInt .f64 (i : Int)) (floatOfInt .f64 (n : Int))).getD 0
structure PtN (n i : Nat) : Prop where
  quo : floatBits .quo .f64 (floatOfInt .f64 (i : Int)) (floatOfInt .f64 (n : Int)) = some (xw n i)
  un : In (oneR (xw n i)) unI
  above : val (xw n i) * (n : Int) ≤ (i : Int) * SS + (n : Int) * gG
  below : (i : Int) * SS ≤ val (xw n i) * (n : Int) + (n : Int) * gG
theorem xw_some {n i q : Nat} (h : floatBits .quo .f64 (floatOfInt .f64 (i : Int)) (floatOfInt .f64 (n : Int)) = some q) : xw n i = q := by unfold xw; rw [h]; rfl
theorem pt_nil {n : Nat} (h : (floatBits .quo .f64 (floatOfInt .f64 ((0 : Nat) : Int)) (floatOfInt .f64 (n : Int))) = some 0) : PtN n 0 ∧ xw n 0 = 0 := by
  have e := xw_some h
  refine ⟨⟨by rw [e]; exact h, by rw [e]; exact un_nil0, ?_, ?_⟩, e⟩
  · rw [e, v00]
    have := Int.mul_nonneg (Int.natCast_nonneg n) (Int.le_of_lt gG_pos)
    omega
  · rw [e, v00]
    have := Int.mul_nonneg (Int.natCast_nonneg n) (Int.le_of_lt gG_pos)
    omega
def nilOk (n : Nat) : Bool := floatBits .quo .f64 (floatOfInt .f64 ((0 : Nat) : Int)) (floatOfInt .f64 (n : Int)) == some 0
theorem nil_ok : ∀ n, n < 65 → (n = 0 ∨ nilOk n = true) := by decide +kernel
theorem one_ok : ∀ n, n < 65 → (n = 0 ∨ xw n n = u1) := by decide +kernel
theorem least7 : val 4575657221408423936 * 64 ≤ SS ∧ 0 < val 4575657221408423936 := by decide +kernel
theorem pt_any {n i : Nat} (h1 : 1 ≤ n) (h2 : n < 65) (hi : i ≤ n) : PtN n i := by
  by_cases h0 : i = 0
  · subst h0
    rcases nil_ok n h2 with e | e
    · omega
    · unfold nilOk at e
      exact (pt_nil (by simpa using e)).1
  · obtain ⟨a1, a2⟩ := from_int i (by omega)
    obtain ⟨b1, b2⟩ := from_int n (by omega)
    have hb0 : FloatKind.f64.nearest (n : Int) ≠ 0 := fun e => by
      rw [e] at b2
      have : steps 0 = 0 := rfl
      rw [this] at b2
      have hp : 0 < n * 2 ^ sq := Nat.mul_pos (by omega) (Nat.two_pow_pos _)
      omega
    have ea : ((steps (FloatKind.f64.nearest (i : Int)) : Nat) : Int) = (i : Int) * SS := by rw [a2, Int.natCast_mul, ss_eq]
    have eb : ((steps (FloatKind.f64.nearest (n : Int)) : Nat) : Int) = (n : Int) * SS := by rw [b2, Int.natCast_mul, ss_eq]
    obtain ⟨l1, l2⟩ := least7
    have ni : (n : Int) ≤ 64 * i := by omega
    have ii : (i : Int) ≤ n := by omega
    obtain ⟨q, q1, q2, q3, q4, q5, q6, q7⟩ := quo_gap a1 b1 hb0 (x0 := 4575657221408423936) (y0 := u1) (by decide) l2 (by
      rw [ea, eb]
      have s0 := SS0
      have t1 : val 4575657221408423936 * ((n : Int) * SS) ≤ val 4575657221408423936 * ((64 * i) * SS) := Int.mul_le_mul_of_nonneg_left (Int.mul_le_mul_of_nonneg_right ni (Int.le_of_lt s0)) (Int.le_of_lt l2)
      have t2 : val 4575657221408423936 * 64 * ((i : Int) * SS) ≤ SS * ((i : Int) * SS) := Int.mul_le_mul_of_nonneg_right l1 (Int.mul_nonneg (by omega) (Int.le_of_lt s0))
      have t3 : val 4575657221408423936 * ((64 * i) * SS) = val 4575657221408423936 * 64 * ((i : Int) * SS) := by grind
      have t4 : SS * ((i : Int) * SS) = (i : Int) * SS * SS := by grind
      omega) (by decide) (by
      rw [ea, eb, u1_ss]
      have s0 := SS0
      have t1 : (i : Int) * SS * SS ≤ (n : Int) * SS * SS := Int.mul_le_mul_of_nonneg_right (Int.mul_le_mul_of_nonneg_right ii (Int.le_of_lt s0)) (Int.le_of_lt s0)
      have t2 : SS * ((n : Int) * SS) = (n : Int) * SS * SS := by grind
      omega) (by rw [u1_ss]; have := SS0; omega)
    have e := xw_some (n := n) (i := i) q1
    rw [ea, eb] at q6 q7
    have s0 := SS0
    refine ⟨by rw [e]; exact q1, by rw [e]; exact ⟨one_fit q2 q3, by show val 0 ≤ val q; rw [v00]; omega, q5⟩, ?_, ?_⟩
    · rw [e]
      refine Int.le_of_mul_le_mul_right ?_ s0
      have t1 : val q * (n : Int) * SS = val q * ((n : Int) * SS) := by grind
      have t2 : ((i : Int) * SS + (n : Int) * gG) * SS = (i : Int) * SS * SS + gG * ((n : Int) * SS) := by grind
      omega
    · rw [e]
      refine Int.le_of_mul_le_mul_right ?_ s0
      have t1 : (i : Int) * SS * SS ≤ val q * ((n : Int) * SS) + gG * ((n : Int) * SS) := q7
      have t2 : (val q * (n : Int) + (n : Int) * gG) * SS = val q * ((n : Int) * SS) + gG * ((n : Int) * SS) := by grind
      omega
end Go.Proofs.Ytdppppaoflhgdaa

namespace Go.Proofs.Ytdppppaoflhgdaa
open Go.RowKit
attribute [local go_sem] run_store_float

/-- The first three of a row, put otherwise. -/
theorem Own.perm {B v : World} {l k : RowL} (h : Own B l v) (hk : ∀ x, x ∈ k → x ∈ l) (hp : k.Pairwise (fun x y => x.1 ≠ y.1)) : Own B k v := ⟨h.base, fun x hx => h.blocks x (hk x hx), hp⟩
theorem Own.third {B v : World} {a b c : Nat × Array Value} {l : RowL} (h : Own B (a :: b :: c :: l) v) : Own B (a :: c :: b :: l) v := h.under

section
variable {P : Program} {ops : Array Oper} {Q : Exit → Act → World → Prop} {md : Region.Mode} {S : World → Prop}
theorem lp_ccppp_1 {a0 : Act} {B v : World} {l : List (Nat × Array Value)} (_ : Hid (Own B l v)) {w0 : World} {L0 : Array Bool} (c1 c2 c3 c4 c5 m1 : Nat) (slots : List Nat) (N : Nat) (J : List (Nat × Array Value) → Act → Nat → List (Option Nat) → Act → World → Prop) (hok : latOkP [false, false, true, true, true] md ops L0 [c1, c2, c3, c4, c5] [m1] = true)
    (hsl : (slots.all fun s => decide (s < a0.tmps.size)) = true) (h0 : ∀ A : Act, (∀ s, s ∈ slots → s < A.tmps.size) → J l A 0 (List.replicate 1 none) A w0)
    (hS : ∀ k p a w, J l a0 k p a w → S w)
    (k1 : ∀ p a w, J l a0 0 p a w → wpOp P ops Q c1 (fun b v => J l a0 1 p b v) a w)
    (k2 : ∀ p a w, J l a0 1 p a w → wpOp P ops Q c2 (fun b v => J l a0 2 p b v) a w)
    (k3 : ∀ p a w, J l a0 2 p a w → ∃ o x, ops[c3]? = some o ∧ YieldsIf P ops S o x a ∧ (∀ c a w, Q (.panic c) (a.put o.dst x) w → Q (.panic c) a w) ∧ J l a0 3 p (a.put o.dst x) w)
    (k4 : ∀ p a w, J l a0 3 p a w → ∃ o x, ops[c4]? = some o ∧ YieldsIf P ops S o x a ∧ (∀ c a w, Q (.panic c) (a.put o.dst x) w → Q (.panic c) a w) ∧ J l a0 4 p (a.put o.dst x) w)
    (k5 : ∀ p a w, J l a0 4 p a w → ∃ o x, ops[c5]? = some o ∧ YieldsIf P ops S o x a ∧ (∀ c a w, Q (.panic c) (a.put o.dst x) w → Q (.panic c) a w) ∧ J l a0 5 p (a.put o.dst x) w)
    (n1 : ∀ k p a w, p[0]? = some none → J l a0 k p a w → wpOp P ops Q m1 (fun b v => ∃ q, J l a0 k (p.set 0 (some q)) b v) a w)
    (fin : ∀ q1 a w, J l a0 5 [some q1] a w → wpAnyV P md ops Q S [] N (lstOf L0 [c1, c2, c3, c4, c5] [m1] 5 [true]) a w) :
    wpAnyV P md ops Q S [] (N + 6) L0 a0 w0 := by
  refine latP_from (pl := [false, false, true, true, true]) [c1, c2, c3, c4, c5] [m1] slots N 6 (J l) hok rfl hsl h0 hS (fun k i p a w hk hn hJ => ?_) (fun k i p a w hk hn hJ => ?_) (fun k m i p a w hm hp hJ => ?_) (fun p a w hp hall hJ => ?_)
  · rcases k with _ | _ | _ | _ | _ | k
    · obtain rfl : c1 = i := by simpa using hk
      exact k1 p a w hJ
    · obtain rfl : c2 = i := by simpa using hk
      exact k2 p a w hJ
    · exact absurd hn (by decide)
    · exact absurd hn (by decide)
    · exact absurd hn (by decide)
    · simp at hk
  · rcases k with _ | _ | _ | _ | _ | k
    · exact absurd hn (by decide)
    · exact absurd hn (by decide)
    · obtain rfl : c3 = i := by simpa using hk
      exact k3 p a w hJ
    · obtain rfl : c4 = i := by simpa using hk
      exact k4 p a w hJ
    · obtain rfl : c5 = i := by simpa using hk
      exact k5 p a w hJ
    · simp at hk
  · rcases m with _ | m
    · obtain rfl : m1 = i := by simpa using hm
      exact n1 k p a w hp hJ
    · simp at hm
  · obtain ⟨q1, rfl⟩ := fin_one hp hall
    exact fin q1 a w hJ
theorem lpx_cccccc_1 {a0 : Act} {B v : World} {l : List (Nat × Array Value)} {x : Nat × Array Value} (_ : Hid (Own B (x :: l) v)) {w0 : World} {L0 : Array Bool} (c1 c2 c3 c4 c5 c6 m1 : Nat) (slots : List Nat) (N : Nat) (J : List (Nat × Array Value) → Act → Nat → List (Option Nat) → Act → World → Prop) (hok : latOkP [false, false, false, false, false, false] md ops L0 [c1, c2, c3, c4, c5, c6] [m1] = true)
    (hsl : (slots.all fun s => decide (s < a0.tmps.size)) = true) (h0 : ∀ A : Act, (∀ s, s ∈ slots → s < A.tmps.size) → J l A 0 (List.replicate 1 none) A w0)
    (hS : ∀ k p a w, J l a0 k p a w → S w)
    (k1 : ∀ p a w, J l a0 0 p a w → wpOp P ops Q c1 (fun b v => J l a0 1 p b v) a w)
    (k2 : ∀ p a w, J l a0 1 p a w → wpOp P ops Q c2 (fun b v => J l a0 2 p b v) a w)
    (k3 : ∀ p a w, J l a0 2 p a w → wpOp P ops Q c3 (fun b v => J l a0 3 p b v) a w)
    (k4 : ∀ p a w, J l a0 3 p a w → wpOp P ops Q c4 (fun b v => J l a0 4 p b v) a w)
    (k5 : ∀ p a w, J l a0 4 p a w → wpOp P ops Q c5 (fun b v => J l a0 5 p b v) a w)
    (k6 : ∀ p a w, J l a0 5 p a w → wpOp P ops Q c6 (fun b v => J l a0 6 p b v) a w)
    (n1 : ∀ k p a w, p[0]? = some none → J l a0 k p a w → wpOp P ops Q m1 (fun b v => ∃ q, J l a0 k (p.set 0 (some q)) b v) a w)
    (fin : ∀ q1 a w, J l a0 6 [some q1] a w → wpAnyV P md ops Q S [] N (lstOf L0 [c1, c2, c3, c4, c5, c6] [m1] 6 [true]) a w) :
    wpAnyV P md ops Q S [] (N + 7) L0 a0 w0 := by
  refine latP_from (pl := [false, false, false, false, false, false]) [c1, c2, c3, c4, c5, c6] [m1] slots N 7 (J l) hok rfl hsl h0 hS (fun k i p a w hk hn hJ => ?_) (fun k i p a w hk hn hJ => ?_) (fun k m i p a w hm hp hJ => ?_) (fun p a w hp hall hJ => ?_)
  · rcases k with _ | _ | _ | _ | _ | _ | k
    · obtain rfl : c1 = i := by simpa using hk
      exact k1 p a w hJ
    · obtain rfl : c2 = i := by simpa using hk
      exact k2 p a w hJ
    · obtain rfl : c3 = i := by simpa using hk
      exact k3 p a w hJ
    · obtain rfl : c4 = i := by simpa using hk
      exact k4 p a w hJ
    · obtain rfl : c5 = i := by simpa using hk
      exact k5 p a w hJ
    · obtain rfl : c6 = i := by simpa using hk
      exact k6 p a w hJ
    · simp at hk
  · rcases k with _ | _ | _ | _ | _ | _ | k
    · exact absurd hn (by decide)
    · exact absurd hn (by decide)
    · exact absurd hn (by decide)
    · exact absurd hn (by decide)
    · exact absurd hn (by decide)
    · exact absurd hn (by decide)
    · simp at hk
  · rcases m with _ | m
    · obtain rfl : m1 = i := by simpa using hm
      exact n1 k p a w hp hJ
    · simp at hm
  · obtain ⟨q1, rfl⟩ := fin_one hp hall
    exact fin q1 a w hJ
end

/-- Region 3. -/
def goJ3 (w : World) (xk cl ch : Nat) (l : RowL) (a0 : Act) (k : Nat) (p : List (Option Nat)) (a : Act) (v : World) : Prop :=
  ∃ y1 y2 y3 y4 y5 z1 : Value, a = ((((((a0.put (some 42) y1).put (some 44) y2).put (some 36) y3).put (some 45) y4).put (some 46) y5).put (some 10) z1) ∧ (0 < k → y1 = .agg #[.float .f64 xk, .float .f64 xk]) ∧ (1 < k → y2 = .tuple #[.agg #[.float .f64 cl, .float .f64 ch], .int .i64 0]) ∧ (2 < k → y3 = .tuple #[.agg #[.float .f64 cl, .float .f64 ch], .int .i64 0]) ∧ (3 < k → y4 = .agg #[.float .f64 cl, .float .f64 ch]) ∧ (4 < k → y5 = .int .i64 0) ∧ (∀ q, p[0]? = some (some q) → z1 = .pointer (some ⟨q, 0, none⟩)) ∧ OwnF w l [#[.float .f64 0, .float .f64 0]] p v
section
variable {w v : World} {xk cl ch : Nat} {l : RowL} {a0 a : Act} {p : List (Option Nat)}
theorem goJ3_0 (h : goJ3 w xk cl ch l a0 0 p a v) : ∃ y1 y2 y3 y4 y5 z1 : Value, a = ((((((a0.put (some 42) y1).put (some 44) y2).put (some 36) y3).put (some 45) y4).put (some 46) y5).put (some 10) z1) ∧ (∀ q, p[0]? = some (some q) → z1 = .pointer (some ⟨q, 0, none⟩)) ∧ OwnF w l [#[.float .f64 0, .float .f64 0]] p v := by
  obtain ⟨y1, y2, y3, y4, y5, z1, ha, E1, E2, E3, E4, E5, G1, h⟩ := h
  exact ⟨y1, y2, y3, y4, y5, z1, ha, G1, h⟩
theorem goJ3_1 (h : goJ3 w xk cl ch l a0 1 p a v) : ∃ y2 y3 y4 y5 z1 : Value, a = ((((((a0.put (some 42) (.agg #[.float .f64 xk, .float .f64 xk])).put (some 44) y2).put (some 36) y3).put (some 45) y4).put (some 46) y5).put (some 10) z1) ∧ (∀ q, p[0]? = some (some q) → z1 = .pointer (some ⟨q, 0, none⟩)) ∧ OwnF w l [#[.float .f64 0, .float .f64 0]] p v := by
  obtain ⟨y1, y2, y3, y4, y5, z1, ha, E1, E2, E3, E4, E5, G1, h⟩ := h
  obtain rfl := E1 (by decide)
  exact ⟨y2, y3, y4, y5, z1, ha, G1, h⟩
theorem goJ3_2 (h : goJ3 w xk cl ch l a0 2 p a v) : ∃ y3 y4 y5 z1 : Value, a = ((((((a0.put (some 42) (.agg #[.float .f64 xk, .float .f64 xk])).put (some 44) (.tuple #[.agg #[.float .f64 cl, .float .f64 ch], .int .i64 0])).put (some 36) y3).put (some 45) y4).put (some 46) y5).put (some 10) z1) ∧ (∀ q, p[0]? = some (some q) → z1 = .pointer (some ⟨q, 0, none⟩)) ∧ OwnF w l [#[.float .f64 0, .float .f64 0]] p v := by
  obtain ⟨y1, y2, y3, y4, y5, z1, ha, E1, E2, E3, E4, E5, G1, h⟩ := h
  obtain rfl := E1 (by decide)
  obtain rfl := E2 (by decide)
  exact ⟨y3, y4, y5, z1, ha, G1, h⟩
theorem goJ3_3 (h : goJ3 w xk cl ch l a0 3 p a v) : ∃ y4 y5 z1 : Value, a = ((((((a0.put (some 42) (.agg #[.float .f64 xk, .float .f64 xk])).put (some 44) (.tuple #[.agg #[.float .f64 cl, .float .f64 ch], .int .i64 0])).put (some 36) (.tuple #[.agg #[.float .f64 cl, .float .f64 ch], .int .i64 0])).put (some 45) y4).put (some 46) y5).put (some 10) z1) ∧ (∀ q, p[0]? = some (some q) → z1 = .pointer (some ⟨q, 0, none⟩)) ∧ OwnF w l [#[.float .f64 0, .float .f64 0]] p v := by
  obtain ⟨y1, y2, y3, y4, y5, z1, ha, E1, E2, E3, E4, E5, G1, h⟩ := h
  obtain rfl := E1 (by decide)
  obtain rfl := E2 (by decide)
  obtain rfl := E3 (by decide)
  exact ⟨y4, y5, z1, ha, G1, h⟩
theorem goJ3_4 (h : goJ3 w xk cl ch l a0 4 p a v) : ∃ y5 z1 : Value, a = ((((((a0.put (some 42) (.agg #[.float .f64 xk, .float .f64 xk])).put (some 44) (.tuple #[.agg #[.float .f64 cl, .float .f64 ch], .int .i64 0])).put (some 36) (.tuple #[.agg #[.float .f64 cl, .float .f64 ch], .int .i64 0])).put (some 45) (.agg #[.float .f64 cl, .float .f64 ch])).put (some 46) y5).put (some 10) z1) ∧ (∀ q, p[0]? = some (some q) → z1 = .pointer (some ⟨q, 0, none⟩)) ∧ OwnF w l [#[.float .f64 0, .float .f64 0]] p v := by
  obtain ⟨y1, y2, y3, y4, y5, z1, ha, E1, E2, E3, E4, E5, G1, h⟩ := h
  obtain rfl := E1 (by decide)
  obtain rfl := E2 (by decide)
  obtain rfl := E3 (by decide)
  obtain rfl := E4 (by decide)
  exact ⟨y5, z1, ha, G1, h⟩
theorem goJ3_fin {q1 : Nat} (h : goJ3 w xk cl ch l a0 5 [some q1] a v) : a = ((((((a0.put (some 42) (.agg #[.float .f64 xk, .float .f64 xk])).put (some 44) (.tuple #[.agg #[.float .f64 cl, .float .f64 ch], .int .i64 0])).put (some 36) (.tuple #[.agg #[.float .f64 cl, .float .f64 ch], .int .i64 0])).put (some 45) (.agg #[.float .f64 cl, .float .f64 ch])).put (some 46) (.int .i64 0)).put (some 10) (.pointer (some ⟨q1, 0, none⟩))) ∧ OwnF w l [#[.float .f64 0, .float .f64 0]] [some q1] v := by
  obtain ⟨y1, y2, y3, y4, y5, z1, ha, E1, E2, E3, E4, E5, G1, h⟩ := h
  obtain rfl := E1 (by decide)
  obtain rfl := E2 (by decide)
  obtain rfl := E3 (by decide)
  obtain rfl := E4 (by decide)
  obtain rfl := E5 (by decide)
  obtain rfl := G1 _ rfl
  exact ⟨ha, h⟩
end

/-- Region 4. -/
def goJ4 (w : World) (zl zh : Nat) (l : RowL) (a0 : Act) (k : Nat) (p : List (Option Nat)) (a : Act) (v : World) : Prop :=
  ∃ y1 y2 y3 y4 y5 z1 : Value, a = ((((((a0.put (some 48) y1).put (some 50) y2).put (some 47) y3).put (some 51) y4).put (some 52) y5).put (some 12) z1) ∧ (0 < k → y1 = .agg #[.float .f64 0, .float .f64 0]) ∧ (1 < k → y2 = .tuple #[.agg #[.float .f64 zl, .float .f64 zh], .int .i64 0]) ∧ (2 < k → y3 = .tuple #[.agg #[.float .f64 zl, .float .f64 zh], .int .i64 0]) ∧ (3 < k → y4 = .agg #[.float .f64 zl, .float .f64 zh]) ∧ (4 < k → y5 = .int .i64 0) ∧ (∀ q, p[0]? = some (some q) → z1 = .pointer (some ⟨q, 0, none⟩)) ∧ OwnF w l [#[.float .f64 0, .float .f64 0]] p v
section
variable {w v : World} {zl zh : Nat} {l : RowL} {a0 a : Act} {p : List (Option Nat)}
theorem goJ4_0 (h : goJ4 w zl zh l a0 0 p a v) : ∃ y1 y2 y3 y4 y5 z1 : Value, a = ((((((a0.put (some 48) y1).put (some 50) y2).put (some 47) y3).put (some 51) y4).put (some 52) y5).put (some 12) z1) ∧ (∀ q, p[0]? = some (some q) → z1 = .pointer (some ⟨q, 0, none⟩)) ∧ OwnF w l [#[.float .f64 0, .float .f64 0]] p v := by
  obtain ⟨y1, y2, y3, y4, y5, z1, ha, E1, E2, E3, E4, E5, G1, h⟩ := h
  exact ⟨y1, y2, y3, y4, y5, z1, ha, G1, h⟩
theorem goJ4_1 (h : goJ4 w zl zh l a0 1 p a v) : ∃ y2 y3 y4 y5 z1 : Value, a = ((((((a0.put (some 48) (.agg #[.float .f64 0, .float .f64 0])).put (some 50) y2).put (some 47) y3).put (some 51) y4).put (some 52) y5).put (some 12) z1) ∧ (∀ q, p[0]? = some (some q) → z1 = .pointer (some ⟨q, 0, none⟩)) ∧ OwnF w l [#[.float .f64 0, .float .f64 0]] p v := by
  obtain ⟨y1, y2, y3, y4, y5, z1, ha, E1, E2, E3, E4, E5, G1, h⟩ := h
  obtain rfl := E1 (by decide)
  exact ⟨y2, y3, y4, y5, z1, ha, G1, h⟩
theorem goJ4_2 (h : goJ4 w zl zh l a0 2 p a v) : ∃ y3 y4 y5 z1 : Value, a = ((((((a0.put (some 48) (.agg #[.float .f64 0, .float .f64 0])).put (some 50) (.tuple #[.agg #[.float .f64 zl, .float .f64 zh], .int .i64 0])).put (some 47) y3).put (some 51) y4).put (some 52) y5).put (some 12) z1) ∧ (∀ q, p[0]? = some (some q) → z1 = .pointer (some ⟨q, 0, none⟩)) ∧ OwnF w l [#[.float .f64 0, .float .f64 0]] p v := by
  obtain ⟨y1, y2, y3, y4, y5, z1, ha, E1, E2, E3, E4, E5, G1, h⟩ := h
  obtain rfl := E1 (by decide)
  obtain rfl := E2 (by decide)
  exact ⟨y3, y4, y5, z1, ha, G1, h⟩
theorem goJ4_3 (h : goJ4 w zl zh l a0 3 p a v) : ∃ y4 y5 z1 : Value, a = ((((((a0.put (some 48) (.agg #[.float .f64 0, .float .f64 0])).put (some 50) (.tuple #[.agg #[.float .f64 zl, .float .f64 zh], .int .i64 0])).put (some 47) (.tuple #[.agg #[.float .f64 zl, .float .f64 zh], .int .i64 0])).put (some 51) y4).put (some 52) y5).put (some 12) z1) ∧ (∀ q, p[0]? = some (some q) → z1 = .pointer (some ⟨q, 0, none⟩)) ∧ OwnF w l [#[.float .f64 0, .float .f64 0]] p v := by
  obtain ⟨y1, y2, y3, y4, y5, z1, ha, E1, E2, E3, E4, E5, G1, h⟩ := h
  obtain rfl := E1 (by decide)
  obtain rfl := E2 (by decide)
  obtain rfl := E3 (by decide)
  exact ⟨y4, y5, z1, ha, G1, h⟩
theorem goJ4_4 (h : goJ4 w zl zh l a0 4 p a v) : ∃ y5 z1 : Value, a = ((((((a0.put (some 48) (.agg #[.float .f64 0, .float .f64 0])).put (some 50) (.tuple #[.agg #[.float .f64 zl, .float .f64 zh], .int .i64 0])).put (some 47) (.tuple #[.agg #[.float .f64 zl, .float .f64 zh], .int .i64 0])).put (some 51) (.agg #[.float .f64 zl, .float .f64 zh])).put (some 52) y5).put (some 12) z1) ∧ (∀ q, p[0]? = some (some q) → z1 = .pointer (some ⟨q, 0, none⟩)) ∧ OwnF w l [#[.float .f64 0, .float .f64 0]] p v := by
  obtain ⟨y1, y2, y3, y4, y5, z1, ha, E1, E2, E3, E4, E5, G1, h⟩ := h
  obtain rfl := E1 (by decide)
  obtain rfl := E2 (by decide)
  obtain rfl := E3 (by decide)
  obtain rfl := E4 (by decide)
  exact ⟨y5, z1, ha, G1, h⟩
theorem goJ4_fin {q1 : Nat} (h : goJ4 w zl zh l a0 5 [some q1] a v) : a = ((((((a0.put (some 48) (.agg #[.float .f64 0, .float .f64 0])).put (some 50) (.tuple #[.agg #[.float .f64 zl, .float .f64 zh], .int .i64 0])).put (some 47) (.tuple #[.agg #[.float .f64 zl, .float .f64 zh], .int .i64 0])).put (some 51) (.agg #[.float .f64 zl, .float .f64 zh])).put (some 52) (.int .i64 0)).put (some 12) (.pointer (some ⟨q1, 0, none⟩))) ∧ OwnF w l [#[.float .f64 0, .float .f64 0]] [some q1] v := by
  obtain ⟨y1, y2, y3, y4, y5, z1, ha, E1, E2, E3, E4, E5, G1, h⟩ := h
  obtain rfl := E1 (by decide)
  obtain rfl := E2 (by decide)
  obtain rfl := E3 (by decide)
  obtain rfl := E4 (by decide)
  obtain rfl := E5 (by decide)
  obtain rfl := G1 _ rfl
  exact ⟨ha, h⟩
end

/-- Region 5. -/
def goJ5 (w : World) (yl yh : Nat) (l : RowL) (a0 : Act) (k : Nat) (p : List (Option Nat)) (a : Act) (v : World) : Prop :=
  ∃ y1 y2 y3 y4 y5 z1 : Value, a = ((((((a0.put (some 54) y1).put (some 56) y2).put (some 53) y3).put (some 57) y4).put (some 58) y5).put (some 14) z1) ∧ (0 < k → y1 = .agg #[.float .f64 4607182418800017408, .float .f64 4607182418800017408]) ∧ (1 < k → y2 = .tuple #[.agg #[.float .f64 yl, .float .f64 yh], .int .i64 0]) ∧ (2 < k → y3 = .tuple #[.agg #[.float .f64 yl, .float .f64 yh], .int .i64 0]) ∧ (3 < k → y4 = .agg #[.float .f64 yl, .float .f64 yh]) ∧ (4 < k → y5 = .int .i64 0) ∧ (∀ q, p[0]? = some (some q) → z1 = .pointer (some ⟨q, 0, none⟩)) ∧ OwnF w l [#[.float .f64 0, .float .f64 0]] p v
section
variable {w v : World} {yl yh : Nat} {l : RowL} {a0 a : Act} {p : List (Option Nat)}
theorem goJ5_0 (h : goJ5 w yl yh l a0 0 p a v) : ∃ y1 y2 y3 y4 y5 z1 : Value, a = ((((((a0.put (some 54) y1).put (some 56) y2).put (some 53) y3).put (some 57) y4).put (some 58) y5).put (some 14) z1) ∧ (∀ q, p[0]? = some (some q) → z1 = .pointer (some ⟨q, 0, none⟩)) ∧ OwnF w l [#[.float .f64 0, .float .f64 0]] p v := by
  obtain ⟨y1, y2, y3, y4, y5, z1, ha, E1, E2, E3, E4, E5, G1, h⟩ := h
  exact ⟨y1, y2, y3, y4, y5, z1, ha, G1, h⟩
theorem goJ5_1 (h : goJ5 w yl yh l a0 1 p a v) : ∃ y2 y3 y4 y5 z1 : Value, a = ((((((a0.put (some 54) (.agg #[.float .f64 4607182418800017408, .float .f64 4607182418800017408])).put (some 56) y2).put (some 53) y3).put (some 57) y4).put (some 58) y5).put (some 14) z1) ∧ (∀ q, p[0]? = some (some q) → z1 = .pointer (some ⟨q, 0, none⟩)) ∧ OwnF w l [#[.float .f64 0, .float .f64 0]] p v := by
  obtain ⟨y1, y2, y3, y4, y5, z1, ha, E1, E2, E3, E4, E5, G1, h⟩ := h
  obtain rfl := E1 (by decide)
  exact ⟨y2, y3, y4, y5, z1, ha, G1, h⟩
theorem goJ5_2 (h : goJ5 w yl yh l a0 2 p a v) : ∃ y3 y4 y5 z1 : Value, a = ((((((a0.put (some 54) (.agg #[.float .f64 4607182418800017408, .float .f64 4607182418800017408])).put (some 56) (.tuple #[.agg #[.float .f64 yl, .float .f64 yh], .int .i64 0])).put (some 53) y3).put (some 57) y4).put (some 58) y5).put (some 14) z1) ∧ (∀ q, p[0]? = some (some q) → z1 = .pointer (some ⟨q, 0, none⟩)) ∧ OwnF w l [#[.float .f64 0, .float .f64 0]] p v := by
  obtain ⟨y1, y2, y3, y4, y5, z1, ha, E1, E2, E3, E4, E5, G1, h⟩ := h
  obtain rfl := E1 (by decide)
  obtain rfl := E2 (by decide)
  exact ⟨y3, y4, y5, z1, ha, G1, h⟩
theorem goJ5_3 (h : goJ5 w yl yh l a0 3 p a v) : ∃ y4 y5 z1 : Value, a = ((((((a0.put (some 54) (.agg #[.float .f64 4607182418800017408, .float .f64 4607182418800017408])).put (some 56) (.tuple #[.agg #[.float .f64 yl, .float .f64 yh], .int .i64 0])).put (some 53) (.tuple #[.agg #[.float .f64 yl, .float .f64 yh], .int .i64 0])).put (some 57) y4).put (some 58) y5).put (some 14) z1) ∧ (∀ q, p[0]? = some (some q) → z1 = .pointer (some ⟨q, 0, none⟩)) ∧ OwnF w l [#[.float .f64 0, .float .f64 0]] p v := by
  obtain ⟨y1, y2, y3, y4, y5, z1, ha, E1, E2, E3, E4, E5, G1, h⟩ := h
  obtain rfl := E1 (by decide)
  obtain rfl := E2 (by decide)
  obtain rfl := E3 (by decide)
  exact ⟨y4, y5, z1, ha, G1, h⟩
theorem goJ5_4 (h : goJ5 w yl yh l a0 4 p a v) : ∃ y5 z1 : Value, a = ((((((a0.put (some 54) (.agg #[.float .f64 4607182418800017408, .float .f64 4607182418800017408])).put (some 56) (.tuple #[.agg #[.float .f64 yl, .float .f64 yh], .int .i64 0])).put (some 53) (.tuple #[.agg #[.float .f64 yl, .float .f64 yh], .int .i64 0])).put (some 57) (.agg #[.float .f64 yl, .float .f64 yh])).put (some 58) y5).put (some 14) z1) ∧ (∀ q, p[0]? = some (some q) → z1 = .pointer (some ⟨q, 0, none⟩)) ∧ OwnF w l [#[.float .f64 0, .float .f64 0]] p v := by
  obtain ⟨y1, y2, y3, y4, y5, z1, ha, E1, E2, E3, E4, E5, G1, h⟩ := h
  obtain rfl := E1 (by decide)
  obtain rfl := E2 (by decide)
  obtain rfl := E3 (by decide)
  obtain rfl := E4 (by decide)
  exact ⟨y5, z1, ha, G1, h⟩
theorem goJ5_fin {q1 : Nat} (h : goJ5 w yl yh l a0 5 [some q1] a v) : a = ((((((a0.put (some 54) (.agg #[.float .f64 4607182418800017408, .float .f64 4607182418800017408])).put (some 56) (.tuple #[.agg #[.float .f64 yl, .float .f64 yh], .int .i64 0])).put (some 53) (.tuple #[.agg #[.float .f64 yl, .float .f64 yh], .int .i64 0])).put (some 57) (.agg #[.float .f64 yl, .float .f64 yh])).put (some 58) (.int .i64 0)).put (some 14) (.pointer (some ⟨q1, 0, none⟩))) ∧ OwnF w l [#[.float .f64 0, .float .f64 0]] [some q1] v := by
  obtain ⟨y1, y2, y3, y4, y5, z1, ha, E1, E2, E3, E4, E5, G1, h⟩ := h
  obtain rfl := E1 (by decide)
  obtain rfl := E2 (by decide)
  obtain rfl := E3 (by decide)
  obtain rfl := E4 (by decide)
  obtain rfl := E5 (by decide)
  obtain rfl := G1 _ rfl
  exact ⟨ha, h⟩
end

/-- Region 18. -/
def goJ18 (w : World) (pb : Nat) (f_mlI f_mhI f_nlI f_nhI f_XI1 f_XI f_wlI f_whI f_tlI f_thI : Nat) (l : RowL) (a0 : Act) (k : Nat) (p : List (Option Nat)) (a : Act) (v : World) : Prop :=
  ∃ y1 y2 y3 y4 y5 y6 z1 : Value, a = (((((((a0.put (some 121) y1).put (some 123) y2).put (some 127) y3).put (some 130) y4).put (some 131) y5).put (some 132) y6).put (some 24) z1) ∧ (0 < k → y1 = .agg #[.float .f64 f_mlI, .float .f64 f_mhI]) ∧ (1 < k → y2 = .agg #[.float .f64 f_nlI, .float .f64 f_nhI]) ∧ (2 < k → y3 = .agg #[.float .f64 f_XI1, .float .f64 f_XI1]) ∧ (3 < k → y4 = .agg #[.float .f64 f_XI, .float .f64 f_XI]) ∧ (4 < k → y5 = .agg #[.float .f64 f_wlI, .float .f64 f_whI]) ∧ (5 < k → y6 = .agg #[.float .f64 f_tlI, .float .f64 f_thI]) ∧ (∀ q, p[0]? = some (some q) → z1 = .pointer (some ⟨q, 0, none⟩)) ∧ OwnF w ((pb, #[.int .i64 0]) :: l) [#[.float .f64 0, .float .f64 0]] p v
section
variable {w v : World} {pb : Nat} {f_mlI f_mhI f_nlI f_nhI f_XI1 f_XI f_wlI f_whI f_tlI f_thI : Nat} {l : RowL} {a0 a : Act} {p : List (Option Nat)}
theorem goJ18_0 (h : goJ18 w pb f_mlI f_mhI f_nlI f_nhI f_XI1 f_XI f_wlI f_whI f_tlI f_thI l a0 0 p a v) : ∃ y1 y2 y3 y4 y5 y6 z1 : Value, a = (((((((a0.put (some 121) y1).put (some 123) y2).put (some 127) y3).put (some 130) y4).put (some 131) y5).put (some 132) y6).put (some 24) z1) ∧ (∀ q, p[0]? = some (some q) → z1 = .pointer (some ⟨q, 0, none⟩)) ∧ OwnF w ((pb, #[.int .i64 0]) :: l) [#[.float .f64 0, .float .f64 0]] p v := by
  obtain ⟨y1, y2, y3, y4, y5, y6, z1, ha, E1, E2, E3, E4, E5, E6, G1, h⟩ := h
  exact ⟨y1, y2, y3, y4, y5, y6, z1, ha, G1, h⟩
theorem goJ18_1 (h : goJ18 w pb f_mlI f_mhI f_nlI f_nhI f_XI1 f_XI f_wlI f_whI f_tlI f_thI l a0 1 p a v) : ∃ y2 y3 y4 y5 y6 z1 : Value, a = (((((((a0.put (some 121) (.agg #[.float .f64 f_mlI, .float .f64 f_mhI])).put (some 123) y2).put (some 127) y3).put (some 130) y4).put (some 131) y5).put (some 132) y6).put (some 24) z1) ∧ (∀ q, p[0]? = some (some q) → z1 = .pointer (some ⟨q, 0, none⟩)) ∧ OwnF w ((pb, #[.int .i64 0]) :: l) [#[.float .f64 0, .float .f64 0]] p v := by
  obtain ⟨y1, y2, y3, y4, y5, y6, z1, ha, E1, E2, E3, E4, E5, E6, G1, h⟩ := h
  obtain rfl := E1 (by decide)
  exact ⟨y2, y3, y4, y5, y6, z1, ha, G1, h⟩
theorem goJ18_2 (h : goJ18 w pb f_mlI f_mhI f_nlI f_nhI f_XI1 f_XI f_wlI f_whI f_tlI f_thI l a0 2 p a v) : ∃ y3 y4 y5 y6 z1 : Value, a = (((((((a0.put (some 121) (.agg #[.float .f64 f_mlI, .float .f64 f_mhI])).put (some 123) (.agg #[.float .f64 f_nlI, .float .f64 f_nhI])).put (some 127) y3).put (some 130) y4).put (some 131) y5).put (some 132) y6).put (some 24) z1) ∧ (∀ q, p[0]? = some (some q) → z1 = .pointer (some ⟨q, 0, none⟩)) ∧ OwnF w ((pb, #[.int .i64 0]) :: l) [#[.float .f64 0, .float .f64 0]] p v := by
  obtain ⟨y1, y2, y3, y4, y5, y6, z1, ha, E1, E2, E3, E4, E5, E6, G1, h⟩ := h
  obtain rfl := E1 (by decide)
  obtain rfl := E2 (by decide)
  exact ⟨y3, y4, y5, y6, z1, ha, G1, h⟩
theorem goJ18_3 (h : goJ18 w pb f_mlI f_mhI f_nlI f_nhI f_XI1 f_XI f_wlI f_whI f_tlI f_thI l a0 3 p a v) : ∃ y4 y5 y6 z1 : Value, a = (((((((a0.put (some 121) (.agg #[.float .f64 f_mlI, .float .f64 f_mhI])).put (some 123) (.agg #[.float .f64 f_nlI, .float .f64 f_nhI])).put (some 127) (.agg #[.float .f64 f_XI1, .float .f64 f_XI1])).put (some 130) y4).put (some 131) y5).put (some 132) y6).put (some 24) z1) ∧ (∀ q, p[0]? = some (some q) → z1 = .pointer (some ⟨q, 0, none⟩)) ∧ OwnF w ((pb, #[.int .i64 0]) :: l) [#[.float .f64 0, .float .f64 0]] p v := by
  obtain ⟨y1, y2, y3, y4, y5, y6, z1, ha, E1, E2, E3, E4, E5, E6, G1, h⟩ := h
  obtain rfl := E1 (by decide)
  obtain rfl := E2 (by decide)
  obtain rfl := E3 (by decide)
  exact ⟨y4, y5, y6, z1, ha, G1, h⟩
theorem goJ18_4 (h : goJ18 w pb f_mlI f_mhI f_nlI f_nhI f_XI1 f_XI f_wlI f_whI f_tlI f_thI l a0 4 p a v) : ∃ y5 y6 z1 : Value, a = (((((((a0.put (some 121) (.agg #[.float .f64 f_mlI, .float .f64 f_mhI])).put (some 123) (.agg #[.float .f64 f_nlI, .float .f64 f_nhI])).put (some 127) (.agg #[.float .f64 f_XI1, .float .f64 f_XI1])).put (some 130) (.agg #[.float .f64 f_XI, .float .f64 f_XI])).put (some 131) y5).put (some 132) y6).put (some 24) z1) ∧ (∀ q, p[0]? = some (some q) → z1 = .pointer (some ⟨q, 0, none⟩)) ∧ OwnF w ((pb, #[.int .i64 0]) :: l) [#[.float .f64 0, .float .f64 0]] p v := by
  obtain ⟨y1, y2, y3, y4, y5, y6, z1, ha, E1, E2, E3, E4, E5, E6, G1, h⟩ := h
  obtain rfl := E1 (by decide)
  obtain rfl := E2 (by decide)
  obtain rfl := E3 (by decide)
  obtain rfl := E4 (by decide)
  exact ⟨y5, y6, z1, ha, G1, h⟩
theorem goJ18_5 (h : goJ18 w pb f_mlI f_mhI f_nlI f_nhI f_XI1 f_XI f_wlI f_whI f_tlI f_thI l a0 5 p a v) : ∃ y6 z1 : Value, a = (((((((a0.put (some 121) (.agg #[.float .f64 f_mlI, .float .f64 f_mhI])).put (some 123) (.agg #[.float .f64 f_nlI, .float .f64 f_nhI])).put (some 127) (.agg #[.float .f64 f_XI1, .float .f64 f_XI1])).put (some 130) (.agg #[.float .f64 f_XI, .float .f64 f_XI])).put (some 131) (.agg #[.float .f64 f_wlI, .float .f64 f_whI])).put (some 132) y6).put (some 24) z1) ∧ (∀ q, p[0]? = some (some q) → z1 = .pointer (some ⟨q, 0, none⟩)) ∧ OwnF w ((pb, #[.int .i64 0]) :: l) [#[.float .f64 0, .float .f64 0]] p v := by
  obtain ⟨y1, y2, y3, y4, y5, y6, z1, ha, E1, E2, E3, E4, E5, E6, G1, h⟩ := h
  obtain rfl := E1 (by decide)
  obtain rfl := E2 (by decide)
  obtain rfl := E3 (by decide)
  obtain rfl := E4 (by decide)
  obtain rfl := E5 (by decide)
  exact ⟨y6, z1, ha, G1, h⟩
theorem goJ18_fin {q1 : Nat} (h : goJ18 w pb f_mlI f_mhI f_nlI f_nhI f_XI1 f_XI f_wlI f_whI f_tlI f_thI l a0 6 [some q1] a v) : a = (((((((a0.put (some 121) (.agg #[.float .f64 f_mlI, .float .f64 f_mhI])).put (some 123) (.agg #[.float .f64 f_nlI, .float .f64 f_nhI])).put (some 127) (.agg #[.float .f64 f_XI1, .float .f64 f_XI1])).put (some 130) (.agg #[.float .f64 f_XI, .float .f64 f_XI])).put (some 131) (.agg #[.float .f64 f_wlI, .float .f64 f_whI])).put (some 132) (.agg #[.float .f64 f_tlI, .float .f64 f_thI])).put (some 24) (.pointer (some ⟨q1, 0, none⟩))) ∧ OwnF w ((pb, #[.int .i64 0]) :: l) [#[.float .f64 0, .float .f64 0]] [some q1] v := by
  obtain ⟨y1, y2, y3, y4, y5, y6, z1, ha, E1, E2, E3, E4, E5, E6, G1, h⟩ := h
  obtain rfl := E1 (by decide)
  obtain rfl := E2 (by decide)
  obtain rfl := E3 (by decide)
  obtain rfl := E4 (by decide)
  obtain rfl := E5 (by decide)
  obtain rfl := E6 (by decide)
  obtain rfl := G1 _ rfl
  exact ⟨ha, h⟩
end

/-- What a round begins with. -/
def GoRel (w : World) (pc pl ph : Nat) (Ll Lh Hl Hh : Nat → Nat) (K N : Nat) (rest : RowL) (i : Value) (v : World) : Prop :=
  ∃ I : Nat, K ≤ I ∧ I ≤ N ∧ i = .int .i64 (I : Int) ∧ Own w ((pc, #[.int .i64 0]) :: (pl, #[.float .f64 (Ll I), .float .f64 (Lh I)]) :: (ph, #[.float .f64 (Hl I), .float .f64 (Hh I)]) :: rest) v

set_option maxRecDepth 100000 in
set_option maxHeartbeats 16000000 in
theorem once_law {u0 m0 k0 mr N K f xk cl ch zl zh yl yh al ah : Nat} {X Ll Lh Hl Hh dl dh ml mh nl nh wl wh tl th : Nat → Nat} (w : World)
    (hr : (m0 : Int) % 64 = (mr : Int)) (_hr0 : (0 : Int) ≤ mr) (_hr1 : (mr : Int) < 64) (hn : 1 + (mr : Int) = (N : Int)) (_hn1 : (1 : Int) ≤ N) (_hn2 : (N : Int) ≤ 64) (hk : (k0 : Int) % (N : Int) = (K : Int)) (hk1 : K < N) (hm0 : (m0 : Int) < 256) (hk0 : (k0 : Int) < 256)
    (c1 : Hid (∀ w, Calls Try.prog 16 #[.float .f64 4593671619917905920, .float .f64 4607182418800017408, .int .u32 u0] w fun r w' => r = .returned (.float .f64 f) ∧ w = w'))
    (c2 : Hid (∀ w, Calls Try.prog 15 #[.float .f64 f] w fun r w' => r = .returned (.agg #[.float .f64 f, .float .f64 f]) ∧ Below w.heap.size w w'))
    (q_xk : (∀ w, (binOp .quo 22 (.float .f64 (floatOfInt .f64 (K : Int))) (.float .f64 (floatOfInt .f64 (N : Int)))).run Try.prog w = .ok (.float .f64 xk) w))
    (c3 : Hid (∀ w, Calls Try.prog 15 #[.float .f64 xk] w fun r w' => r = .returned (.agg #[.float .f64 xk, .float .f64 xk]) ∧ Below w.heap.size w w'))
    (c4 : Hid (∀ w, Calls Try.prog 17 #[.agg #[.float .f64 xk, .float .f64 xk], .agg #[.float .f64 f, .float .f64 f]] w fun r w' => r = .returned (.tuple #[.agg #[.float .f64 cl, .float .f64 ch], .int .i64 0]) ∧ Below w.heap.size w w'))
    (c5 : Hid (∀ w, Calls Try.prog 15 #[.float .f64 0] w fun r w' => r = .returned (.agg #[.float .f64 0, .float .f64 0]) ∧ Below w.heap.size w w'))
    (c6 : Hid (∀ w, Calls Try.prog 17 #[.agg #[.float .f64 0, .float .f64 0], .agg #[.float .f64 f, .float .f64 f]] w fun r w' => r = .returned (.tuple #[.agg #[.float .f64 zl, .float .f64 zh], .int .i64 0]) ∧ Below w.heap.size w w'))
    (c7 : Hid (∀ w, Calls Try.prog 15 #[.float .f64 4607182418800017408] w fun r w' => r = .returned (.agg #[.float .f64 4607182418800017408, .float .f64 4607182418800017408]) ∧ Below w.heap.size w w'))
    (c8 : Hid (∀ w, Calls Try.prog 17 #[.agg #[.float .f64 4607182418800017408, .float .f64 4607182418800017408], .agg #[.float .f64 f, .float .f64 f]] w fun r w' => r = .returned (.tuple #[.agg #[.float .f64 yl, .float .f64 yh], .int .i64 0]) ∧ Below w.heap.size w w'))
    (e_zl_418800017408 : (Op.floatEq .f64 zl 4607182418800017408 = true))
    (e_zh_418800017408 : (Op.floatEq .f64 zh 4607182418800017408 = true))
    (e_yl_0 : (Op.floatEq .f64 yl 0 = true))
    (e_yh_0 : (Op.floatEq .f64 yh 0 = true))
    (d10 : Hid (KN 19 0 0 4611686018427387904 4611686018427387904 4611686018427387904))
    (c11 : Hid (∀ w, Calls Try.prog 20 #[] w fun r w' => r = .returned (.agg #[.float .f64 4614256656552045848, .float .f64 4614256656552045849]) ∧ Below w.heap.size w w'))
    (d12 : Hid (K2 18 0 0 4611686018427387904 4611686018427387904 4614256656552045848 4614256656552045849 al ah))
    (d13 : Hid (KN 19 0 0 0 0 0))
    (cX : Hid (∀ I, I ≤ N → ∀ w : World, Calls Try.prog 15 #[.float .f64 (X I)] w fun r w' => r = .returned (.agg #[.float .f64 (X I), .float .f64 (X I)]) ∧ Below w.heap.size w w'))
    (qX : Hid (∀ I : Nat, I ≤ N → ∀ w : World, (binOp .quo 22 (.float .f64 (floatOfInt .f64 (I : Int))) (.float .f64 (floatOfInt .f64 (N : Int)))).run Try.prog w = .ok (.float .f64 (X I)) w))
    (cD : Hid (∀ I, K ≤ I → I < N → ∀ w : World, Calls Try.prog 21 #[.agg #[.float .f64 (X I), .float .f64 (X (I + 1))], .agg #[.float .f64 f, .float .f64 f]] w fun r w' => r = .returned (.tuple #[.agg #[.float .f64 (dl I), .float .f64 (dh I)], .int .i64 0]) ∧ Below w.heap.size w w'))
    (cM : Hid (∀ I, K ≤ I → I < N → K2 18 0 0 al ah (dl I) (dh I) (ml I) (mh I)))
    (cN : Hid (∀ I, K ≤ I → I < N → K2 18 0 0 (ml I) (mh I) (X I) (X (I + 1)) (nl I) (nh I)))
    (cW : Hid (∀ I, K ≤ I → I < N → K2 22 0 0 (X (I + 1)) (X (I + 1)) (X I) (X I) (wl I) (wh I)))
    (cT : Hid (∀ I, K ≤ I → I < N → K2 18 0 0 (nl I) (nh I) (wl I) (wh I) (tl I) (th I)))
    (cP : Hid (∀ I, K ≤ I → I < N → ∀ w : World, Calls Try.prog 15 #[.float .f64 (tl I)] w fun r w' => r = .returned (.agg #[.float .f64 (tl I), .float .f64 (tl I)]) ∧ Below w.heap.size w w'))
    (cQ : Hid (∀ I, K ≤ I → I < N → ∀ w : World, Calls Try.prog 15 #[.float .f64 (th I)] w fun r w' => r = .returned (.agg #[.float .f64 (th I), .float .f64 (th I)]) ∧ Below w.heap.size w w'))
    (cL : Hid (∀ I, K ≤ I → I < N → K2 23 0 0 (Ll I) (Lh I) (tl I) (tl I) (Ll (I + 1)) (Lh (I + 1))))
    (cH : Hid (∀ I, K ≤ I → I < N → K2 23 0 0 (Hl I) (Hh I) (th I) (th I) (Hl (I + 1)) (Hh (I + 1))))
    (o_leqLlN_ch : Hid (((FloatKind.f64.format.order (Ll N) ch == some Ordering.lt) || (FloatKind.f64.format.order (Ll N) ch == some Ordering.eq)) = true))
    (o_leqcl_HhN : Hid (((FloatKind.f64.format.order cl (Hh N) == some Ordering.lt) || (FloatKind.f64.format.order cl (Hh N) == some Ordering.eq)) = true))
    (c27 : Hid (∀ w, Calls Try.prog 24 #[] w fun r w' => r = .returned (.bool true) ∧ Below w.heap.size w w'))
    (hL0 : Hid (Ll K = 0 ∧ Lh K = 0 ∧ Hl K = 0 ∧ Hh K = 0)) :
    Calls Try.prog 4 #[.int .u32 u0, .int .u8 m0, .int .u8 k0] w fun r w' => r = .returned (.bool true) ∧ Below w.heap.size w w' := by
  have M := Lib.hid (Own.nil w)
  have eqF := eq_floats
  go_enter Try.func4, Try.ntmps4
  go_wp2_with fail
  refine (c1.out _).mono ?_
  rintro r w1_ ⟨rfl, rfl⟩
  go_wp2_with fail
  refine (c2.out _).mono ?_
  rintro r w2_ ⟨rfl, hb⟩
  replace M := Lib.hid (M.out.below hb)
  clear hb
  replace M := Lib.hid (M.out.made #[.float .f64 f, .float .f64 f] 27)
  go_upto_region 3 with fail
  simp only [hr, hk]
  replace M := Lib.hid M.out.drew
  revert M
  generalize (w2_.alloc (.cells #[.float .f64 f, .float .f64 f] 27)) = W3_
  intro M
  refine wp_region_noPanic ?_
  refine tails_region (S := fun w' => (w'.cell? ⟨w2_.heap.size, 0, none⟩ = some (.float .f64 f) ∧ w'.cell? ⟨w2_.heap.size, 1, none⟩ = some (.float .f64 f))) [] (by kernel_rfl) ?_ (fun hS => ?_)
  · exact (M.out.nth 0 rfl).two
  refine tk (x := ?_) 0 rfl (by kernel_rfl) ⟨by kernel_rfl, ?_⟩ (fun _ _ _ h => h) hS ?_
  rotate_left; focus (intro w hSw; (try dsimp only at hSw); go_simp; try with_reducible rfl)
  refine tk (x := ?_) 1 rfl (by kernel_rfl) ⟨by kernel_rfl, ?_⟩ (fun _ _ _ h => h) hS ?_
  rotate_left; focus (intro w hSw; (try dsimp only at hSw); go_simp; try with_reducible rfl)
  refine tk (x := ?_) 2 rfl (by kernel_rfl) ⟨by kernel_rfl, ?_⟩ (fun _ _ _ h => h) hS ?_
  rotate_left; focus (intro w hSw; (try dsimp only at hSw); go_simp; try with_reducible rfl)
  refine tk (x := ?_) 3 rfl (by kernel_rfl) ⟨by kernel_rfl, ?_⟩ (fun _ _ _ h => h) hS ?_
  rotate_left; focus (intro w hSw; (try dsimp only at hSw); go_simp; try with_reducible rfl)
  refine tk (x := ?_) 4 rfl (by kernel_rfl) ⟨by kernel_rfl, ?_⟩ (fun _ _ _ h => h) hS ?_
  rotate_left; focus (intro w hSw; (try dsimp only at hSw); go_simp; try with_reducible rfl)
  refine tk (x := ?_) 6 rfl (by kernel_rfl) ⟨by kernel_rfl, ?_⟩ (fun _ _ _ h => h) hS ?_
  rotate_left; focus (intro w hSw; (try dsimp only at hSw); go_simp; try with_reducible rfl)
  conv => arg 9; simp only [Act.put, go_sem]
  refine lp_ccppp_1 M 5 7 8 9 10 11 [42, 44, 36, 45, 46, 10] 2 (goJ3 w xk cl ch) (by kernel_rfl) (by kernel_rfl) ?_ ?_ ?_ ?_ ?_ ?_ ?_ ?_ ?_
  · intro A hA
    obtain ⟨y1, hq1⟩ := put_ex (hA 42 (by simp))
    obtain ⟨y2, hq2⟩ := put_ex (hA 44 (by simp))
    obtain ⟨y3, hq3⟩ := put_ex (hA 36 (by simp))
    obtain ⟨y4, hq4⟩ := put_ex (hA 45 (by simp))
    obtain ⟨y5, hq5⟩ := put_ex (hA 46 (by simp))
    obtain ⟨z1, hq6⟩ := put_ex (hA 10 (by simp))
    exact ⟨y1, y2, y3, y4, y5, z1, by rw [hq1, hq2, hq3, hq4, hq5, hq6], by omega, by omega, by omega, by omega, by omega, by simp, OwnF.start M.out 1⟩
  · rintro k p a v ⟨y1, y2, y3, y4, y5, z1, _, _, _, _, _, _, _, h⟩
    exact (h.own.nth 0 rfl).two
  · intro p a v hJ
    refine op_step (o := _) rfl (fun K hK => ?_)
    obtain ⟨y1, y2, y3, y4, y5, z1, ha, gg1, h⟩ := goJ3_0 hJ
    have h := Lib.hid h
    clear hJ
    subst ha
    go_simp
    refine (c3.out _).mono ?_
    rintro rr w5 ⟨rfl, hp⟩
    try go_wp2_with fail
    refine hK.out _ _ ⟨_, y2, y3, y4, y5, z1, ?_, fun _ => rfl, by omega, by omega, by omega, by omega, gg1, h.out.below hp⟩
    kernel_rfl
  · intro p a v hJ
    refine op_step (o := _) rfl (fun K hK => ?_)
    obtain ⟨y2, y3, y4, y5, z1, ha, gg1, h⟩ := goJ3_1 hJ
    have h := Lib.hid h
    clear hJ
    subst ha
    go_simp
    refine (c4.out _).mono ?_
    rintro rr w5 ⟨rfl, hp⟩
    try go_wp2_with fail
    refine hK.out _ _ ⟨_, _, y3, y4, y5, z1, ?_, fun _ => rfl, fun _ => rfl, by omega, by omega, by omega, gg1, h.out.below hp⟩
    kernel_rfl
  · intro p a v hJ
    replace hJ := goJ3_2 hJ
    refine Exists.elim hJ (fun y3 hJ => ?_)
    refine Exists.elim hJ (fun y4 hJ => ?_)
    refine Exists.elim hJ (fun y5 hJ => ?_)
    refine Exists.elim hJ (fun z1 hJ => ?_)
    have ha := hJ.1
    have gg1 := hJ.2.1
    have h := hJ.2.2
    clear hJ
    subst ha
    refine ⟨_, .tuple #[.agg #[.float .f64 cl, .float .f64 ch], .int .i64 0], rfl, Or.inl ⟨by kernel_rfl, ?_⟩, (fun _ _ _ h => h), _, _, _, y4, y5, z1, ?_, fun _ => rfl, fun _ => rfl, fun _ => rfl, by omega, by omega, gg1, h⟩
    · intro w hSw; clear hSw h; go_simp; try with_reducible rfl
    · kernel_rfl
  · intro p a v hJ
    replace hJ := goJ3_3 hJ
    refine Exists.elim hJ (fun y4 hJ => ?_)
    refine Exists.elim hJ (fun y5 hJ => ?_)
    refine Exists.elim hJ (fun z1 hJ => ?_)
    have ha := hJ.1
    have gg1 := hJ.2.1
    have h := hJ.2.2
    clear hJ
    subst ha
    refine ⟨_, .agg #[.float .f64 cl, .float .f64 ch], rfl, Or.inl ⟨by kernel_rfl, ?_⟩, (fun _ _ _ h => h), _, _, _, _, y5, z1, ?_, fun _ => rfl, fun _ => rfl, fun _ => rfl, fun _ => rfl, by omega, gg1, h⟩
    · intro w hSw; clear hSw h; go_simp; try with_reducible rfl
    · kernel_rfl
  · intro p a v hJ
    replace hJ := goJ3_4 hJ
    refine Exists.elim hJ (fun y5 hJ => ?_)
    refine Exists.elim hJ (fun z1 hJ => ?_)
    have ha := hJ.1
    have gg1 := hJ.2.1
    have h := hJ.2.2
    clear hJ
    subst ha
    refine ⟨_, .int .i64 0, rfl, Or.inl ⟨by kernel_rfl, ?_⟩, (fun _ _ _ h => h), _, _, _, _, _, z1, ?_, fun _ => rfl, fun _ => rfl, fun _ => rfl, fun _ => rfl, fun _ => rfl, gg1, h⟩
    · intro w hSw; clear hSw h; go_simp; try with_reducible rfl
    · kernel_rfl
  · intro k p a v hp hJ
    refine op_step (o := _) rfl (fun K hK => ?_)
    obtain ⟨y1, y2, y3, y4, y5, z1, ha, ee1, ee2, ee3, ee4, ee5, gg1, h⟩ := hJ
    have h := Lib.hid h
    subst ha
    go_simp
    refine hK.out _ _ ⟨v.heap.size, y1, y2, y3, y4, y5, .pointer (some ⟨v.heap.size, 0, none⟩), ?_, ee1, ee2, ee3, ee4, ee5, fun q hq => ptr_set hq, h.out.alloc hp rfl _⟩
    kernel_rfl
  intro p3_1 a v hJ
  obtain ⟨rfl, h⟩ := goJ3_fin hJ
  clear hJ
  replace M := Lib.hid h.fin1
  clear h
  refine tails_one (T := []) (i := 12) (o := _) rfl (by kernel_rfl) (fun K hK => ?_)
  have kc := (M.out.nth 0 rfl).2.1
  have kf := (M.out.nth 0 rfl).2.2
  replace M : Hid (Own w [(p3_1, #[.float .f64 cl, .float .f64 ch]), (w2_.heap.size, #[.float .f64 f, .float .f64 f])] _) := Lib.hid (M.out.set2 0 rfl (.float .f64 cl) (.float .f64 ch))
  go_simp
  refine hK.out _ _ (Or.inr (M.out.nth 1 rfl).two) (fun hHeld => ?_)
  clear hK K hHeld kc kf
  refine tails_one (T := []) (i := 13) (o := _) rfl (by kernel_rfl) (fun K hK => ?_)
  go_simp
  refine hK.out _ _ (Or.inr (M.out.nth 1 rfl).two) (fun hHeld => ?_)
  clear hK K hHeld
  refine tails_done (by kernel_rfl) ?_ _
  refine NoPanic.normal ?_
  clear hS
  revert M
  generalize ((v.setCell ⟨p3_1, 0, none⟩ (.float .f64 cl)).setCell ⟨p3_1, 1, none⟩ (.float .f64 ch)) = W4_
  intro M
  go_upto_region 4 with fail
  replace M := Lib.hid M.out.drew
  refine wp_region_noPanic ?_
  refine tails_region (S := fun w' => (w'.cell? ⟨w2_.heap.size, 0, none⟩ = some (.float .f64 f) ∧ w'.cell? ⟨w2_.heap.size, 1, none⟩ = some (.float .f64 f))) [] (by kernel_rfl) ?_ (fun hS => ?_)
  · exact (M.out.nth 1 rfl).two
  refine tk (x := ?_) 1 rfl (by kernel_rfl) ⟨by kernel_rfl, ?_⟩ (fun _ _ _ h => h) hS ?_
  rotate_left; focus (intro w hSw; (try dsimp only at hSw); go_simp; try with_reducible rfl)
  conv => arg 9; simp only [Act.put, go_sem]
  refine lp_ccppp_1 M 0 2 3 4 5 6 [48, 50, 47, 51, 52, 12] 2 (goJ4 w zl zh) (by kernel_rfl) (by kernel_rfl) ?_ ?_ ?_ ?_ ?_ ?_ ?_ ?_ ?_
  · intro A hA
    obtain ⟨y1, hq1⟩ := put_ex (hA 48 (by simp))
    obtain ⟨y2, hq2⟩ := put_ex (hA 50 (by simp))
    obtain ⟨y3, hq3⟩ := put_ex (hA 47 (by simp))
    obtain ⟨y4, hq4⟩ := put_ex (hA 51 (by simp))
    obtain ⟨y5, hq5⟩ := put_ex (hA 52 (by simp))
    obtain ⟨z1, hq6⟩ := put_ex (hA 12 (by simp))
    exact ⟨y1, y2, y3, y4, y5, z1, by rw [hq1, hq2, hq3, hq4, hq5, hq6], by omega, by omega, by omega, by omega, by omega, by simp, OwnF.start M.out 1⟩
  · rintro k p a v ⟨y1, y2, y3, y4, y5, z1, _, _, _, _, _, _, _, h⟩
    exact (h.own.nth 1 rfl).two
  · intro p a v hJ
    refine op_step (o := _) rfl (fun K hK => ?_)
    obtain ⟨y1, y2, y3, y4, y5, z1, ha, gg1, h⟩ := goJ4_0 hJ
    have h := Lib.hid h
    clear hJ
    subst ha
    go_simp
    refine (c5.out _).mono ?_
    rintro rr w5 ⟨rfl, hp⟩
    try go_wp2_with fail
    refine hK.out _ _ ⟨_, y2, y3, y4, y5, z1, ?_, fun _ => rfl, by omega, by omega, by omega, by omega, gg1, h.out.below hp⟩
    kernel_rfl
  · intro p a v hJ
    refine op_step (o := _) rfl (fun K hK => ?_)
    obtain ⟨y2, y3, y4, y5, z1, ha, gg1, h⟩ := goJ4_1 hJ
    have h := Lib.hid h
    clear hJ
    subst ha
    go_simp
    refine (c6.out _).mono ?_
    rintro rr w5 ⟨rfl, hp⟩
    try go_wp2_with fail
    refine hK.out _ _ ⟨_, _, y3, y4, y5, z1, ?_, fun _ => rfl, fun _ => rfl, by omega, by omega, by omega, gg1, h.out.below hp⟩
    kernel_rfl
  · intro p a v hJ
    replace hJ := goJ4_2 hJ
    refine Exists.elim hJ (fun y3 hJ => ?_)
    refine Exists.elim hJ (fun y4 hJ => ?_)
    refine Exists.elim hJ (fun y5 hJ => ?_)
    refine Exists.elim hJ (fun z1 hJ => ?_)
    have ha := hJ.1
    have gg1 := hJ.2.1
    have h := hJ.2.2
    clear hJ
    subst ha
    refine ⟨_, .tuple #[.agg #[.float .f64 zl, .float .f64 zh], .int .i64 0], rfl, Or.inl ⟨by kernel_rfl, ?_⟩, (fun _ _ _ h => h), _, _, _, y4, y5, z1, ?_, fun _ => rfl, fun _ => rfl, fun _ => rfl, by omega, by omega, gg1, h⟩
    · intro w hSw; clear hSw h; go_simp; try with_reducible rfl
    · kernel_rfl
  · intro p a v hJ
    replace hJ := goJ4_3 hJ
    refine Exists.elim hJ (fun y4 hJ => ?_)
    refine Exists.elim hJ (fun y5 hJ => ?_)
    refine Exists.elim hJ (fun z1 hJ => ?_)
    have ha := hJ.1
    have gg1 := hJ.2.1
    have h := hJ.2.2
    clear hJ
    subst ha
    refine ⟨_, .agg #[.float .f64 zl, .float .f64 zh], rfl, Or.inl ⟨by kernel_rfl, ?_⟩, (fun _ _ _ h => h), _, _, _, _, y5, z1, ?_, fun _ => rfl, fun _ => rfl, fun _ => rfl, fun _ => rfl, by omega, gg1, h⟩
    · intro w hSw; clear hSw h; go_simp; try with_reducible rfl
    · kernel_rfl
  · intro p a v hJ
    replace hJ := goJ4_4 hJ
    refine Exists.elim hJ (fun y5 hJ => ?_)
    refine Exists.elim hJ (fun z1 hJ => ?_)
    have ha := hJ.1
    have gg1 := hJ.2.1
    have h := hJ.2.2
    clear hJ
    subst ha
    refine ⟨_, .int .i64 0, rfl, Or.inl ⟨by kernel_rfl, ?_⟩, (fun _ _ _ h => h), _, _, _, _, _, z1, ?_, fun _ => rfl, fun _ => rfl, fun _ => rfl, fun _ => rfl, fun _ => rfl, gg1, h⟩
    · intro w hSw; clear hSw h; go_simp; try with_reducible rfl
    · kernel_rfl
  · intro k p a v hp hJ
    refine op_step (o := _) rfl (fun K hK => ?_)
    obtain ⟨y1, y2, y3, y4, y5, z1, ha, ee1, ee2, ee3, ee4, ee5, gg1, h⟩ := hJ
    have h := Lib.hid h
    subst ha
    go_simp
    refine hK.out _ _ ⟨v.heap.size, y1, y2, y3, y4, y5, .pointer (some ⟨v.heap.size, 0, none⟩), ?_, ee1, ee2, ee3, ee4, ee5, fun q hq => ptr_set hq, h.out.alloc hp rfl _⟩
    kernel_rfl
  intro p4_1 a v hJ
  obtain ⟨rfl, h⟩ := goJ4_fin hJ
  clear hJ
  replace M := Lib.hid h.fin1
  clear h
  refine tails_one (T := []) (i := 7) (o := _) rfl (by kernel_rfl) (fun K hK => ?_)
  have kc := (M.out.nth 0 rfl).2.1
  have kf := (M.out.nth 0 rfl).2.2
  replace M : Hid (Own w [(p4_1, #[.float .f64 zl, .float .f64 zh]), (p3_1, #[.float .f64 cl, .float .f64 ch]), (w2_.heap.size, #[.float .f64 f, .float .f64 f])] _) := Lib.hid (M.out.set2 0 rfl (.float .f64 zl) (.float .f64 zh))
  go_simp
  refine hK.out _ _ (Or.inr (M.out.nth 2 rfl).two) (fun hHeld => ?_)
  clear hK K hHeld kc kf
  refine tails_one (T := []) (i := 8) (o := _) rfl (by kernel_rfl) (fun K hK => ?_)
  go_simp
  refine hK.out _ _ (Or.inr (M.out.nth 2 rfl).two) (fun hHeld => ?_)
  clear hK K hHeld
  refine tails_done (by kernel_rfl) ?_ _
  refine NoPanic.normal ?_
  clear hS
  revert M
  generalize ((v.setCell ⟨p4_1, 0, none⟩ (.float .f64 zl)).setCell ⟨p4_1, 1, none⟩ (.float .f64 zh)) = W5_
  intro M
  go_upto_region 5 with fail
  replace M := Lib.hid M.out.drew
  refine wp_region_noPanic ?_
  refine tails_region (S := fun w' => (w'.cell? ⟨w2_.heap.size, 0, none⟩ = some (.float .f64 f) ∧ w'.cell? ⟨w2_.heap.size, 1, none⟩ = some (.float .f64 f))) [] (by kernel_rfl) ?_ (fun hS => ?_)
  · exact (M.out.nth 2 rfl).two
  refine tk (x := ?_) 1 rfl (by kernel_rfl) ⟨by kernel_rfl, ?_⟩ (fun _ _ _ h => h) hS ?_
  rotate_left; focus (intro w hSw; (try dsimp only at hSw); go_simp; try with_reducible rfl)
  conv => arg 9; simp only [Act.put, go_sem]
  refine lp_ccppp_1 M 0 2 3 4 5 6 [54, 56, 53, 57, 58, 14] 2 (goJ5 w yl yh) (by kernel_rfl) (by kernel_rfl) ?_ ?_ ?_ ?_ ?_ ?_ ?_ ?_ ?_
  · intro A hA
    obtain ⟨y1, hq1⟩ := put_ex (hA 54 (by simp))
    obtain ⟨y2, hq2⟩ := put_ex (hA 56 (by simp))
    obtain ⟨y3, hq3⟩ := put_ex (hA 53 (by simp))
    obtain ⟨y4, hq4⟩ := put_ex (hA 57 (by simp))
    obtain ⟨y5, hq5⟩ := put_ex (hA 58 (by simp))
    obtain ⟨z1, hq6⟩ := put_ex (hA 14 (by simp))
    exact ⟨y1, y2, y3, y4, y5, z1, by rw [hq1, hq2, hq3, hq4, hq5, hq6], by omega, by omega, by omega, by omega, by omega, by simp, OwnF.start M.out 1⟩
  · rintro k p a v ⟨y1, y2, y3, y4, y5, z1, _, _, _, _, _, _, _, h⟩
    exact (h.own.nth 2 rfl).two
  · intro p a v hJ
    refine op_step (o := _) rfl (fun K hK => ?_)
    obtain ⟨y1, y2, y3, y4, y5, z1, ha, gg1, h⟩ := goJ5_0 hJ
    have h := Lib.hid h
    clear hJ
    subst ha
    go_simp
    refine (c7.out _).mono ?_
    rintro rr w5 ⟨rfl, hp⟩
    try go_wp2_with fail
    refine hK.out _ _ ⟨_, y2, y3, y4, y5, z1, ?_, fun _ => rfl, by omega, by omega, by omega, by omega, gg1, h.out.below hp⟩
    kernel_rfl
  · intro p a v hJ
    refine op_step (o := _) rfl (fun K hK => ?_)
    obtain ⟨y2, y3, y4, y5, z1, ha, gg1, h⟩ := goJ5_1 hJ
    have h := Lib.hid h
    clear hJ
    subst ha
    go_simp
    refine (c8.out _).mono ?_
    rintro rr w5 ⟨rfl, hp⟩
    try go_wp2_with fail
    refine hK.out _ _ ⟨_, _, y3, y4, y5, z1, ?_, fun _ => rfl, fun _ => rfl, by omega, by omega, by omega, gg1, h.out.below hp⟩
    kernel_rfl
  · intro p a v hJ
    replace hJ := goJ5_2 hJ
    refine Exists.elim hJ (fun y3 hJ => ?_)
    refine Exists.elim hJ (fun y4 hJ => ?_)
    refine Exists.elim hJ (fun y5 hJ => ?_)
    refine Exists.elim hJ (fun z1 hJ => ?_)
    have ha := hJ.1
    have gg1 := hJ.2.1
    have h := hJ.2.2
    clear hJ
    subst ha
    refine ⟨_, .tuple #[.agg #[.float .f64 yl, .float .f64 yh], .int .i64 0], rfl, Or.inl ⟨by kernel_rfl, ?_⟩, (fun _ _ _ h => h), _, _, _, y4, y5, z1, ?_, fun _ => rfl, fun _ => rfl, fun _ => rfl, by omega, by omega, gg1, h⟩
    · intro w hSw; clear hSw h; go_simp; try with_reducible rfl
    · kernel_rfl
  · intro p a v hJ
    replace hJ := goJ5_3 hJ
    refine Exists.elim hJ (fun y4 hJ => ?_)
    refine Exists.elim hJ (fun y5 hJ => ?_)
    refine Exists.elim hJ (fun z1 hJ => ?_)
    have ha := hJ.1
    have gg1 := hJ.2.1
    have h := hJ.2.2
    clear hJ
    subst ha
    refine ⟨_, .agg #[.float .f64 yl, .float .f64 yh], rfl, Or.inl ⟨by kernel_rfl, ?_⟩, (fun _ _ _ h => h), _, _, _, _, y5, z1, ?_, fun _ => rfl, fun _ => rfl, fun _ => rfl, fun _ => rfl, by omega, gg1, h⟩
    · intro w hSw; clear hSw h; go_simp; try with_reducible rfl
    · kernel_rfl
  · intro p a v hJ
    replace hJ := goJ5_4 hJ
    refine Exists.elim hJ (fun y5 hJ => ?_)
    refine Exists.elim hJ (fun z1 hJ => ?_)
    have ha := hJ.1
    have gg1 := hJ.2.1
    have h := hJ.2.2
    clear hJ
    subst ha
    refine ⟨_, .int .i64 0, rfl, Or.inl ⟨by kernel_rfl, ?_⟩, (fun _ _ _ h => h), _, _, _, _, _, z1, ?_, fun _ => rfl, fun _ => rfl, fun _ => rfl, fun _ => rfl, fun _ => rfl, gg1, h⟩
    · intro w hSw; clear hSw h; go_simp; try with_reducible rfl
    · kernel_rfl
  · intro k p a v hp hJ
    refine op_step (o := _) rfl (fun K hK => ?_)
    obtain ⟨y1, y2, y3, y4, y5, z1, ha, ee1, ee2, ee3, ee4, ee5, gg1, h⟩ := hJ
    have h := Lib.hid h
    subst ha
    go_simp
    refine hK.out _ _ ⟨v.heap.size, y1, y2, y3, y4, y5, .pointer (some ⟨v.heap.size, 0, none⟩), ?_, ee1, ee2, ee3, ee4, ee5, fun q hq => ptr_set hq, h.out.alloc hp rfl _⟩
    kernel_rfl
  intro p5_1 a v hJ
  obtain ⟨rfl, h⟩ := goJ5_fin hJ
  clear hJ
  replace M := Lib.hid h.fin1
  clear h
  refine tails_one (T := []) (i := 7) (o := _) rfl (by kernel_rfl) (fun K hK => ?_)
  have kc := (M.out.nth 0 rfl).2.1
  have kf := (M.out.nth 0 rfl).2.2
  replace M : Hid (Own w [(p5_1, #[.float .f64 yl, .float .f64 yh]), (p4_1, #[.float .f64 zl, .float .f64 zh]), (p3_1, #[.float .f64 cl, .float .f64 ch]), (w2_.heap.size, #[.float .f64 f, .float .f64 f])] _) := Lib.hid (M.out.set2 0 rfl (.float .f64 yl) (.float .f64 yh))
  go_simp
  refine hK.out _ _ (Or.inr (M.out.nth 3 rfl).two) (fun hHeld => ?_)
  clear hK K hHeld kc kf
  refine tails_one (T := []) (i := 8) (o := _) rfl (by kernel_rfl) (fun K hK => ?_)
  go_simp
  refine hK.out _ _ (Or.inr (M.out.nth 3 rfl).two) (fun hHeld => ?_)
  clear hK K hHeld
  refine tails_done (by kernel_rfl) ?_ _
  refine NoPanic.normal ?_
  clear hS
  revert M
  generalize ((v.setCell ⟨p5_1, 0, none⟩ (.float .f64 yl)).setCell ⟨p5_1, 1, none⟩ (.float .f64 yh)) = W6_
  intro M
  go_upto_region 6 with fail
  replace M := Lib.hid M.out.drew
  obtain ⟨k1, k2⟩ := (M.out.nth 1 rfl).two
  obtain ⟨k3, k4⟩ := (M.out.nth 0 rfl).two
  go_region_held3 (fun w' => (w'.cell? ⟨p4_1, 0, none⟩ = some (.float .f64 zl) ∧ w'.cell? ⟨p4_1, 1, none⟩ = some (.float .f64 zh)) ∧ (w'.cell? ⟨p5_1, 0, none⟩ = some (.float .f64 yl) ∧ w'.cell? ⟨p5_1, 1, none⟩ = some (.float .f64 yh))) (((try dsimp only); (repeat' apply And.intro); all_goals (repeat (first | (with_reducible assumption) | ((with_reducible refine keep_undrew ?_); (with_reducible assumption)) | (with_reducible refine keep_drew ?_) | (with_reducible refine keep_alloc _ ?_) | (with_reducible refine keep_set _ (by first | (with_reducible assumption) | omega) ?_)))))
    (first
      | (go_at_call 15; (with_reducible refine (c7.out _).mono ?_); rintro rr w5 ⟨rfl, hb⟩; replace M := Lib.hid (M.out.below hb); clear hb; clear k1 k2 k3 k4; obtain ⟨k1, k2⟩ := (M.out.nth 1 rfl).two; obtain ⟨k3, k4⟩ := (M.out.nth 0 rfl).two))
  clear k1 k2 k3 k4
  replace M := Lib.hid (M.out.made #[.int .i64 0] 38)
  go_wp2_with fail
  refine (d10.out _ _ (M.out.nth 0 rfl)).mono ?_
  rintro r w7_ ⟨rfl, hb⟩
  replace M : Hid (Own w [(w5.heap.size, #[.int .i64 0]), (p5_1, #[.float .f64 yl, .float .f64 yh]), (p4_1, #[.float .f64 zl, .float .f64 zh]), (p3_1, #[.float .f64 cl, .float .f64 ch]), (w2_.heap.size, #[.float .f64 f, .float .f64 f])] w7_) := Lib.hid (M.out.putAt 0 rfl hb)
  clear hb
  go_wp2_with fail
  refine (c11.out _).mono ?_
  rintro r w8_ ⟨rfl, hb⟩
  replace M := Lib.hid (M.out.below hb)
  clear hb
  go_wp2_with fail
  refine (d12.out _ _ (M.out.nth 0 rfl)).mono ?_
  rintro r w9_ ⟨rfl, hb⟩
  replace M : Hid (Own w [(w5.heap.size, #[.int .i64 0]), (p5_1, #[.float .f64 yl, .float .f64 yh]), (p4_1, #[.float .f64 zl, .float .f64 zh]), (p3_1, #[.float .f64 cl, .float .f64 ch]), (w2_.heap.size, #[.float .f64 f, .float .f64 f])] w9_) := Lib.hid (M.out.putAt 0 rfl hb)
  clear hb
  replace M := Lib.hid (M.out.made #[.float .f64 al, .float .f64 ah] 27).front
  go_wp2_with fail
  refine (d13.out _ _ (M.out.nth 0 rfl)).mono ?_
  rintro r w10_ ⟨rfl, hb⟩
  replace M : Hid (Own w [(w5.heap.size, #[.int .i64 0]), (w9_.heap.size, #[.float .f64 al, .float .f64 ah]), (p5_1, #[.float .f64 yl, .float .f64 yh]), (p4_1, #[.float .f64 zl, .float .f64 zh]), (p3_1, #[.float .f64 cl, .float .f64 ch]), (w2_.heap.size, #[.float .f64 f, .float .f64 f])] w10_) := Lib.hid (M.out.putAt 0 rfl hb)
  clear hb
  go_wp2_with fail
  refine (d13.out _ _ (M.out.nth 0 rfl)).mono ?_
  rintro r w11_ ⟨rfl, hb⟩
  replace M : Hid (Own w [(w5.heap.size, #[.int .i64 0]), (w9_.heap.size, #[.float .f64 al, .float .f64 ah]), (p5_1, #[.float .f64 yl, .float .f64 yh]), (p4_1, #[.float .f64 zl, .float .f64 zh]), (p3_1, #[.float .f64 cl, .float .f64 ch]), (w2_.heap.size, #[.float .f64 f, .float .f64 f])] w11_) := Lib.hid (M.out.putAt 0 rfl hb)
  clear hb
  replace M := Lib.hid (M.out.made #[.float .f64 0, .float .f64 0] 27).front
  replace M := Lib.hid (M.out.made #[.float .f64 0, .float .f64 0] 27).front
  simp only [World.size_alloc] at M
  -- the row: b5 b8 b7 b6 b4 b3 b2 b1
  go_wp2_with fail
  go_loopw [20] (GoRel w w5.heap.size w11_.heap.size (w11_.heap.size + 1) Ll Lh Hl Hh K N [(w9_.heap.size, #[.float .f64 al, .float .f64 ah]), (p5_1, #[.float .f64 yl, .float .f64 yh]), (p4_1, #[.float .f64 zl, .float .f64 zh]), (p3_1, #[.float .f64 cl, .float .f64 ch]), (w2_.heap.size, #[.float .f64 f, .float .f64 f])]) (fun i _ => N - (intOf i).toNat)
  case atStart =>
    obtain ⟨z1, z2, z3, z4⟩ := hL0.out
    refine ⟨K, Nat.le_refl _, Nat.le_of_lt hk1, rfl, ?_⟩
    rw [z1, z2, z3, z4]
    exact M.out.third
  case round =>
    clear M
    obtain ⟨I, hKI, hIN, rfl, hM⟩ := hrel
    have M := Lib.hid hM
    clear hM hL0
    rename World => v_
    by_cases hI : I < N
    · have hb1 : decide (I < N) = true := decide_eq_true hI
      have hb2 : decide ((I : Int) < (N : Int)) = true := decide_eq_true (by omega)
      have qI := qX.out I (Nat.le_of_lt hI)
      have qJ := qX.out (I + 1) hI
      have e1 : ((I + 1 : Nat) : Int) = (I : Int) + 1 := by omega
      rw [e1] at qJ
      clear e1
      have hII : (I : Int) < 64 := by omega
      replace M := Lib.hid (M.out.made #[.float .f64 (X I), .float .f64 (X (I + 1))] 27).front
      obtain ⟨k1, k2⟩ := (M.out.nth 8 rfl).two
      go_wp2_with fail
      refine (cD.out I hKI hI _).mono ?_
      rintro r w12_ ⟨rfl, hb⟩
      replace M := Lib.hid (M.out.below hb)
      clear hb
      clear k1 k2
      replace M := Lib.hid (M.out.made #[.float .f64 (dl I), .float .f64 (dh I)] 27).front
      go_upto_region 18 with fail
      replace M := Lib.hid M.out.drew
      revert M
      generalize (w12_.alloc (.cells #[.float .f64 (dl I), .float .f64 (dh I)] 27)) = W13_
      intro M
      refine wp_region_noPanic ?_
      refine tails_region (S := fun w' => (w'.cell? ⟨w9_.heap.size, 0, none⟩ = some (.float .f64 al) ∧ w'.cell? ⟨w9_.heap.size, 1, none⟩ = some (.float .f64 ah)) ∧ (w'.cell? ⟨w12_.heap.size, 0, none⟩ = some (.float .f64 (dl I)) ∧ w'.cell? ⟨w12_.heap.size, 1, none⟩ = some (.float .f64 (dh I))) ∧ (w'.cell? ⟨v_.heap.size, 0, none⟩ = some (.float .f64 (X I)) ∧ w'.cell? ⟨v_.heap.size, 1, none⟩ = some (.float .f64 (X (I + 1))))) [] (by kernel_rfl) ?_ (fun hS => ?_)
      · exact ⟨(M.out.nth 5 rfl).two, (M.out.nth 1 rfl).two, (M.out.nth 2 rfl).two⟩
      refine tk (x := ?_) 0 rfl (by kernel_rfl) ⟨by kernel_rfl, ?_⟩ (fun _ _ _ h => h) hS ?_
      rotate_left; focus (intro w hSw; (try dsimp only at hSw); go_simp; try with_reducible rfl)
      refine tk (x := ?_) 1 rfl (by kernel_rfl) ⟨by kernel_rfl, ?_⟩ (fun _ _ _ h => h) hS ?_
      rotate_left; focus (intro w hSw; (try dsimp only at hSw); go_simp; try with_reducible rfl)
      refine tk (x := ?_) 2 rfl (by kernel_rfl) ⟨by kernel_rfl, ?_⟩ (fun _ _ _ h => h) hS ?_
      rotate_left; focus (intro w hSw; (try dsimp only at hSw); go_simp; try with_reducible rfl)
      refine tk (x := ?_) 3 rfl (by kernel_rfl) ⟨by kernel_rfl, ?_⟩ (fun _ _ _ h => h) hS ?_
      rotate_left; focus (intro w hSw; (try dsimp only at hSw); go_simp; try with_reducible rfl)
      refine tk (x := ?_) 4 rfl (by kernel_rfl) ⟨by kernel_rfl, ?_⟩ (fun _ _ _ h => h) hS ?_
      rotate_left; focus (intro w hSw; (try dsimp only at hSw); go_simp; try with_reducible rfl)
      refine tk (x := ?_) 6 rfl (by kernel_rfl) ⟨by kernel_rfl, ?_⟩ (fun _ _ _ h => h) hS ?_
      rotate_left; focus (intro w hSw; (try dsimp only at hSw); go_simp; try with_reducible rfl)
      refine tk (x := ?_) 8 rfl (by kernel_rfl) ⟨by kernel_rfl, ?_⟩ (fun _ _ _ h => h) hS ?_
      rotate_left; focus (intro w hSw; (try dsimp only at hSw); go_simp; try with_reducible rfl)
      refine tk (x := ?_) 9 rfl (by kernel_rfl) ⟨by kernel_rfl, ?_⟩ (fun _ _ _ h => h) hS ?_
      rotate_left; focus (intro w hSw; (try dsimp only at hSw); go_simp; try with_reducible rfl)
      refine tk (x := ?_) 10 rfl (by kernel_rfl) ⟨by kernel_rfl, ?_⟩ (fun _ _ _ h => h) hS ?_
      rotate_left; focus (intro w hSw; (try dsimp only at hSw); go_simp; try with_reducible rfl)
      refine tk (x := ?_) 12 rfl (by kernel_rfl) ⟨by kernel_rfl, ?_⟩ (fun _ _ _ h => h) hS ?_
      rotate_left; focus (intro w hSw; (try dsimp only at hSw); go_simp; try with_reducible rfl)
      refine tk (x := ?_) 13 rfl (by kernel_rfl) ⟨by kernel_rfl, ?_⟩ (fun _ _ _ h => h) hS ?_
      rotate_left; focus (intro w hSw; (try dsimp only at hSw); go_simp; try with_reducible rfl)
      conv => arg 9; simp only [Act.put, go_sem]
      refine lpx_cccccc_1 M 5 7 11 14 15 16 17 [121, 123, 127, 130, 131, 132, 24] 1 (goJ18 w w5.heap.size (ml I) (mh I) (nl I) (nh I) (X (I + 1)) (X I) (wl I) (wh I) (tl I) (th I)) (by kernel_rfl) (by kernel_rfl) ?_ ?_ ?_ ?_ ?_ ?_ ?_ ?_ ?_ ?_
      · intro A hA
        obtain ⟨y1, hq1⟩ := put_ex (hA 121 (by simp))
        obtain ⟨y2, hq2⟩ := put_ex (hA 123 (by simp))
        obtain ⟨y3, hq3⟩ := put_ex (hA 127 (by simp))
        obtain ⟨y4, hq4⟩ := put_ex (hA 130 (by simp))
        obtain ⟨y5, hq5⟩ := put_ex (hA 131 (by simp))
        obtain ⟨y6, hq6⟩ := put_ex (hA 132 (by simp))
        obtain ⟨z1, hq7⟩ := put_ex (hA 24 (by simp))
        exact ⟨y1, y2, y3, y4, y5, y6, z1, by rw [hq1, hq2, hq3, hq4, hq5, hq6, hq7], by omega, by omega, by omega, by omega, by omega, by omega, by simp, OwnF.start M.out 1⟩
      · rintro k p a v ⟨y1, y2, y3, y4, y5, y6, z1, _, _, _, _, _, _, _, _, h⟩
        exact ⟨(h.own.nth 5 rfl).two, (h.own.nth 1 rfl).two, (h.own.nth 2 rfl).two⟩
      · intro p a v hJ
        refine op_step (o := _) rfl (fun K hK => ?_)
        obtain ⟨y1, y2, y3, y4, y5, y6, z1, ha, gg1, h⟩ := goJ18_0 hJ
        have h := Lib.hid h
        clear hJ
        subst ha
        go_simp
        refine (cM.out I hKI hI _ _ (h.out.own.nth 0 rfl)).mono ?_
        rintro rr w5 ⟨rfl, hp⟩
        try go_wp2_with fail
        refine hK.out _ _ ⟨_, y2, y3, y4, y5, y6, z1, ?_, fun _ => rfl, by omega, by omega, by omega, by omega, by omega, gg1, h.out.putHead hp⟩
        kernel_rfl
      · intro p a v hJ
        refine op_step (o := _) rfl (fun K hK => ?_)
        obtain ⟨y2, y3, y4, y5, y6, z1, ha, gg1, h⟩ := goJ18_1 hJ
        have h := Lib.hid h
        clear hJ
        subst ha
        go_simp
        refine (cN.out I hKI hI _ _ (h.out.own.nth 0 rfl)).mono ?_
        rintro rr w5 ⟨rfl, hp⟩
        try go_wp2_with fail
        refine hK.out _ _ ⟨_, _, y3, y4, y5, y6, z1, ?_, fun _ => rfl, fun _ => rfl, by omega, by omega, by omega, by omega, gg1, h.out.putHead hp⟩
        kernel_rfl
      · intro p a v hJ
        refine op_step (o := _) rfl (fun K hK => ?_)
        obtain ⟨y3, y4, y5, y6, z1, ha, gg1, h⟩ := goJ18_2 hJ
        have h := Lib.hid h
        clear hJ
        subst ha
        go_simp
        refine (cX.out (I + 1) hI _).mono ?_
        rintro rr w5 ⟨rfl, hp⟩
        try go_wp2_with fail
        refine hK.out _ _ ⟨_, _, _, y4, y5, y6, z1, ?_, fun _ => rfl, fun _ => rfl, fun _ => rfl, by omega, by omega, by omega, gg1, h.out.below hp⟩
        kernel_rfl
      · intro p a v hJ
        refine op_step (o := _) rfl (fun K hK => ?_)
        obtain ⟨y4, y5, y6, z1, ha, gg1, h⟩ := goJ18_3 hJ
        have h := Lib.hid h
        clear hJ
        subst ha
        go_simp
        refine (cX.out I (Nat.le_of_lt hI) _).mono ?_
        rintro rr w5 ⟨rfl, hp⟩
        try go_wp2_with fail
        refine hK.out _ _ ⟨_, _, _, _, y5, y6, z1, ?_, fun _ => rfl, fun _ => rfl, fun _ => rfl, fun _ => rfl, by omega, by omega, gg1, h.out.below hp⟩
        kernel_rfl
      · intro p a v hJ
        refine op_step (o := _) rfl (fun K hK => ?_)
        obtain ⟨y5, y6, z1, ha, gg1, h⟩ := goJ18_4 hJ
        have h := Lib.hid h
        clear hJ
        subst ha
        go_simp
        refine (cW.out I hKI hI _ _ (h.out.own.nth 0 rfl)).mono ?_
        rintro rr w5 ⟨rfl, hp⟩
        try go_wp2_with fail
        refine hK.out _ _ ⟨_, _, _, _, _, y6, z1, ?_, fun _ => rfl, fun _ => rfl, fun _ => rfl, fun _ => rfl, fun _ => rfl, by omega, gg1, h.out.putHead hp⟩
        kernel_rfl
      · intro p a v hJ
        refine op_step (o := _) rfl (fun K hK => ?_)
        obtain ⟨y6, z1, ha, gg1, h⟩ := goJ18_5 hJ
        have h := Lib.hid h
        clear hJ
        subst ha
        go_simp
        refine (cT.out I hKI hI _ _ (h.out.own.nth 0 rfl)).mono ?_
        rintro rr w5 ⟨rfl, hp⟩
        try go_wp2_with fail
        refine hK.out _ _ ⟨_, _, _, _, _, _, z1, ?_, fun _ => rfl, fun _ => rfl, fun _ => rfl, fun _ => rfl, fun _ => rfl, fun _ => rfl, gg1, h.out.putHead hp⟩
        kernel_rfl
      · intro k p a v hp hJ
        refine op_step (o := _) rfl (fun K hK => ?_)
        obtain ⟨y1, y2, y3, y4, y5, y6, z1, ha, ee1, ee2, ee3, ee4, ee5, ee6, gg1, h⟩ := hJ
        have h := Lib.hid h
        subst ha
        go_simp
        refine hK.out _ _ ⟨v.heap.size, y1, y2, y3, y4, y5, y6, .pointer (some ⟨v.heap.size, 0, none⟩), ?_, ee1, ee2, ee3, ee4, ee5, ee6, fun q hq => ptr_set hq, h.out.alloc hp rfl _⟩
        kernel_rfl
      intro p18_1 a v hJ
      obtain ⟨rfl, h⟩ := goJ18_fin hJ
      clear hJ
      replace M := Lib.hid h.fin1
      clear h
      refine tails_one (T := []) (i := 18) (o := _) rfl (by kernel_rfl) (fun K hK => ?_)
      have kc := (M.out.nth 0 rfl).2.1
      have kf := (M.out.nth 0 rfl).2.2
      replace M : Hid (Own w [(p18_1, #[.float .f64 (tl I), .float .f64 (th I)]), (w5.heap.size, #[.int .i64 0]), (w12_.heap.size, #[.float .f64 (dl I), .float .f64 (dh I)]), (v_.heap.size, #[.float .f64 (X I), .float .f64 (X (I + 1))]), (w11_.heap.size, #[.float .f64 (Ll I), .float .f64 (Lh I)]), ((w11_.heap.size + 1), #[.float .f64 (Hl I), .float .f64 (Hh I)]), (w9_.heap.size, #[.float .f64 al, .float .f64 ah]), (p5_1, #[.float .f64 yl, .float .f64 yh]), (p4_1, #[.float .f64 zl, .float .f64 zh]), (p3_1, #[.float .f64 cl, .float .f64 ch]), (w2_.heap.size, #[.float .f64 f, .float .f64 f])] _) := Lib.hid (M.out.set2 0 rfl (.float .f64 (tl I)) (.float .f64 (th I)))
      go_simp
      refine hK.out _ _ (Or.inr ⟨(M.out.nth 6 rfl).two, (M.out.nth 2 rfl).two, (M.out.nth 3 rfl).two⟩) (fun hHeld => ?_)
      clear hK K hHeld kc kf
      refine tails_done (by kernel_rfl) ?_ _
      refine NoPanic.normal ?_
      clear hS
      replace M : Hid (Own w [(w5.heap.size, #[.int .i64 0]), (p18_1, #[.float .f64 (tl I), .float .f64 (th I)]), (w12_.heap.size, #[.float .f64 (dl I), .float .f64 (dh I)]), (v_.heap.size, #[.float .f64 (X I), .float .f64 (X (I + 1))]), (w11_.heap.size, #[.float .f64 (Ll I), .float .f64 (Lh I)]), ((w11_.heap.size + 1), #[.float .f64 (Hl I), .float .f64 (Hh I)]), (w9_.heap.size, #[.float .f64 al, .float .f64 ah]), (p5_1, #[.float .f64 yl, .float .f64 yh]), (p4_1, #[.float .f64 zl, .float .f64 zh]), (p3_1, #[.float .f64 cl, .float .f64 ch]), (w2_.heap.size, #[.float .f64 f, .float .f64 f])] _) := Lib.hid M.out.front
      revert M
      generalize ((v.setCell ⟨p18_1, 0, none⟩ (.float .f64 (tl I))).setCell ⟨p18_1, 1, none⟩ (.float .f64 (th I))) = W14_
      intro M
      go_upto_region 19 with fail
      replace M := Lib.hid M.out.drew
      refine wp_region_noPanic ?_
      refine tails_region (S := fun w' => (w'.cell? ⟨w11_.heap.size, 0, none⟩ = some (.float .f64 (Ll I)) ∧ w'.cell? ⟨w11_.heap.size, 1, none⟩ = some (.float .f64 (Lh I))) ∧ (w'.cell? ⟨p18_1, 0, none⟩ = some (.float .f64 (tl I)) ∧ w'.cell? ⟨p18_1, 1, none⟩ = some (.float .f64 (th I))) ∧ (w'.cell? ⟨(w11_.heap.size + 1), 0, none⟩ = some (.float .f64 (Hl I)) ∧ w'.cell? ⟨(w11_.heap.size + 1), 1, none⟩ = some (.float .f64 (Hh I)))) [12, 13] (by kernel_rfl) ?_ (fun hS => ?_)
      · exact ⟨(M.out.nth 4 rfl).two, (M.out.nth 1 rfl).two, (M.out.nth 5 rfl).two⟩
      refine tails_takeD (T := [12, 13]) (i := 0) (o := _) (x := ?_) rfl (by kernel_rfl) (by kernel_rfl) (by kernel_rfl) (by kernel_rfl) (fun _ _ _ h => h) (Or.inl ⟨by kernel_rfl, ?_⟩) hS ?_
      rotate_left; focus (intro w hSw; (try dsimp only at hSw); go_simp; try with_reducible rfl)
      refine tails_takeD (T := [12, 13]) (i := 1) (o := _) (x := ?_) rfl (by kernel_rfl) (by kernel_rfl) (by kernel_rfl) (by kernel_rfl) (fun _ _ _ h => h) (Or.inl ⟨by kernel_rfl, ?_⟩) hS ?_
      rotate_left; focus (intro w hSw; (try dsimp only at hSw); go_simp; try with_reducible rfl)
      refine tails_takeD (T := [12, 13]) (i := 2) (o := _) (x := ?_) rfl (by kernel_rfl) (by kernel_rfl) (by kernel_rfl) (by kernel_rfl) (fun _ _ _ h => h) (Or.inl ⟨by kernel_rfl, ?_⟩) hS ?_
      rotate_left; focus (intro w hSw; (try dsimp only at hSw); go_simp; try with_reducible rfl)
      refine tails_takeD (T := [12, 13]) (i := 3) (o := _) (x := ?_) rfl (by kernel_rfl) (by kernel_rfl) (by kernel_rfl) (by kernel_rfl) (fun _ _ _ h => h) (Or.inl ⟨by kernel_rfl, ?_⟩) hS ?_
      rotate_left; focus (intro w hSw; (try dsimp only at hSw); go_simp; try with_reducible rfl)
      refine tails_takeD (T := [12, 13]) (i := 6) (o := _) (x := ?_) rfl (by kernel_rfl) (by kernel_rfl) (by kernel_rfl) (by kernel_rfl) (fun _ _ _ h => h) (Or.inl ⟨by kernel_rfl, ?_⟩) hS ?_
      rotate_left; focus (intro w hSw; (try dsimp only at hSw); go_simp; try with_reducible rfl)
      refine tails_takeD (T := [12, 13]) (i := 7) (o := _) (x := ?_) rfl (by kernel_rfl) (by kernel_rfl) (by kernel_rfl) (by kernel_rfl) (fun _ _ _ h => h) (Or.inl ⟨by kernel_rfl, ?_⟩) hS ?_
      rotate_left; focus (intro w hSw; (try dsimp only at hSw); go_simp; try with_reducible rfl)
      refine tails_takeD (T := [12, 13]) (i := 8) (o := _) (x := ?_) rfl (by kernel_rfl) (by kernel_rfl) (by kernel_rfl) (by kernel_rfl) (fun _ _ _ h => h) (Or.inl ⟨by kernel_rfl, ?_⟩) hS ?_
      rotate_left; focus (intro w hSw; (try dsimp only at hSw); go_simp; try with_reducible rfl)
      refine tails_takeD (T := [12, 13]) (i := 9) (o := _) (x := ?_) rfl (by kernel_rfl) (by kernel_rfl) (by kernel_rfl) (by kernel_rfl) (fun _ _ _ h => h) (Or.inl ⟨by kernel_rfl, ?_⟩) hS ?_
      rotate_left; focus (intro w hSw; (try dsimp only at hSw); go_simp; try with_reducible rfl)
      conv => arg 9; simp only [Act.put, go_sem]
      refine tails_one (T := [12, 13]) (i := 4) (o := _) rfl (by kernel_rfl) (fun K hK => ?_)
      go_simp
      refine (cP.out I hKI hI _).mono ?_
      rintro rr w15_ ⟨rfl, hb⟩
      replace M := Lib.hid (M.out.below hb)
      clear hb
      try go_wp2_with fail
      refine hK.out _ _ (Or.inr ⟨(M.out.nth 4 rfl).two, (M.out.nth 1 rfl).two, (M.out.nth 5 rfl).two⟩) (fun hHeld => ?_)
      clear hK K hHeld
      replace hS := (And.intro (M.out.nth 4 rfl).two (And.intro (M.out.nth 1 rfl).two (M.out.nth 5 rfl).two))
      refine tails_one (T := [12, 13]) (i := 5) (o := _) rfl (by kernel_rfl) (fun K hK => ?_)
      go_simp
      refine (cL.out I hKI hI _ _ (M.out.nth 0 rfl)).mono ?_
      rintro rr w16_ ⟨rfl, hb⟩
      replace M : Hid (Own w [(w5.heap.size, #[.int .i64 0]), (p18_1, #[.float .f64 (tl I), .float .f64 (th I)]), (w12_.heap.size, #[.float .f64 (dl I), .float .f64 (dh I)]), (v_.heap.size, #[.float .f64 (X I), .float .f64 (X (I + 1))]), (w11_.heap.size, #[.float .f64 (Ll I), .float .f64 (Lh I)]), ((w11_.heap.size + 1), #[.float .f64 (Hl I), .float .f64 (Hh I)]), (w9_.heap.size, #[.float .f64 al, .float .f64 ah]), (p5_1, #[.float .f64 yl, .float .f64 yh]), (p4_1, #[.float .f64 zl, .float .f64 zh]), (p3_1, #[.float .f64 cl, .float .f64 ch]), (w2_.heap.size, #[.float .f64 f, .float .f64 f])] w16_) := Lib.hid (M.out.putAt 0 rfl hb)
      clear hb
      try go_wp2_with fail
      refine hK.out _ _ (Or.inr ⟨(M.out.nth 4 rfl).two, (M.out.nth 1 rfl).two, (M.out.nth 5 rfl).two⟩) (fun hHeld => ?_)
      clear hK K hHeld
      replace hS := (And.intro (M.out.nth 4 rfl).two (And.intro (M.out.nth 1 rfl).two (M.out.nth 5 rfl).two))
      refine tails_one (T := [12, 13]) (i := 10) (o := _) rfl (by kernel_rfl) (fun K hK => ?_)
      go_simp
      refine (cQ.out I hKI hI _).mono ?_
      rintro rr w17_ ⟨rfl, hb⟩
      replace M := Lib.hid (M.out.below hb)
      clear hb
      try go_wp2_with fail
      refine hK.out _ _ (Or.inr ⟨(M.out.nth 4 rfl).two, (M.out.nth 1 rfl).two, (M.out.nth 5 rfl).two⟩) (fun hHeld => ?_)
      clear hK K hHeld
      replace hS := (And.intro (M.out.nth 4 rfl).two (And.intro (M.out.nth 1 rfl).two (M.out.nth 5 rfl).two))
      refine tails_one (T := [12, 13]) (i := 11) (o := _) rfl (by kernel_rfl) (fun K hK => ?_)
      go_simp
      refine (cH.out I hKI hI _ _ (M.out.nth 0 rfl)).mono ?_
      rintro rr w18_ ⟨rfl, hb⟩
      replace M : Hid (Own w [(w5.heap.size, #[.int .i64 0]), (p18_1, #[.float .f64 (tl I), .float .f64 (th I)]), (w12_.heap.size, #[.float .f64 (dl I), .float .f64 (dh I)]), (v_.heap.size, #[.float .f64 (X I), .float .f64 (X (I + 1))]), (w11_.heap.size, #[.float .f64 (Ll I), .float .f64 (Lh I)]), ((w11_.heap.size + 1), #[.float .f64 (Hl I), .float .f64 (Hh I)]), (w9_.heap.size, #[.float .f64 al, .float .f64 ah]), (p5_1, #[.float .f64 yl, .float .f64 yh]), (p4_1, #[.float .f64 zl, .float .f64 zh]), (p3_1, #[.float .f64 cl, .float .f64 ch]), (w2_.heap.size, #[.float .f64 f, .float .f64 f])] w18_) := Lib.hid (M.out.putAt 0 rfl hb)
      clear hb
      try go_wp2_with fail
      refine hK.out _ _ (Or.inr ⟨(M.out.nth 4 rfl).two, (M.out.nth 1 rfl).two, (M.out.nth 5 rfl).two⟩) (fun hHeld => ?_)
      clear hK K hHeld
      replace hS := (And.intro (M.out.nth 4 rfl).two (And.intro (M.out.nth 1 rfl).two (M.out.nth 5 rfl).two))
      refine tails_one (T := [12, 13]) (i := 12) (o := _) rfl (by kernel_rfl) (fun K hK => ?_)
      have kc := (M.out.nth 4 rfl).2.1
      have kf := (M.out.nth 4 rfl).2.2
      replace M : Hid (Own w [(w5.heap.size, #[.int .i64 0]), (p18_1, #[.float .f64 (tl I), .float .f64 (th I)]), (w12_.heap.size, #[.float .f64 (dl I), .float .f64 (dh I)]), (v_.heap.size, #[.float .f64 (X I), .float .f64 (X (I + 1))]), (w11_.heap.size, #[.float .f64 (Ll (I + 1)), .float .f64 (Lh (I + 1))]), ((w11_.heap.size + 1), #[.float .f64 (Hl I), .float .f64 (Hh I)]), (w9_.heap.size, #[.float .f64 al, .float .f64 ah]), (p5_1, #[.float .f64 yl, .float .f64 yh]), (p4_1, #[.float .f64 zl, .float .f64 zh]), (p3_1, #[.float .f64 cl, .float .f64 ch]), (w2_.heap.size, #[.float .f64 f, .float .f64 f])] _) := Lib.hid (M.out.set2 4 rfl (.float .f64 (Ll (I + 1))) (.float .f64 (Lh (I + 1))))
      go_simp
      refine hK.out _ _ (Or.inl (by decide)) (fun hHeld => ?_)
      clear hK K hHeld kc kf
      refine tails_one (T := [12, 13]) (i := 13) (o := _) rfl (by kernel_rfl) (fun K hK => ?_)
      have kc := (M.out.nth 5 rfl).2.1
      have kf := (M.out.nth 5 rfl).2.2
      replace M : Hid (Own w [(w5.heap.size, #[.int .i64 0]), (p18_1, #[.float .f64 (tl I), .float .f64 (th I)]), (w12_.heap.size, #[.float .f64 (dl I), .float .f64 (dh I)]), (v_.heap.size, #[.float .f64 (X I), .float .f64 (X (I + 1))]), (w11_.heap.size, #[.float .f64 (Ll (I + 1)), .float .f64 (Lh (I + 1))]), ((w11_.heap.size + 1), #[.float .f64 (Hl (I + 1)), .float .f64 (Hh (I + 1))]), (w9_.heap.size, #[.float .f64 al, .float .f64 ah]), (p5_1, #[.float .f64 yl, .float .f64 yh]), (p4_1, #[.float .f64 zl, .float .f64 zh]), (p3_1, #[.float .f64 cl, .float .f64 ch]), (w2_.heap.size, #[.float .f64 f, .float .f64 f])] _) := Lib.hid (M.out.set2 5 rfl (.float .f64 (Hl (I + 1))) (.float .f64 (Hh (I + 1))))
      go_simp
      refine hK.out _ _ (Or.inl (by decide)) (fun hHeld => ?_)
      clear hK K hHeld kc kf
      refine tails_done (by kernel_rfl) ?_ _
      refine NoPanic.normal ?_
      clear hS
      revert M
      generalize ((((w18_.setCell ⟨w11_.heap.size, 0, none⟩ (.float .f64 (Ll (I + 1)))).setCell ⟨w11_.heap.size, 1, none⟩ (.float .f64 (Lh (I + 1)))).setCell ⟨(w11_.heap.size + 1), 0, none⟩ (.float .f64 (Hl (I + 1)))).setCell ⟨(w11_.heap.size + 1), 1, none⟩ (.float .f64 (Hh (I + 1)))) = W19_
      intro M
      go_wp2_with fail
      go_roundw
      case rel => exact ⟨I + 1, by omega, by omega, by go_num, M.out.front.tail.front.tail.front.tail⟩
      case measure => simp [intOf]; omega
    · have e : N = I := by omega
      have hb1 : decide (I < N) = false := decide_eq_false hI
      have hb2 : decide ((I : Int) < (N : Int)) = false := decide_eq_false (by omega)
      replace M : Hid (Own w [(w5.heap.size, #[.int .i64 0]), (w11_.heap.size, #[.float .f64 (Ll N), .float .f64 (Lh N)]), ((w11_.heap.size + 1), #[.float .f64 (Hl N), .float .f64 (Hh N)]), (w9_.heap.size, #[.float .f64 al, .float .f64 ah]), (p5_1, #[.float .f64 yl, .float .f64 yh]), (p4_1, #[.float .f64 zl, .float .f64 zh]), (p3_1, #[.float .f64 cl, .float .f64 ch]), (w2_.heap.size, #[.float .f64 f, .float .f64 f])] _) := Lib.hid (by rw [e]; exact M.out)
      clear e
      have o_leqLlN_ch := o_leqLlN_ch.out
      have o_leqcl_HhN := o_leqcl_HhN.out
      go_wp2_with fail
      refine (err_any 0 _ 0 _ (M.out.nth 0 rfl).pc).mono ?_
      rintro r w20_ ⟨rfl, rfl⟩
      obtain ⟨k1, k2⟩ := (M.out.nth 1 rfl).two
      obtain ⟨k3, k4⟩ := (M.out.nth 6 rfl).two
      obtain ⟨k5, k6⟩ := (M.out.nth 2 rfl).two
      go_wp2_with fail
      refine (c27.out _).mono ?_
      rintro r w21_ ⟨rfl, hb⟩
      replace M := Lib.hid (M.out.below hb)
      clear hb
      clear k1 k2 k3 k4 k5 k6
      go_wp2
      go_ret
      exact ⟨rfl, M.out.base⟩

end Go.Proofs.Ytdppppaoflhgdaa

namespace Go.Proofs.Ytdppppaoflhgdaa
open Go.RowKit

/-- What Facing is of a real number. -/
def fQ (y c : Rat) : Rat := (1 - c * c) / spQ c y
theorem fall_eq {y p q : Rat} (sp : 0 < spQ p y) (sq : 0 < spQ q y) : fQ y p - fQ y q = y * y * ((q - p) * (q + p)) / (spQ p y * spQ q y) := by
  have e : (1 - p * p) * spQ q y - (1 - q * q) * spQ p y = y * y * ((q - p) * (q + p)) := by unfold spQ; grind
  rw [← e]
  unfold fQ
  generalize spQ p y = S at *
  generalize spQ q y = T at *
  grind
theorem quo_le {a b s t : Rat} (hs : 0 < s) (ht : 0 < t) (h : a * t ≤ b * s) : a / s ≤ b / t := by
  refine Rat.le_of_mul_le_mul_right (c := s * t) ?_ (Rat.mul_pos hs ht)
  have e1 : a / s * (s * t) = a * t := by grind
  have e2 : b / t * (s * t) = b * s := by grind
  rw [e1, e2]; exact h
section
variable {y p q : Rat} (y0 : 0 < y) (y1 : y ≤ 1) (p0 : 0 ≤ p) (pq : p ≤ q) (q1 : q ≤ 1)
include y0 y1 p0 pq q1
theorem ring_low : 2 * Qp * (y * y / (Qp * (spQ p y * spQ p y))) * p * (q - p) ≤ fQ y p - fQ y q := by
  have sp := spQ_pos y0 p0 (by grind : p ≤ 1)
  have sq := spQ_pos y0 (by grind : 0 ≤ q) q1
  have sf := spQ_falls y0 y1 p0 pq
  have Q := qp_3
  rw [fall_eq sp sq]
  generalize spQ p y = S at *
  generalize spQ q y = T at *
  have e : 2 * Qp * (y * y / (Qp * (S * S))) * p * (q - p) = y * y * ((q - p) * (2 * p)) / (S * S) := by
    generalize Qp = R at *
    grind
  rw [e]
  refine quo_le (Rat.mul_pos sp sp) (Rat.mul_pos sp sq) ?_
  have yy := Rat.mul_nonneg (Rat.le_of_lt y0) (Rat.le_of_lt y0)
  have d0 : 0 ≤ q - p := by grind
  have k1 : 2 * p * T ≤ (q + p) * S := by
    have a1 := Rat.mul_nonneg (by grind : 0 ≤ q + p) (by grind : 0 ≤ S - T)
    have a2 := Rat.mul_nonneg (by grind : 0 ≤ q - p) (Rat.le_of_lt sq)
    grind
  have k2 := Rat.mul_nonneg (Rat.mul_nonneg (Rat.mul_nonneg yy d0) (Rat.le_of_lt sp)) (by grind : 0 ≤ (q + p) * S - 2 * p * T)
  grind
theorem ring_high : fQ y p - fQ y q ≤ 2 * Qp * (y * y / (Qp * (spQ q y * spQ q y))) * q * (q - p) := by
  have sp := spQ_pos y0 p0 (by grind : p ≤ 1)
  have sq := spQ_pos y0 (by grind : 0 ≤ q) q1
  have sf := spQ_falls y0 y1 p0 pq
  have Q := qp_3
  rw [fall_eq sp sq]
  generalize spQ p y = S at *
  generalize spQ q y = T at *
  have e : 2 * Qp * (y * y / (Qp * (T * T))) * q * (q - p) = y * y * ((q - p) * (2 * q)) / (T * T) := by
    generalize Qp = R at *
    grind
  rw [e]
  refine quo_le (Rat.mul_pos sp sq) (Rat.mul_pos sq sq) ?_
  have yy := Rat.mul_nonneg (Rat.le_of_lt y0) (Rat.le_of_lt y0)
  have d0 : 0 ≤ q - p := by grind
  have k1 : (q + p) * T ≤ 2 * q * S := by
    have a1 := Rat.mul_nonneg (by grind : 0 ≤ 2 * q) (by grind : 0 ≤ S - T)
    have a2 := Rat.mul_nonneg (by grind : 0 ≤ q - p) (Rat.le_of_lt sq)
    grind
  have k2 := Rat.mul_nonneg (Rat.mul_nonneg (Rat.mul_nonneg yy d0) (Rat.le_of_lt sq)) (by grind : 0 ≤ 2 * q * S - (q + p) * T)
  grind
end

/-- A ring, and what it covers. -/
def w2o : Nat := 4611686018427387904
theorem w2o_fit : Fit (oneR w2o) := one_fit (by decide) (by decide)
def arR : Res := mulR (oneR w2o) piR
def rgR (n i : Nat) : Res := ⟨0, xw n i, xw n (i + 1)⟩
def goD (f n i : Nat) : Res := Gx.D (rgR n i) (oneR f)
def goM (f n i : Nat) : Res := mulR arR (goD f n i)
def goN (f n i : Nat) : Res := mulR (goM f n i) (rgR n i)
def goW (n i : Nat) : Res := subR (oneR (xw n (i + 1))) (oneR (xw n i))
def goT (f n i : Nat) : Res := mulR (goN f n i) (goW n i)
def goL (f n k : Nat) : Nat → Res
  | 0 => oneR 0
  | j + 1 => addR (goL f n k j) (oneR (goT f n (k + j)).lo)
def goH (f n k : Nat) : Nat → Res
  | 0 => oneR 0
  | j + 1 => addR (goH f n k j) (oneR (goT f n (k + j)).hi)
/-- Boxes. -/
def bM : Res := mulR arR (Gx.D ouI aI)
def bN : Res := mulR bM ouI
def bW : Res := subR ouI ouI
def bT : Res := mulR bN bW
def bS : Nat → Res
  | 0 => oneR 0
  | j + 1 => addR (bS j) bT
theorem ar_fit : Fit arR := .of (by decide +kernel)
theorem bM_fit : Fit bM := .of (by decide +kernel)
theorem bN_fit : Fit bN := .of (by decide +kernel)
theorem bW_fit : Fit bW := .of (by decide +kernel)
theorem bT_fit : Fit bT := .of (by decide +kernel)
theorem ar_e : (mulR (oneR w2o) piR).e = 0 := by decide +kernel
theorem bM_e : (mulR arR (Gx.D ouI aI)).e = 0 := by decide +kernel
theorem bN_e : (mulR bM ouI).e = 0 := by decide +kernel
theorem bW_e : (subR ouI ouI).e = 0 := by decide +kernel
theorem bT_e : (mulR bN bW).e = 0 := by decide +kernel
theorem bs_ok : ∀ j, j < 65 → (fitB (bS j) && decide ((addR (bS j) bT).e = 0)) = true := by decide +kernel
theorem bs_fit {j : Nat} (h : j < 65) : Fit (bS j) := by
  have k := bs_ok j h
  rw [Bool.and_eq_true] at k
  exact .of k.1
theorem bs_e {j : Nat} (h : j < 65) : (addR (bS j) bT).e = 0 := by
  have k := bs_ok j h
  rw [Bool.and_eq_true] at k
  exact of_decide_eq_true k.2
theorem un_ou {r : Res} (h : In r unI) : In r ouI := ⟨h.fit, h.lo, h.hi⟩
section
variable {f n i : Nat} (hf : In (oneR f) aI) (h : PtN n i) (h' : PtN n (i + 1)) (hn : 1 ≤ n) (hn' : n < 65)
include h h' hn hn' in
theorem ring_le : val (xw n i) ≤ val (xw n (i + 1)) := by
  have a := h.above
  have b := h'.below
  have g0 := gG_pos
  have gs := gG_ss
  have n1 : (1 : Int) ≤ n := by omega
  have n64 : (n : Int) ≤ 64 := by omega
  have x1 : (n : Int) * gG ≤ 64 * gG := Int.mul_le_mul_of_nonneg_right n64 (Int.le_of_lt g0)
  have e : ((i + 1 : Nat) : Int) * SS = (i : Int) * SS + SS := by
    have : ((i + 1 : Nat) : Int) = (i : Int) + 1 := by omega
    rw [this, Int.add_mul, Int.one_mul]
  rw [e] at b
  have k : val (xw n i) * (n : Int) ≤ val (xw n (i + 1)) * (n : Int) := by omega
  exact Int.le_of_mul_le_mul_right k (by omega)
include h h' hn hn' in
theorem ring_in : In (rgR n i) ouI := by
  have l := ring_le h h' hn hn'
  refine ⟨⟨rfl, h.un.fit.lo, h'.un.fit.lo, ?_⟩, h.un.lo, h'.un.hi⟩
  show ivR (xw n i) (xw n (i + 1)) = true
  unfold ivR leB
  rw [show rightB (xw n i) = true from h.un.fit.rlo, show rightB (xw n (i + 1)) = true from h'.un.fit.rlo, decide_eq_true l]; rfl
structure GoIn (f n i : Nat) : Prop where
  r : In (rgR n i) ouI
  d : In (goD f n i) (Gx.D ouI aI)
  m : In (goM f n i) bM
  nn : In (goN f n i) bN
  w : In (goW n i) bW
  t : In (goT f n i) bT
include hf h h' hn hn' in
theorem go_in : GoIn f n i := by
  have r := ring_in h h' hn hn'
  have d : In (goD f n i) (Gx.D ouI aI) := (g_in r hf).D
  have m : In (goM f n i) bM := mul_in (.refl ar_fit) ar_fit d gf_box.D bM_e
  have nn : In (goN f n i) bN := mul_in m bM_fit r ou_fit bN_e
  have w : In (goW n i) bW := sub_in (un_ou h'.un) ou_fit (un_ou h.un) ou_fit bW_e
  exact ⟨r, d, m, nn, w, mul_in nn bN_fit w bW_fit bT_e⟩
theorem end_lo9 {a A : Res} (i : In a A) : In (oneR a.lo) A := ⟨one_fit i.fit.lo i.fit.rlo, i.lo, Int.le_trans i.fit.le i.hi⟩
theorem end_hi9 {a A : Res} (i : In a A) : In (oneR a.hi) A := ⟨one_fit i.fit.hi i.fit.rhi, Int.le_trans i.lo i.fit.le, i.hi⟩
theorem ar_has9 : HasQ arR (2 * Qp) := HasQ.mul w2o_fit big_fit.1 (HasQ.lit (k := 2) (by decide +kernel) rfl) pi_has ar_e
theorem rv_low {r : Res} {x : Rat} (h : HasQ r x) : rv r.lo ≤ x := by
  have k := h.low
  have S := ssQ
  unfold rv
  refine Rat.le_of_mul_le_mul_right (c := ((SS : Int) : Rat)) ?_ S
  have e : ((val r.lo : Int) : Rat) / ((SS : Int) : Rat) * ((SS : Int) : Rat) = ((val r.lo : Int) : Rat) := by grind
  rw [e]; exact k
theorem rv_high {r : Res} {x : Rat} (h : HasQ r x) : x ≤ rv r.hi := by
  have k := h.high
  have S := ssQ
  unfold rv
  refine Rat.le_of_mul_le_mul_right (c := ((SS : Int) : Rat)) ?_ S
  have e : ((val r.hi : Int) : Rat) / ((SS : Int) : Rat) * ((SS : Int) : Rat) = ((val r.hi : Int) : Rat) := by grind
  rw [e]; exact k
theorem ring_has_lo (n i : Nat) (l : val (xw n i) ≤ val (xw n (i + 1))) : HasQ (rgR n i) (rv (xw n i)) ∧ HasQ (rgR n i) (rv (xw n (i + 1))) := by
  have a := rv_has (xw n i)
  have b := rv_has (xw n (i + 1))
  have L : ((val (xw n i) : Int) : Rat) ≤ ((val (xw n (i + 1)) : Int) : Rat) := Rat.intCast_le_intCast.2 l
  exact ⟨⟨a.low, Rat.le_trans a.high L⟩, ⟨Rat.le_trans L b.low, b.high⟩⟩
theorem unit_rv {x : Nat} (h : In (oneR x) ouI) : 0 ≤ rv x ∧ rv x ≤ 1 := by
  rw [← rv_0, ← rv_1]
  exact ⟨rv_le.2 h.lo, rv_le.2 h.hi⟩
theorem alpha_rv (hf : In (oneR f) aI) : 0 < rv f ∧ rv f ≤ 1 := by
  have l : val aI.lo ≤ val f := hf.lo
  have p : val 0 < val aI.lo := by decide +kernel
  constructor
  · rw [← rv_0]
    have e : ¬ rv f ≤ rv 0 := fun h => by have := rv_le.1 h; omega
    grind
  · rw [← rv_1]; exact rv_le.2 hf.hi
include hf h h' hn hn' in
/-- What a ring covers is between its ends. -/
theorem ring_cover : rv (goT f n i).lo ≤ fQ (rv f) (rv (xw n i)) - fQ (rv f) (rv (xw n (i + 1))) ∧ fQ (rv f) (rv (xw n i)) - fQ (rv f) (rv (xw n (i + 1))) ≤ rv (goT f n i).hi := by
  have I := go_in hf h h' hn hn'
  have l := ring_le h h' hn hn'
  obtain ⟨r1, r2⟩ := ring_has_lo n i l
  have hy := rv_has f
  obtain ⟨y0, y1⟩ := alpha_rv hf
  obtain ⟨p0, _⟩ := unit_rv (un_ou h.un)
  obtain ⟨_, q1⟩ := unit_rv (un_ou h'.un)
  have pq : rv (xw n i) ≤ rv (xw n (i + 1)) := rv_le.2 l
  have w : HasQ (goW n i) (rv (xw n (i + 1)) - rv (xw n i)) := HasQ.sub h'.un.fit h.un.fit (rv_has _) (rv_has _) I.w.fit.e
  have key : ∀ {x : Rat}, HasQ (rgR n i) x → HasQ (goT f n i) (2 * Qp * (rv f * rv f / (Qp * (spQ x (rv f) * spQ x (rv f)))) * x * (rv (xw n (i + 1)) - rv (xw n i))) := fun {x} hx => by
    have d := D_has I.r hf hx hy
    have m := HasQ.mul ar_fit I.d.fit ar_has9 d I.m.fit.e
    have nn := HasQ.mul I.m.fit I.r.fit m hx I.nn.fit.e
    exact HasQ.mul I.nn.fit I.w.fit nn w I.t.fit.e
  exact ⟨Rat.le_trans (rv_low (key r1)) (ring_low y0 y1 p0 pq q1), Rat.le_trans (ring_high y0 y1 p0 pq q1) (rv_high (key r2))⟩
end

section
variable {f n k : Nat} (hf : In (oneR f) aI) (hn : 1 ≤ n) (hn' : n < 65) (hp : ∀ i, i ≤ n → PtN n i)
include hf hn hn' hp
theorem goL_in : ∀ j, j < 65 → k + j ≤ n → In (goL f n k j) (bS j)
  | 0, _, _ => .refl Or.z_fit
  | j + 1, hj, hk => add_in (goL_in j (by omega) (by omega)) (bs_fit (by omega)) (end_lo9 (go_in hf (hp _ (by omega)) (hp _ (by omega)) hn hn').t) bT_fit (bs_e (by omega))
theorem goH_in : ∀ j, j < 65 → k + j ≤ n → In (goH f n k j) (bS j)
  | 0, _, _ => .refl Or.z_fit
  | j + 1, hj, hk => add_in (goH_in j (by omega) (by omega)) (bs_fit (by omega)) (end_hi9 (go_in hf (hp _ (by omega)) (hp _ (by omega)) hn hn').t) bT_fit (bs_e (by omega))
theorem goL_has : ∀ j, j < 65 → k + j ≤ n → ∃ q, HasQ (goL f n k j) q ∧ q ≤ fQ (rv f) (rv (xw n k)) - fQ (rv f) (rv (xw n (k + j)))
  | 0, _, _ => ⟨0, by have := rv_has 0; rw [rv_0] at this; exact this, by rw [Nat.add_zero]; grind⟩
  | j + 1, hj, hk => by
    obtain ⟨q, h1, h2⟩ := goL_has j (by omega) (by omega)
    have I := goL_in (k := k) hf hn hn' hp j (by omega) (by omega)
    have I' := goL_in (k := k) hf hn hn' hp (j + 1) hj hk
    have T := go_in hf (hp (k + j) (by omega)) (hp (k + j + 1) (by omega)) hn hn'
    have c := (ring_cover hf (hp (k + j) (by omega)) (hp (k + j + 1) (by omega)) hn hn').1
    refine ⟨q + rv (goT f n (k + j)).lo, HasQ.add I.fit (end_lo9 T.t).fit h1 (rv_has _) I'.fit.e, ?_⟩
    rw [show k + (j + 1) = k + j + 1 by omega]
    grind
theorem goH_has : ∀ j, j < 65 → k + j ≤ n → ∃ q, HasQ (goH f n k j) q ∧ fQ (rv f) (rv (xw n k)) - fQ (rv f) (rv (xw n (k + j))) ≤ q
  | 0, _, _ => ⟨0, by have := rv_has 0; rw [rv_0] at this; exact this, by rw [Nat.add_zero]; grind⟩
  | j + 1, hj, hk => by
    obtain ⟨q, h1, h2⟩ := goH_has j (by omega) (by omega)
    have I := goH_in (k := k) hf hn hn' hp j (by omega) (by omega)
    have I' := goH_in (k := k) hf hn hn' hp (j + 1) hj hk
    have T := go_in hf (hp (k + j) (by omega)) (hp (k + j + 1) (by omega)) hn hn'
    have c := (ring_cover hf (hp (k + j) (by omega)) (hp (k + j + 1) (by omega)) hn hn').2
    refine ⟨q + rv (goT f n (k + j)).hi, HasQ.add I.fit (end_hi9 T.t).fit h1 (rv_has _) I'.fit.e, ?_⟩
    rw [show k + (j + 1) = k + j + 1 by omega]
    grind
theorem once_meets (hk : k < n) : val (goL f n k (n - k)).lo ≤ val (Gx.F (oneR (xw n k)) (oneR f)).hi ∧ val (Gx.F (oneR (xw n k)) (oneR f)).lo ≤ val (goH f n k (n - k)).hi := by
  obtain ⟨q, h1, h2⟩ := goL_has (k := k) hf hn hn' hp (n - k) (by omega) (by omega)
  obtain ⟨p, g1, g2⟩ := goH_has (k := k) hf hn hn' hp (n - k) (by omega) (by omega)
  have F := F_has (un_ou (hp k (by omega)).un) hf (rv_has (xw n k)) (rv_has f)
  have z : fQ (rv f) (rv (xw n (k + (n - k)))) = 0 := by
    rw [show k + (n - k) = n by omega]
    rcases one_ok n hn' with e | e
    · omega
    · rw [e, rv_1]
      unfold fQ
      grind
  rw [z] at h2 g2
  have F' : HasQ (Gx.F (oneR (xw n k)) (oneR f)) (fQ (rv f) (rv (xw n k))) := F
  exact ⟨has_le h1 F' (by grind), has_le F' g1 (by grind)⟩
end
end Go.Proofs.Ytdppppaoflhgdaa

namespace Go.Proofs.Ytdppppaoflhgdaa
open Go.RowKit

theorem btw_j (n : Nat) (hn : n < 4294967296) : ∃ x, In (oneR x) aI ∧ ∀ w, Calls Try.prog 16 #[.float .f64 4593671619917905920, .float .f64 4607182418800017408, .int .u32 n] w fun r w' => r = .returned (.float .f64 x) ∧ w = w' := by
  obtain ⟨x, h, c⟩ := between8_any 4593671619917905920 4607182418800017408 n (by decide) (by decide) (by decide) (by decide) (by decide +kernel) (by decide +kernel) (by decide +kernel) hn
  exact ⟨x, ⟨one_fit h.lt h.right, Int.le_trans aJ_in.lo h.lo, h.hi⟩, c⟩
def sumL (f N K i : Nat) : Res := goL f N K (i - K)
def sumH (f N K i : Nat) : Res := goH f N K (i - K)
section
variable {f N K : Nat}
theorem sumL_next {i : Nat} (h : K ≤ i) : sumL f N K (i + 1) = addR (sumL f N K i) (oneR (goT f N i).lo) := by
  obtain ⟨j, rfl⟩ : ∃ j, i = K + j := ⟨i - K, by omega⟩
  unfold sumL
  rw [show K + j + 1 - K = j + 1 by omega, show K + j - K = j by omega]; rfl
theorem sumH_next {i : Nat} (h : K ≤ i) : sumH f N K (i + 1) = addR (sumH f N K i) (oneR (goT f N i).hi) := by
  obtain ⟨j, rfl⟩ : ∃ j, i = K + j := ⟨i - K, by omega⟩
  unfold sumH
  rw [show K + j + 1 - K = j + 1 by omega, show K + j - K = j by omega]; rfl
variable (hf : In (oneR f) aI) (h1 : 1 ≤ N) (h2 : N < 65) (hp : ∀ i, i ≤ N → PtN N i)
include hf h1 h2 hp
theorem sumL_fit {i : Nat} (h : K ≤ i) (hi : i ≤ N) : Fit (sumL f N K i) := (goL_in (k := K) hf h1 h2 hp (i - K) (by omega) (by omega)).fit
theorem sumH_fit {i : Nat} (h : K ≤ i) (hi : i ≤ N) : Fit (sumH f N K i) := (goH_in (k := K) hf h1 h2 hp (i - K) (by omega) (by omega)).fit
theorem sumL_add {i : Nat} (h : K ≤ i) (hi : i < N) :
    K2 23 0 0 (sumL f N K i).lo (sumL f N K i).hi (goT f N i).lo (goT f N i).lo (sumL f N K (i + 1)).lo (sumL f N K (i + 1)).hi := by
  have f1 := sumL_fit (K := K) hf h1 h2 hp (by omega : K ≤ i + 1) hi
  rw [sumL_next h] at f1 ⊢
  have f0 := sumL_fit (K := K) hf h1 h2 hp h (Nat.le_of_lt hi)
  have ft := (end_lo9 (go_in hf (hp i (by omega)) (hp (i + 1) hi) h1 h2).t).fit
  generalize (goT f N i).lo = x at *
  generalize sumL f N K i = s at *
  exact fun pb => calc_add (a := s) (b := oneR x) f0 ft f1 pb
theorem sumH_add {i : Nat} (h : K ≤ i) (hi : i < N) :
    K2 23 0 0 (sumH f N K i).lo (sumH f N K i).hi (goT f N i).hi (goT f N i).hi (sumH f N K (i + 1)).lo (sumH f N K (i + 1)).hi := by
  have f1 := sumH_fit (K := K) hf h1 h2 hp (by omega : K ≤ i + 1) hi
  rw [sumH_next h] at f1 ⊢
  have f0 := sumH_fit (K := K) hf h1 h2 hp h (Nat.le_of_lt hi)
  have ft := (end_hi9 (go_in hf (hp i (by omega)) (hp (i + 1) hi) h1 h2).t).fit
  generalize (goT f N i).hi = x at *
  generalize sumH f N K i = s at *
  exact fun pb => calc_add (a := s) (b := oneR x) f0 ft f1 pb
end

set_option maxRecDepth 100000 in
set_option maxHeartbeats 1000000 in
theorem once_any (u m k : Nat) (w : World) (hu : u < 4294967296) (hm : m < 256) (hk : k < 256) :
    Calls Try.prog 4 #[.int .u32 u, .int .u8 m, .int .u8 k] w fun r w' => r = .returned (.bool true) ∧ Below w.heap.size w w' := by
  obtain ⟨f, hf, cf⟩ := btw_j u hu
  obtain ⟨N, hN⟩ : ∃ N, N = 1 + m % 64 := ⟨_, rfl⟩
  obtain ⟨K, hK⟩ : ∃ K, K = k % N := ⟨_, rfl⟩
  have n1 : 1 ≤ N := by omega
  have n2 : N < 65 := by omega
  have k1 : K < N := by rw [hK]; exact Nat.mod_lt _ n1
  have hp : ∀ i, i ≤ N → PtN N i := fun i hi => pt_any n1 n2 hi
  have ix := (hp K (Nat.le_of_lt k1)).un
  obtain ⟨b1, b2⟩ := once_meets (k := K) hf n1 n2 hp k1
  have fL := sumL_fit (K := K) hf n1 n2 hp (Nat.le_of_lt k1) (Nat.le_refl N)
  have fH := sumH_fit (K := K) hf n1 n2 hp (Nat.le_of_lt k1) (Nat.le_refl N)
  have fc : Fit (Gx.F (oneR (xw N K)) (oneR f)) := (g_in (un_ou ix) hf).F.fit
  have b1 : val (sumL f N K N).lo ≤ val (Gx.F (oneR (xw N K)) (oneR f)).hi := b1
  have b2 : val (Gx.F (oneR (xw N K)) (oneR f)).lo ≤ val (sumH f N K N).hi := b2
  have tF := F_any (un_ou ix) hf
  have t0 := F_any nil_in hf
  have t1 := F_any u1_in hf
  have f0 : Fit (Gx.F (oneR 0) (oneR f)) := (g_in nil_in hf).F.fit
  have f1 : Fit (Gx.F (oneR u1) (oneR f)) := (g_in u1_in hf).F.fit
  obtain ⟨z1, z2⟩ := face_0 hf
  obtain ⟨y1, y2⟩ := face_1 hf
  have zl : Op.floatEq .f64 (Gx.F (oneR 0) (oneR f)).lo 4607182418800017408 = true := by rw [z1]; decide +kernel
  have zh : Op.floatEq .f64 (Gx.F (oneR 0) (oneR f)).hi 4607182418800017408 = true := by rw [z2]; decide +kernel
  have yl : Op.floatEq .f64 (Gx.F (oneR u1) (oneR f)).lo 0 = true := by rw [y1]; decide +kernel
  have yh : Op.floatEq .f64 (Gx.F (oneR u1) (oneR f)).hi 0 = true := by rw [y2]; decide +kernel
  have T := fun i (hi : i < N) => go_in hf (hp i (Nat.le_of_lt hi)) (hp (i + 1) hi) n1 n2
  have cD : ∀ I, K ≤ I → I < N → ∀ w : World, Calls Try.prog 21 #[.agg #[.float .f64 (xw N I), .float .f64 (xw N (I + 1))], .agg #[.float .f64 f, .float .f64 f]] w fun r w' => r = .returned (.tuple #[.agg #[.float .f64 (goD f N I).lo, .float .f64 (goD f N I).hi], .int .i64 0]) ∧ Below w.heap.size w w' := fun I _ hI w => D_any (T I hI).r hf w
  have cM : ∀ I, K ≤ I → I < N → K2 18 0 0 arR.lo arR.hi (goD f N I).lo (goD f N I).hi (goM f N I).lo (goM f N I).hi := fun I _ hI pb => calc_mul ar_fit (T I hI).d.fit (T I hI).m.fit pb
  have cN : ∀ I, K ≤ I → I < N → K2 18 0 0 (goM f N I).lo (goM f N I).hi (xw N I) (xw N (I + 1)) (goN f N I).lo (goN f N I).hi := fun I _ hI pb => calc_mul (T I hI).m.fit (T I hI).r.fit (T I hI).nn.fit pb
  have cW : ∀ I, K ≤ I → I < N → K2 22 0 0 (xw N (I + 1)) (xw N (I + 1)) (xw N I) (xw N I) (goW N I).lo (goW N I).hi := fun I _ hI pb => calc_sub (hp (I + 1) hI).un.fit (hp I (Nat.le_of_lt hI)).un.fit (T I hI).w.fit pb
  have cT : ∀ I, K ≤ I → I < N → K2 18 0 0 (goN f N I).lo (goN f N I).hi (goW N I).lo (goW N I).hi (goT f N I).lo (goT f N I).hi := fun I _ hI pb => calc_mul (T I hI).nn.fit (T I hI).w.fit (T I hI).t.fit pb
  have cP : ∀ I, K ≤ I → I < N → ∀ w : World, Calls Try.prog 15 #[.float .f64 (goT f N I).lo] w fun r w' => r = .returned (.agg #[.float .f64 (goT f N I).lo, .float .f64 (goT f N I).lo]) ∧ Below w.heap.size w w' := fun I _ hI w => p9_any _ (T I hI).t.fit.lo (T I hI).t.fit.rlo w
  have cQ : ∀ I, K ≤ I → I < N → ∀ w : World, Calls Try.prog 15 #[.float .f64 (goT f N I).hi] w fun r w' => r = .returned (.agg #[.float .f64 (goT f N I).hi, .float .f64 (goT f N I).hi]) ∧ Below w.heap.size w w' := fun I _ hI w => p9_any _ (T I hI).t.fit.hi (T I hI).t.fit.rhi w
  have cL : ∀ I, K ≤ I → I < N → K2 23 0 0 (sumL f N K I).lo (sumL f N K I).hi (goT f N I).lo (goT f N I).lo (sumL f N K (I + 1)).lo (sumL f N K (I + 1)).hi := fun I hKI hI => sumL_add hf n1 n2 hp hKI hI
  have cH : ∀ I, K ≤ I → I < N → K2 23 0 0 (sumH f N K I).lo (sumH f N K I).hi (goT f N I).hi (goT f N I).hi (sumH f N K (I + 1)).lo (sumH f N K (I + 1)).hi := fun I hKI hI => sumH_add hf n1 n2 hp hKI hI
  have d12 : K2 18 0 0 4611686018427387904 4611686018427387904 4614256656552045848 4614256656552045849 arR.lo arR.hi := fun pb => calc_mul w2o_fit big_fit.1 ar_fit pb
  have hL0 : (sumL f N K K).lo = 0 ∧ (sumL f N K K).hi = 0 ∧ (sumH f N K K).lo = 0 ∧ (sumH f N K K).hi = 0 := by unfold sumL sumH; rw [Nat.sub_self]; exact ⟨rfl, rfl, rfl, rfl⟩
  have pf := fun w => p9_any f hf.fit.lo hf.fit.rlo w
  clear T z1 z2 y1 y2 f0 f1
  generalize Gx.F (oneR (xw N K)) (oneR f) = C at *
  generalize Gx.F (oneR 0) (oneR f) = Z at *
  generalize Gx.F (oneR u1) (oneR f) = Y at *
  generalize arR = A at *
  exact once_law (u0 := u) (m0 := m) (k0 := k) (mr := m % 64) (N := N) (K := K) (f := f) (xk := xw N K) (cl := C.lo) (ch := C.hi) (zl := Z.lo) (zh := Z.hi) (yl := Y.lo) (yh := Y.hi) (al := A.lo) (ah := A.hi) (X := xw N)
    (Ll := fun i => (sumL f N K i).lo) (Lh := fun i => (sumL f N K i).hi) (Hl := fun i => (sumH f N K i).lo) (Hh := fun i => (sumH f N K i).hi) (dl := fun i => (goD f N i).lo) (dh := fun i => (goD f N i).hi) (ml := fun i => (goM f N i).lo) (mh := fun i => (goM f N i).hi)
    (nl := fun i => (goN f N i).lo) (nh := fun i => (goN f N i).hi) (wl := fun i => (goW N i).lo) (wh := fun i => (goW N i).hi) (tl := fun i => (goT f N i).lo) (th := fun i => (goT f N i).hi) w
    (hr := by omega) (_hr0 := by omega) (_hr1 := by omega) (hn := by omega) (_hn1 := by omega) (_hn2 := by omega) (hk := by rw [hK]; rfl) (hk1 := k1) (hm0 := by omega) (hk0 := by omega)
    (c1 := Lib.hid cf) (c2 := Lib.hid pf) (q_xk := fun w => run_float_arith w .quo 22 .f64 _ _ _ (hp K (Nat.le_of_lt k1)).quo)
    (c3 := Lib.hid fun w => p9_any _ ix.fit.lo ix.fit.rlo w) (c4 := Lib.hid tF) (c5 := Lib.hid (p9_lit _ (by decide +kernel))) (c6 := Lib.hid t0) (c7 := Lib.hid (p9_lit _ (by decide +kernel))) (c8 := Lib.hid t1)
    (e_zl_418800017408 := zl) (e_zh_418800017408 := zh) (e_yl_0 := yl) (e_yh_0 := yh) (d10 := Lib.hid fun pb => calc_num w2o_fit pb) (c11 := Lib.hid fun w => pi_any w) (d12 := Lib.hid d12) (d13 := Lib.hid fun pb => calc_num Or.z_fit pb)
    (cX := Lib.hid fun I hI w => p9_any _ (hp I hI).un.fit.lo (hp I hI).un.fit.rlo w) (qX := Lib.hid fun I hI w => run_float_arith w .quo 22 .f64 _ _ _ (hp I hI).quo)
    (cD := Lib.hid cD) (cM := Lib.hid cM) (cN := Lib.hid cN) (cW := Lib.hid cW) (cT := Lib.hid cT) (cP := Lib.hid cP) (cQ := Lib.hid cQ) (cL := Lib.hid cL) (cH := Lib.hid cH)
    (o_leqLlN_ch := Lib.hid ((order_le _ _ fL.lo fc.hi fL.rlo fc.rhi).trans (decide_eq_true b1))) (o_leqcl_HhN := Lib.hid ((order_le _ _ fc.lo fH.hi fc.rlo fH.rhi).trans (decide_eq_true b2)))
    (c27 := Lib.hid awake9_any) (hL0 := Lib.hid hL0)
end Go.Proofs.Ytdppppaoflhgdaa

namespace Go.Proofs.Ytdppppaoflhgdaa
open Go.ChangeShapes Go.WideShapes Go.ChangeAt Go.RowKit

set_option maxRecDepth 100000 in
theorem ggxOnce_lifted (os : Os) (started : os.Started) (H : Type) (enc : TypeId × Value → H) :
    ReturnsInHanded {} Try.checked os 4 .any (Rows.ggxOnceSpec.pre6 enc Try.prog Try.f4 Rows.ggxOnceRow.domain false) (Rows.ggxOnceSpec.post enc Try.prog Try.f4 false true false false) := by
  refine returnsInHanded_of_change (C := Try.checked) Try.own started (by kernel_rfl) Try.func4
    (ChangeSpec.witness6 (enc := enc) (C := Try.checked) false ⟨#[], #[.int .u32 0, .int .u8 0, .int .u8 0], []⟩ 8 (by kernel_rfl) (by kernel_rfl) (by kernel_rfl) (by kernel_rfl)) ?_
  intro W base args ds gs before hval0 hW hcnd _
  have hval : ∀ (j : Nat) t v, Try.f4.params[j]? = some t → args[j]? = some v → Value.okWide Try.prog W .any base t v := hval0
  have hW' := hW
  obtain ⟨p, q, hA0, hV, rfl, hfz, hnd⟩ := hW
  have hA : DataW.TrodAll enc Try.prog W 0 (fun _ => true) true Try.f4.params.toList args.toList ds p := hA0
  rw [Try.params4] at hA hval
  obtain ⟨v0, v1, v2, d0, d1, d2, p0, p1, p2, rfl, rfl, rfl, h0, h1, h2⟩ := trodAll_three hA
  obtain ⟨rfl, rfl⟩ := trodVars_none hV
  obtain ⟨y0, rfl, rfl, rfl, wf0⟩ := open_int Try.underlying44 (hval 0 44 v0 rfl rfl) h0
  obtain ⟨y1, rfl, rfl, rfl, wf1⟩ := open_int Try.underlying5 (hval 1 5 v1 rfl rfl) h1
  obtain ⟨y2, rfl, rfl, rfl, wf2⟩ := open_int Try.underlying5 (hval 2 5 v2 rfl rfl) h2
  clear hA0 hval0
  simp only [List.append_nil] at hW'
  have b0 : 0 ≤ y0 ∧ y0 < 4294967296 := by
    have := wf0
    simp [Lit.wf] at this
    have e1 : IntKind.u32.min = 0 := by decide
    have e2 : IntKind.u32.max = 4294967295 := by decide
    omega
  obtain ⟨x0, rfl⟩ := Int.eq_ofNat_of_zero_le b0.1
  have l0_ : x0 < 4294967296 := by omega
  have b1 : 0 ≤ y1 ∧ y1 < 256 := by
    have := wf1
    simp [Lit.wf] at this
    have e1 : IntKind.u8.min = 0 := by decide
    have e2 : IntKind.u8.max = 255 := by decide
    omega
  obtain ⟨x1, rfl⟩ := Int.eq_ofNat_of_zero_le b1.1
  have l1_ : x1 < 256 := by omega
  have b2 : 0 ≤ y2 ∧ y2 < 256 := by
    have := wf2
    simp [Lit.wf] at this
    have e1 : IntKind.u8.min = 0 := by decide
    have e2 : IntKind.u8.max = 255 := by decide
    omega
  obtain ⟨x2, rfl⟩ := Int.eq_ofNat_of_zero_le b2.1
  have l2_ : x2 < 256 := by omega
  refine (once_any x0 x1 x2 W l0_ l1_ l2_).mono fun e W' ⟨he, hw⟩ => ?_
  subst he
  refine ⟨_, rfl, _, _, _, [], [], [], hW', trodAll_mk1 (shut_bool Try.underlying4 _), trodAll_mk3 (shut_int Try.underlying44 wf0) (shut_int Try.underlying5 wf1) (shut_int Try.underlying5 wf2), rfl, hw.frame _, fun h => by cases h⟩

theorem ggxOnce_holds : Rows.GgxOnceSaid :=
  OpenClaim.holds_of_wide 4 Try.f4 rfl rfl rfl rfl rfl rfl rfl ⟨rfl, rfl, rfl, rfl, rfl⟩ rfl rfl rfl rfl rfl (by kernel_rfl) Try.func4 (by kernel_rfl)
    (of_decide_eq_true (by kernel_rfl)) (by unfold Func.isWrapper; first | (rw [if_pos (by decide +kernel)]; kernel_rfl) | (rw [if_neg (by decide +kernel)]; exact ⟨rfl, rfl⟩))
    (fun os started H enc _ => ggxOnce_lifted os started H enc)

end Go.Proofs.Ytdppppaoflhgdaa
