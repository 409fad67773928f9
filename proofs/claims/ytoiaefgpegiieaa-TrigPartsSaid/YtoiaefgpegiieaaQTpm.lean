
/- TrigParts: for every interval that comes in. -/
import Derived.Test.YtoiaefgpegiieaaQHm
import Derived.Test.YtoiaefgpegiieaaQFD
import Derived.Test.YtoiaefgpegiieaaQTpA
import Derived.Test.YtoiaefgpegiieaaQTpB
import Derived.Test.YtoiaefgpegiieaaQTcX
import Derived.Test.YtoiaefgpegiieaaLdexp
import Derived.Deep.RegionHeld3
namespace Go.Proofs.Ytoiaefgpegiieaa
open Go.RowKit

/-- How fast a polynomial moves at most. -/
def dabs : List Rat → Rat
  | [] => 0
  | _ :: p => dabs p + pabs p
theorem ev_lip {a b : Rat} (a0 : -1 ≤ a) (b1 : b ≤ 1) (ab : a ≤ b) : ∀ p : List Rat, -((b - a) * dabs p) ≤ ev p b - ev p a ∧ ev p b - ev p a ≤ (b - a) * dabs p ∧ 0 ≤ dabs p
  | [] => by show -((b - a) * 0) ≤ (0 : Rat) - 0 ∧ (0 : Rat) - 0 ≤ (b - a) * 0 ∧ (0 : Rat) ≤ 0; refine ⟨?_, ?_, ?_⟩ <;> grind
  | c :: p => by
    obtain ⟨i1, i2, i3⟩ := ev_lip a0 b1 ab p
    obtain ⟨p1, p2, p3⟩ := ev_absT a0 (by grind : a ≤ 1) p
    show -((b - a) * (dabs p + pabs p)) ≤ (c + b * ev p b) - (c + a * ev p a) ∧ (c + b * ev p b) - (c + a * ev p a) ≤ (b - a) * (dabs p + pabs p) ∧ 0 ≤ dabs p + pabs p
    have d0 := Rat.mul_nonneg (by grind : 0 ≤ b - a) i3
    have k1 := Rat.mul_nonneg (by grind : 0 ≤ b - a) (by grind : 0 ≤ pabs p - ev p a)
    have k2 := Rat.mul_nonneg (by grind : 0 ≤ b - a) (by grind : 0 ≤ pabs p + ev p a)
    have key : -((b - a) * dabs p) ≤ b * (ev p b - ev p a) ∧ b * (ev p b - ev p a) ≤ (b - a) * dabs p := by
      generalize (b - a) * dabs p = U at *
      generalize ev p b - ev p a = D at *
      rcases Rat.le_total (a := 0) (b := b) with g | g
      · have q1 := Rat.mul_nonneg g (by grind : 0 ≤ U - D)
        have q2 := Rat.mul_nonneg g (by grind : 0 ≤ U + D)
        have q3 := Rat.mul_nonneg (by grind : 0 ≤ 1 - b) d0
        constructor <;> grind
      · have q1 := Rat.mul_nonneg (by grind : 0 ≤ -b) (by grind : 0 ≤ U - D)
        have q2 := Rat.mul_nonneg (by grind : 0 ≤ -b) (by grind : 0 ≤ U + D)
        have q3 := Rat.mul_nonneg (by grind : 0 ≤ 1 + b) d0
        constructor <;> grind
    refine ⟨?_, ?_, ?_⟩ <;> grind
def Sr : List Rat := padd (0 :: spr Hs) [0, -1]
def Cr : List Rat := padd Hc [0, 1 / 2]
theorem Sr_ok : dabs Sr ≤ 3 / 5 := by decide +kernel
theorem Cr_ok : dabs Cr ≤ 1 / 4 := by decide +kernel
theorem Sr_is (t : Rat) : ev Sr t = hS t - t := by
  unfold Sr hS
  rw [ev_add]
  show 0 + t * ev (spr Hs) t + (0 + t * (-1 + t * 0)) = _
  rw [ev_spr]; grind
theorem Cr_is (y : Rat) : ev Cr y = ev Hc y + y / 2 := by
  unfold Cr
  rw [ev_add]
  show _ + (0 + y * (1 / 2 + y * 0)) = _
  grind
theorem hS_mono {a b : Rat} (a0 : -1 ≤ a) (b1 : b ≤ 1) (ab : a ≤ b) : hS a ≤ hS b := by
  obtain ⟨i1, _, _⟩ := ev_lip a0 b1 ab Sr
  rw [Sr_is, Sr_is] at i1
  have o := Sr_ok
  have k := Rat.mul_nonneg (by grind : 0 ≤ b - a) (by grind : 0 ≤ 3 / 5 - dabs Sr)
  generalize dabs Sr = K at *
  grind
theorem Hc_anti {a b : Rat} (a0 : 0 ≤ a) (b1 : b ≤ 1) (ab : a ≤ b) : ev Hc b ≤ ev Hc a := by
  obtain ⟨_, i2, _⟩ := ev_lip (by grind : -1 ≤ a) b1 ab Cr
  rw [Cr_is, Cr_is] at i2
  have o := Cr_ok
  have k := Rat.mul_nonneg (by grind : 0 ≤ b - a) (by grind : 0 ≤ 1 / 4 - dabs Cr)
  generalize dabs Cr = K at *
  grind
theorem hC_anti {a b : Rat} (a0 : 0 ≤ a) (b1 : b ≤ 1) (ab : a ≤ b) : hC b ≤ hC a := by
  unfold hC
  have k1 := Rat.mul_nonneg a0 a0
  have k2 := Rat.mul_nonneg (by grind : 0 ≤ b - a) (by grind : 0 ≤ b + a)
  have k3 := Rat.mul_nonneg (by grind : 0 ≤ 1 - b) (by grind : 0 ≤ 1 + b)
  exact Hc_anti k1 (by grind) (by grind)
theorem hC_mono {a b : Rat} (a0 : -1 ≤ a) (b1 : b ≤ 0) (ab : a ≤ b) : hC a ≤ hC b := by
  have := hC_anti (a := -b) (b := -a) (by grind) (by grind) (by grind)
  rw [hC_even, hC_even] at this
  exact this
/-- The eighth of a turn. -/
def hh : Rat := hq / 4
def hEp : Rat := 1 / 1267650600228229401496703205376
theorem hh_facts : 0 ≤ hh ∧ hh ≤ 1 ∧ hS hh ≤ hC hh + hEp ∧ hC hh ≤ hS hh + hEp ∧ 1 / 2 ≤ hC hh ∧ 1 / 2 ≤ hS hh ∧ 0 ≤ hEp ∧ hEp * 36028797018963968 ≤ 1 / 8 := by decide +kernel
/-- No more, but for very little where neither is small. -/
def Ls (m a b : Rat) : Prop := a ≤ b ∨ (a ≤ b + hEp ∧ (m ≤ b ∨ b ≤ -m))
theorem Ls.tol {m a b : Rat} (h : Ls m a b) : a ≤ b + hEp := by
  have := hh_facts.2.2.2.2.2.2.1
  rcases h with h | h
  · grind
  · exact h.1
theorem Ls.weak {a b : Rat} (h : Ls (1 / 2) a b) : Ls (1 / 4) a b := by
  rcases h with h | ⟨h, g⟩
  · exact Or.inl h
  · refine Or.inr ⟨h, ?_⟩
    rcases g with g | g
    · exact Or.inl (by grind)
    · exact Or.inr (by grind)
theorem Ls.neg {a b : Rat} (h : Ls (1 / 2) a b) : Ls (1 / 4) (-b) (-a) := by
  have e := hh_facts.2.2.2.2.2.2
  rcases Rat.le_total (a := a) (b := b) with k | k
  · exact Or.inl (by grind)
  rcases h with h | ⟨h, g⟩
  · exact Or.inl (by grind)
  · refine Or.inr ⟨by grind, ?_⟩
    rcases g with g | g
    · exact Or.inr (by grind)
    · exact Or.inl (by grind)
def hP (t : Rat) : Nat → Rat
  | 0 => hC t
  | 1 => -hS t
  | _ => -hC t
structure Vh (k : Nat) (t : Rat) : Prop where
  lo : -hh ≤ t
  hi : t ≤ hh
  pos : k = 0 → 0 ≤ t
  neg : k = 2 → t ≤ 0
/-- From the greatest to the least. -/
theorem piece {k k' : Nat} {t t' : Rat} (hk : k ≤ 2) (hk' : k' ≤ 2) (v : Vh k t) (v' : Vh k' t') (o : k < k' ∨ (k = k' ∧ t ≤ t')) : Ls (1 / 2) (hP t' k') (hP t k) := by
  obtain ⟨h0, h1, e1, e2, c1, s1, _, _⟩ := hh_facts
  have l := v.lo
  have u := v.hi
  have l' := v'.lo
  have u' := v'.hi
  rcases (by omega : (k = 0 ∧ k' = 0) ∨ (k = 0 ∧ k' = 1) ∨ (k = 0 ∧ k' = 2) ∨ (k = 1 ∧ k' = 1) ∨ (k = 1 ∧ k' = 2) ∨ (k = 2 ∧ k' = 2)) with ⟨rfl, rfl⟩ | ⟨rfl, rfl⟩ | ⟨rfl, rfl⟩ | ⟨rfl, rfl⟩ | ⟨rfl, rfl⟩ | ⟨rfl, rfl⟩
  · have ot : t ≤ t' := by rcases o with o | o; · exact absurd o (by decide)
                           · exact o.2
    exact Or.inl (hC_anti (v.pos rfl) (by grind) ot)
  · have a := hS_mono (a := -hh) (b := t') (by grind) (by grind) l'
    rw [hS_odd] at a
    have b := hC_anti (v.pos rfl) (by grind : hh ≤ 1) u
    exact Or.inr ⟨by show -hS t' ≤ hC t + hEp; grind, Or.inl (by show 1 / 2 ≤ hC t; grind)⟩
  · have a := hC_anti (v.pos rfl) (by grind : hh ≤ 1) u
    have b := hC_mono (a := -hh) (b := t') (by grind) (v'.neg rfl) l'
    rw [hC_even] at b
    exact Or.inl (by show -hC t' ≤ hC t; grind)
  · have ot : t ≤ t' := by rcases o with o | o; · exact absurd o (by decide)
                           · exact o.2
    have a := hS_mono (a := t) (b := t') (by grind) (by grind) ot
    exact Or.inl (by show -hS t' ≤ -hS t; grind)
  · have a := hC_mono (a := -hh) (b := t') (by grind) (v'.neg rfl) l'
    rw [hC_even] at a
    have b := hS_mono (a := t) (b := hh) (by grind) (by grind) u
    rcases Rat.le_total (a := -hC t') (b := -hS t) with g | g
    · exact Or.inl g
    · exact Or.inr ⟨by show -hC t' ≤ -hS t + hEp; grind, Or.inr (by show -hS t ≤ -(1 / 2); grind)⟩
  · have ot : t ≤ t' := by rcases o with o | o; · exact absurd o (by decide)
                           · exact o.2
    have a := hC_mono (a := t) (b := t') (by grind) (v'.neg rfl) ot
    exact Or.inl (by show -hC t' ≤ -hC t; grind)
/-- Words of intervals, so. -/
theorem Ls.meet {r s : Res} {a b : Rat} (fr : Fit r) (fs : Fit s) (h : HasQ r a) (k : HasQ s b) (l : Ls (1 / 4) a b) : val r.lo ≤ val s.hi := by
  have S := ssQ
  have hl := h.low
  have kh := k.high
  have P0 := Rat.le_of_lt S
  rcases l with l | ⟨l, g⟩
  · exact Rat.intCast_le_intCast.1 (Rat.le_trans hl (Rat.le_trans (Rat.mul_le_mul_of_nonneg_right l P0) kh))
  rcases Int.lt_or_le (val s.hi) (val r.lo) with q | q
  · exfalso
    obtain ⟨_, g2, g3, g4⟩ := apart fs.hi fr.lo fs.rhi fr.rlo q
    obtain ⟨g1, _, _, _⟩ := apart fs.hi fr.lo fs.rhi fr.rlo q
    have cast : ∀ {x y : Int}, x ≤ y * 9007199254740992 → (x : Rat) ≤ (y : Rat) * 9007199254740992 := fun {x y} h => by
      have := Rat.intCast_le_intCast.2 h
      rw [Rat.intCast_mul] at this
      exact this
    have c1 := cast g1
    have c4 := cast g4
    rw [Rat.intCast_sub] at c1 c4
    rw [Rat.intCast_neg] at c4
    have z := Rat.mul_le_mul_of_nonneg_right l P0
    have e := hh_facts.2.2.2.2.2.2
    have ze := Rat.mul_le_mul_of_nonneg_right e.2 P0
    have z0 := Rat.mul_nonneg e.1 P0
    generalize ((val s.hi : Int) : Rat) = H at *
    generalize ((val r.lo : Int) : Rat) = L at *
    generalize ((SS : Int) : Rat) = P at *
    rcases g with g | g
    · have w := Rat.mul_le_mul_of_nonneg_right g P0
      grind
    · have w := Rat.mul_le_mul_of_nonneg_right g P0
      grind
  · exact q
end Go.Proofs.Ytoiaefgpegiieaa

namespace Go.Proofs.Ytoiaefgpegiieaa
open Go.RowKit

/-- The sine and the cosine of a word, as polynomials have them. -/
def sv (x : Nat) : Rat := sQ (hS (hT x (qN x))) (hC (hT x (qN x))) (qN x)
def cv (x : Nat) : Rat := cQ (hS (hT x (qN x))) (hC (hT x (qN x))) (qN x)
theorem sv_has {x : Nat} (h : Turn x) : HasQ (sinR x) (sv x) ∧ HasQ (cosR x) (cv x) := (turn_has h).2
structure Ph (x j : Nat) (t : Rat) : Prop where
  ej : qN x = j
  et : hT x j = t
  le : j ≤ 4
  lo : -hh ≤ t
  hi : t ≤ hh
  pos : (j : Int) * SS ≤ 4 * val x → 0 ≤ t
  neg : 4 * val x ≤ (j : Int) * SS → t ≤ 0
  a : (2 * (j : Int) - 1) * SS ≤ 8 * val x
  b : 8 * val x < (2 * (j : Int) + 1) * SS
theorem qN_ends {x : Nat} (h : Turn x) : (2 * ((qN x : Nat) : Int) - 1) * SS ≤ 8 * val x ∧ 8 * val x < (2 * ((qN x : Nat) : Int) + 1) * SS := by
  obtain ⟨a0, a1, a2, a3⟩ := eighth_val
  have l := h.lo
  have u := h.hi
  rw [u1_val] at u
  have s0 := SS0
  unfold qN
  generalize SS = s at *
  split
  · show (2 * ((0 : Nat) : Int) - 1) * s ≤ _ ∧ _ < (2 * ((0 : Nat) : Int) + 1) * s; omega
  split
  · show (2 * ((1 : Nat) : Int) - 1) * s ≤ _ ∧ _ < (2 * ((1 : Nat) : Int) + 1) * s; omega
  split
  · show (2 * ((2 : Nat) : Int) - 1) * s ≤ _ ∧ _ < (2 * ((2 : Nat) : Int) + 1) * s; omega
  split
  · show (2 * ((3 : Nat) : Int) - 1) * s ≤ _ ∧ _ < (2 * ((3 : Nat) : Int) + 1) * s; omega
  · show (2 * ((4 : Nat) : Int) - 1) * s ≤ _ ∧ _ < (2 * ((4 : Nat) : Int) + 1) * s; omega
theorem hX_is (x : Nat) : hX x * ((SS : Int) : Rat) = ((val x : Int) : Rat) := by
  have S := ssQ
  unfold hX; grind
theorem le_hX {x : Nat} {m n : Int} (h : m * SS ≤ n * val x) : (m : Rat) ≤ (n : Rat) * hX x := by
  have S := ssQ
  have c := Rat.intCast_le_intCast.2 h
  rw [Rat.intCast_mul, Rat.intCast_mul, ← hX_is] at c
  exact Rat.le_of_mul_le_mul_right (c := ((SS : Int) : Rat)) (by grind) S
theorem hX_le {x : Nat} {m n : Int} (h : n * val x ≤ m * SS) : (n : Rat) * hX x ≤ (m : Rat) := by
  have S := ssQ
  have c := Rat.intCast_le_intCast.2 h
  rw [Rat.intCast_mul, Rat.intCast_mul, ← hX_is] at c
  exact Rat.le_of_mul_le_mul_right (c := ((SS : Int) : Rat)) (by grind) S
theorem phase {x : Nat} (h : Turn x) : Ph x (qN x) (hT x (qN x)) := by
  obtain ⟨a, b⟩ := qN_ends h
  have q := hq_big
  have c1 := le_hX a
  have c2 := hX_le (Int.le_of_lt b)
  have e8 : ((8 : Int) : Rat) = 8 := rfl
  have e4 : ((4 : Int) : Rat) = 4 := rfl
  have e2 : ((2 : Int) : Rat) = 2 := rfl
  have e1 : ((1 : Int) : Rat) = 1 := rfl
  rw [Rat.intCast_sub, Rat.intCast_mul, e8, e2, e1] at c1
  rw [Rat.intCast_add, Rat.intCast_mul, e8, e2, e1] at c2
  refine ⟨rfl, rfl, qN_le x, ?_, ?_, fun g => ?_, fun g => ?_, a, b⟩
  · have k := Rat.mul_nonneg (by grind : 0 ≤ hq) (by grind : 0 ≤ 8 * hX x - (2 * ((qN x : Int) : Rat) - 1))
    unfold hT hh
    grind
  · have k := Rat.mul_nonneg (by grind : 0 ≤ hq) (by grind : 0 ≤ (2 * ((qN x : Int) : Rat) + 1) - 8 * hX x)
    unfold hT hh
    grind
  · have c := le_hX (n := 4) g
    rw [e4] at c
    have k := Rat.mul_nonneg (by grind : 0 ≤ hq) (by grind : 0 ≤ 4 * hX x - ((qN x : Int) : Rat))
    unfold hT
    grind
  · have c := hX_le (n := 4) g
    rw [e4] at c
    have k := Rat.mul_nonneg (by grind : 0 ≤ hq) (by grind : 0 ≤ ((qN x : Int) : Rat) - 4 * hX x)
    unfold hT
    grind
theorem ph_order {x y j j' : Nat} {t t' : Rat} (p : Ph x j t) (p' : Ph y j' t') (h : val x ≤ val y) : j < j' ∨ (j = j' ∧ t ≤ t') := by
  rcases Nat.lt_trichotomy j j' with g | g | g
  · exact Or.inl g
  · refine Or.inr ⟨g, ?_⟩
    subst g
    have q := hq_big
    have S := ssQ
    have c := Rat.intCast_le_intCast.2 h
    rw [← hX_is, ← hX_is] at c
    have c' := Rat.le_of_mul_le_mul_right c S
    have k := Rat.mul_nonneg (by grind : 0 ≤ hq) (by grind : 0 ≤ hX y - hX x)
    have e1 := p.et
    have e2 := p'.et
    unfold hT at e1 e2
    grind
  · exfalso
    have k := Int.mul_le_mul_of_nonneg_right (by omega : 2 * (j' : Int) + 1 ≤ 2 * (j : Int) - 1) (Int.le_of_lt SS0)
    have a := p.a
    have b := p'.b
    omega
theorem sv_is {x j : Nat} {t : Rat} (p : Ph x j t) : sv x = sQ (hS t) (hC t) j ∧ cv x = cQ (hS t) (hC t) j := by
  unfold sv cv
  rw [p.ej, p.et]; exact ⟨rfl, rfl⟩
theorem range_dec {x y j j' : Nat} {t t' : Rat} (p : Ph x j t) (p' : Ph y j' t') (h : val x ≤ val y) (i : Int) (lo : i * SS ≤ 4 * val x) (hi : 4 * val y ≤ (i + 2) * SS) :
    ∃ k k' : Nat, (k : Int) = (j : Int) - i ∧ (k' : Int) = (j' : Int) - i ∧ k ≤ 2 ∧ k' ≤ 2 ∧ Ls (1 / 2) (hP t' k') (hP t k) := by
  have s0 := SS0
  have up : ∀ {z j : Nat} {t : Rat}, Ph z j t → 4 * val z ≤ (i + 2) * SS → (j : Int) ≤ i + 2 := fun {z j t} p g => by
    have a := p.a
    have c : (2 * (j : Int) - 1) * SS ≤ (2 * (i + 2)) * SS := by rw [Int.mul_assoc 2 (i + 2) SS]; omega
    have := Int.le_of_mul_le_mul_right c s0
    omega
  have dn : ∀ {z j : Nat} {t : Rat}, Ph z j t → i * SS ≤ 4 * val z → i ≤ (j : Int) := fun {z j t} p g => by
    have b := p.b
    have c : (2 * i) * SS ≤ (2 * (j : Int) + 1) * SS := by rw [Int.mul_assoc 2 i SS]; omega
    have := Int.le_of_mul_le_mul_right c s0
    omega
  have u1 := up p (by omega)
  have u2 := up p' hi
  have d1 := dn p lo
  have d2 := dn p' (by omega)
  have o := ph_order p p' h
  refine ⟨((j : Int) - i).toNat, ((j' : Int) - i).toNat, by omega, by omega, by omega, by omega, ?_⟩
  refine piece (by omega) (by omega) ⟨p.lo, p.hi, fun e => p.pos ?_, fun e => p.neg ?_⟩ ⟨p'.lo, p'.hi, fun e => p'.pos ?_, fun e => p'.neg ?_⟩ ?_
  · rw [show (j : Int) = i by omega]; exact lo
  · rw [show (j : Int) = i + 2 by omega]; omega
  · rw [show (j' : Int) = i by omega]; omega
  · rw [show (j' : Int) = i + 2 by omega]; exact hi
  · rcases o with o | ⟨o, o'⟩
    · exact Or.inl (by omega)
    · exact Or.inr ⟨by rw [o], o'⟩
section
variable {s c : Rat}
theorem v_s1 (t : Rat) (k j : Nat) (hk : k ≤ 2) (e : (k : Int) = (j : Int) - (-1)) : sQ (hS t) (hC t) j = -hP t k := by
  rcases (by omega : (k = 1 ∧ j = 0) ∨ (k = 2 ∧ j = 1)) with ⟨rfl, rfl⟩ | ⟨rfl, rfl⟩
  · show hS t = - -hS t; grind
  · show hC t = - -hC t; grind
theorem v_s2 (t : Rat) (k j : Nat) (hk : k ≤ 2) (e : (k : Int) = (j : Int) - 1) : sQ (hS t) (hC t) j = hP t k := by
  rcases (by omega : (k = 0 ∧ j = 1) ∨ (k = 1 ∧ j = 2) ∨ (k = 2 ∧ j = 3)) with ⟨rfl, rfl⟩ | ⟨rfl, rfl⟩ | ⟨rfl, rfl⟩ <;> rfl
theorem v_s3 (t : Rat) (k j : Nat) (hj : j ≤ 4) (e : (k : Int) = (j : Int) - 3) : sQ (hS t) (hC t) j = -hP t k := by
  rcases (by omega : (k = 0 ∧ j = 3) ∨ (k = 1 ∧ j = 4)) with ⟨rfl, rfl⟩ | ⟨rfl, rfl⟩
  · rfl
  · show hS t = - -hS t; grind
theorem v_c1 (t : Rat) (k j : Nat) (hk : k ≤ 2) (e : (k : Int) = (j : Int) - 0) : cQ (hS t) (hC t) j = hP t k := by
  rcases (by omega : (k = 0 ∧ j = 0) ∨ (k = 1 ∧ j = 1) ∨ (k = 2 ∧ j = 2)) with ⟨rfl, rfl⟩ | ⟨rfl, rfl⟩ | ⟨rfl, rfl⟩ <;> rfl
theorem v_c2 (t : Rat) (k j : Nat) (hk : k ≤ 2) (e : (k : Int) = (j : Int) - 2) : cQ (hS t) (hC t) j = -hP t k := by
  rcases (by omega : (k = 0 ∧ j = 2) ∨ (k = 1 ∧ j = 3) ∨ (k = 2 ∧ j = 4)) with ⟨rfl, rfl⟩ | ⟨rfl, rfl⟩ | ⟨rfl, rfl⟩
  · rfl
  · show hS t = - -hS t; grind
  · show hC t = - -hC t; grind
end
section
variable {x y : Nat}
theorem sin_1 (hx : Turn x) (hy : Turn y) (h : val x ≤ val y) (g : 4 * val y ≤ SS) : Ls (1 / 4) (sv x) (sv y) := by
  have p := phase hx
  have p' := phase hy
  have l := hx.lo
  have s0 := SS0
  obtain ⟨k, k', e, e', b, b', r⟩ := range_dec p p' h (-1) (by omega) (by omega)
  rw [(sv_is p).1, (sv_is p').1, v_s1 _ k _ b e, v_s1 _ k' _ b' e']
  exact r.neg
theorem sin_2 (hx : Turn x) (hy : Turn y) (h : val x ≤ val y) (f : SS ≤ 4 * val x) (g : 4 * val y ≤ 3 * SS) : Ls (1 / 4) (sv y) (sv x) := by
  have p := phase hx
  have p' := phase hy
  obtain ⟨k, k', e, e', b, b', r⟩ := range_dec p p' h 1 (by omega) (by omega)
  rw [(sv_is p).1, (sv_is p').1, v_s2 _ k _ b e, v_s2 _ k' _ b' e']
  exact r.weak
theorem sin_3 (hx : Turn x) (hy : Turn y) (h : val x ≤ val y) (f : 3 * SS ≤ 4 * val x) : Ls (1 / 4) (sv x) (sv y) := by
  have p := phase hx
  have p' := phase hy
  have u := hy.hi
  rw [u1_val] at u
  have s0 := SS0
  obtain ⟨k, k', e, e', b, b', r⟩ := range_dec p p' h 3 (by omega) (by omega)
  rw [(sv_is p).1, (sv_is p').1, v_s3 _ k _ p.le e, v_s3 _ k' _ p'.le e']
  exact r.neg
theorem cos_1 (hx : Turn x) (hy : Turn y) (h : val x ≤ val y) (g : 4 * val y ≤ 2 * SS) : Ls (1 / 4) (cv y) (cv x) := by
  have p := phase hx
  have p' := phase hy
  have l := hx.lo
  obtain ⟨k, k', e, e', b, b', r⟩ := range_dec p p' h 0 (by omega) (by omega)
  rw [(sv_is p).2, (sv_is p').2, v_c1 _ k _ b e, v_c1 _ k' _ b' e']
  exact r.weak
theorem cos_2 (hx : Turn x) (hy : Turn y) (h : val x ≤ val y) (f : 2 * SS ≤ 4 * val x) : Ls (1 / 4) (cv x) (cv y) := by
  have p := phase hx
  have p' := phase hy
  have u := hy.hi
  rw [u1_val] at u
  obtain ⟨k, k', e, e', b, b', r⟩ := range_dec p p' h 2 (by omega) (by omega)
  rw [(sv_is p).2, (sv_is p').2, v_c2 _ k _ b e, v_c2 _ k' _ b' e']
  exact r.neg
end
theorem has_iff {a b q : Nat} (ta : Turn a) (tb : Turn b) (h : val a ≤ val b) (lq : q < 18446744073709551616) (rq : rightB q = true) : (hasB a b q = true → val a ≤ val q ∧ val q ≤ val b) ∧ (hasB a b q = false → val q < val a ∨ val b < val q) := by
  have e1 : rawLe a q = leB a q := order_le a q ta.lt lq ta.right rq
  have e2 : rawLe q b = leB q b := order_le q b lq tb.lt rq tb.right
  have e3 : ivR a b = true := by unfold ivR leB; rw [ta.right, tb.right, decide_eq_true h]; rfl
  unfold hasB
  rw [e1, e2, e3]
  unfold leB
  constructor
  · intro g
    simp only [Bool.true_and, Bool.and_eq_true, decide_eq_true_eq] at g
    exact g
  · intro g
    by_cases c : val a ≤ val q
    · rw [decide_eq_true c] at g
      simp only [Bool.true_and, decide_eq_false_iff_not] at g
      exact Or.inr (by omega)
    · exact Or.inl (by omega)
theorem quarters : 4 * val 4598175219545276416 = SS ∧ 4 * val 4602678819172646912 = 2 * SS ∧ 4 * val 4604930618986332160 = 3 * SS := by decide +kernel
section
variable {a b x : Nat}
/-- What is told of a number is above one end, or the least of all is told. -/
theorem sin_low (ta : Turn a) (tb : Turn b) (tx : Turn x) (h1 : val a ≤ val x) (h2 : val x ≤ val b) : hasB a b 4604930618986332160 = true ∨ ∃ e, (e = a ∨ e = b) ∧ Ls (1 / 4) (sv e) (sv x) := by
  obtain ⟨q1, _, q3⟩ := quarters
  cases hb : hasB a b 4604930618986332160
  · refine Or.inr ?_
    rcases (has_iff ta tb (by omega) (by decide) (by decide)).2 hb with g | g
    · exact ⟨a, Or.inl rfl, sin_3 ta tx h1 (by omega)⟩
    · by_cases c : 4 * val x ≤ SS
      · exact ⟨a, Or.inl rfl, sin_1 ta tx h1 c⟩
      · exact ⟨b, Or.inr rfl, sin_2 tx tb h2 (by omega) (by omega)⟩
  · exact Or.inl rfl
theorem sin_high (ta : Turn a) (tb : Turn b) (tx : Turn x) (h1 : val a ≤ val x) (h2 : val x ≤ val b) : hasB a b 4598175219545276416 = true ∨ ∃ e, (e = a ∨ e = b) ∧ Ls (1 / 4) (sv x) (sv e) := by
  obtain ⟨q1, _, q3⟩ := quarters
  cases hb : hasB a b 4598175219545276416
  · refine Or.inr ?_
    rcases (has_iff ta tb (by omega) (by decide) (by decide)).2 hb with g | g
    · by_cases c : 4 * val x ≤ 3 * SS
      · exact ⟨a, Or.inl rfl, sin_2 ta tx h1 (by omega) c⟩
      · exact ⟨b, Or.inr rfl, sin_3 tx tb h2 (by omega)⟩
    · exact ⟨b, Or.inr rfl, sin_1 tx tb h2 (by omega)⟩
  · exact Or.inl rfl
theorem cos_low (ta : Turn a) (tb : Turn b) (tx : Turn x) (h1 : val a ≤ val x) (h2 : val x ≤ val b) : hasB a b 4602678819172646912 = true ∨ ∃ e, (e = a ∨ e = b) ∧ Ls (1 / 4) (cv e) (cv x) := by
  obtain ⟨_, q2, _⟩ := quarters
  cases hb : hasB a b 4602678819172646912
  · refine Or.inr ?_
    rcases (has_iff ta tb (by omega) (by decide) (by decide)).2 hb with g | g
    · exact ⟨a, Or.inl rfl, cos_2 ta tx h1 (by omega)⟩
    · exact ⟨b, Or.inr rfl, cos_1 tx tb h2 (by omega)⟩
  · exact Or.inl rfl
theorem cos_high (ta : Turn a) (tb : Turn b) (tx : Turn x) (h1 : val a ≤ val x) (h2 : val x ≤ val b) : ∃ e, (e = a ∨ e = b) ∧ Ls (1 / 4) (cv x) (cv e) := by
  by_cases c : 4 * val x ≤ 2 * SS
  · exact ⟨a, Or.inl rfl, cos_1 ta tx h1 c⟩
  · exact ⟨b, Or.inr rfl, cos_2 tx tb h2 (by omega)⟩
end

theorem hull_ends {r s : Res} (fr : Fit r) (fs : Fit s) : val (hullR r s).lo = min (val r.lo) (val s.lo) ∧ val (hullR r s).hi = max (val r.hi) (val s.hi) := by
  obtain ⟨_, _, l⟩ := min_facts r.lo s.lo fr.lo fs.lo fr.rlo fs.rlo
  obtain ⟨_, _, u⟩ := max_facts r.hi s.hi fr.hi fs.hi fr.rhi fs.rhi
  exact ⟨l, u⟩
/-- The ends of a whole, out of its ends'. -/
structure Ends (a b : Nat) : Prop where
  slo : val (sinU a b).lo = if hasB a b 4604930618986332160 = true then -SS else min (val (sinR a).lo) (val (sinR b).lo)
  shi : val (sinU a b).hi = if hasB a b 4598175219545276416 = true then SS else max (val (sinR a).hi) (val (sinR b).hi)
  olo : val (cosU a b).lo = if hasB a b 4602678819172646912 = true then -SS else min (val (cosR a).lo) (val (cosR b).lo)
  ohi : val (cosU a b).hi = max (val (cosR a).hi) (val (cosR b).hi)
theorem ends_of {a b : Nat} (ta : Turn a) (tb : Turn b) : Ends a b := by
  obtain ⟨f2, f3, fU, g2, gU⟩ := sin_fits' ta tb
  obtain ⟨fa, la, ua⟩ := sinR_facts ta
  obtain ⟨fb, lb, ub⟩ := sinR_facts tb
  obtain ⟨ga, la', ua'⟩ := cosR_facts ta
  obtain ⟨gb, lb', ub'⟩ := cosR_facts tb
  rw [m1_val] at la lb la' lb'
  rw [u1_val] at ua ub ua' ub'
  have ea := fa.le
  have eb := fb.le
  have ea' := ga.le
  have eb' := gb.le
  obtain ⟨s1, s2⟩ := hull_ends fa fb
  obtain ⟨c1, c2⟩ := hull_ends ga gb
  have s0 := SS0
  have k1 : val (sin3 a b).lo = min (val (sinR a).lo) (val (sinR b).lo) ∧ val (sin3 a b).hi = if hasB a b 4598175219545276416 = true then SS else max (val (sinR a).hi) (val (sinR b).hi) := by
    unfold sin3 at f3 ⊢
    cases h : hasB a b 4598175219545276416
    · rw [if_neg Bool.false_ne_true, if_neg Bool.false_ne_true]; exact ⟨s1, s2⟩
    · obtain ⟨x1, x2⟩ := hull_ends f2 u1_fit
      have v : val (oneR u1).lo = SS ∧ val (oneR u1).hi = SS := ⟨u1_val, u1_val⟩
      rw [if_pos rfl, if_pos rfl, x1, x2, v.1, v.2]
      unfold sin2
      rw [s1, s2]; omega
  refine ⟨?_, ?_, ?_, ?_⟩
  · unfold sinU
    cases h : hasB a b 4604930618986332160
    · rw [if_neg Bool.false_ne_true, if_neg Bool.false_ne_true]; exact k1.1
    · obtain ⟨x1, _⟩ := hull_ends f3 m1_fit
      have v : val (oneR m1).lo = -SS := m1_val
      rw [if_pos rfl, if_pos rfl, x1, v, k1.1]; omega
  · unfold sinU
    cases h : hasB a b 4604930618986332160
    · rw [if_neg Bool.false_ne_true]; exact k1.2
    · obtain ⟨_, x2⟩ := hull_ends f3 m1_fit
      have v : val (oneR m1).hi = -SS := m1_val
      rw [if_pos rfl, x2, v, k1.2]
      split <;> omega
  · unfold cosU
    cases h : hasB a b 4602678819172646912
    · rw [if_neg Bool.false_ne_true, if_neg Bool.false_ne_true]; exact c1
    · obtain ⟨x1, _⟩ := hull_ends g2 m1_fit
      have v : val (oneR m1).lo = -SS := m1_val
      rw [if_pos rfl, if_pos rfl, x1, v]
      unfold cos2
      rw [c1]; omega
  · unfold cosU
    cases h : hasB a b 4602678819172646912
    · rw [if_neg Bool.false_ne_true]; exact c2
    · obtain ⟨_, x2⟩ := hull_ends g2 m1_fit
      have v : val (oneR m1).hi = -SS := m1_val
      rw [if_pos rfl, x2, v]
      unfold cos2
      rw [c2]; omega
end Go.Proofs.Ytoiaefgpegiieaa

namespace Go.Proofs.Ytoiaefgpegiieaa
open Go.RowKit

theorem word_off {r : Nat} (h : val r ≠ 0) (hr : rung r < 9218868437227405312) : rightB r = true := by
  have hn : r ≠ 9223372036854775808 := by
    intro e
    subst e
    exact h (by decide +kernel)
  unfold rightB
  unfold rung at hr
  rw [decide_eq_true hr, decide_eq_false hn]; rfl
theorem sub_mid {a b x0 y0 : Nat} (ha : a < 18446744073709551616) (hb : b < 18446744073709551616) (ra : rightB a = true) (rb : rightB b = true) (pb : 0 ≤ val b) (lx : x0 < 18446744073709551616) (rx : rightB x0 = true) (ly : y0 < 18446744073709551616) (ry : rightB y0 = true) (hx : val x0 ≤ val a - val b) (hy : val a - val b ≤ val y0) :
    ∃ r, floatBits .sub .f64 a b = some r ∧ r < 18446744073709551616 ∧ rightB r = true ∧ val x0 ≤ val r ∧ val r ≤ val y0 := by
  have sb := plain_sgn hb rb pb
  obtain ⟨r, h1, h2⟩ := sub_beside a b ha hb ra rb
  obtain ⟨n1, n2, n3, n4⟩ := near_between (x0 := x0) (y0 := y0) (by decide) (sub_down a b ra rb) (sub_up a b ra rb) h2 lx rx (by omega) ly ry (by omega)
  by_cases g : 0 ≤ val a - val b
  · have sa := plain_sgn ha ra (by omega)
    have h3 : ((Ieee.double.read a).sum (Ieee.double.read b).opposite).map Ieee.double.write = some r := h1
    rw [read_num a ha (right_rung a ra), read_num b hb (right_rung b rb)] at h3
    exact ⟨r, h1, n1, word_right (sum_plain (sgnB a) (!sgnB b) a b (expo_in a ra).1 (expo_in b rb).1 (by rw [sa]; rfl) (by rw [neg_sg, ← val_sg, ← val_sg]; omega) r h3) n2, n3, n4⟩
  · have e1 : val 9223372036854775809 = -1 := by decide +kernel
    obtain ⟨_, _, _, k4⟩ := near_between (x0 := x0) (y0 := 9223372036854775809) (by decide) (sub_down a b ra rb) (sub_up a b ra rb) h2 lx rx (by omega) (by decide) (by decide) (by rw [e1]; omega)
    exact ⟨r, h1, n1, word_off (by rw [e1] at k4; omega) n2, n3, n4⟩
theorem add_mid {a b x0 y0 : Nat} (ha : a < 18446744073709551616) (hb : b < 18446744073709551616) (ra : rightB a = true) (rb : rightB b = true) (pb : 0 ≤ val b) (lx : x0 < 18446744073709551616) (rx : rightB x0 = true) (ly : y0 < 18446744073709551616) (ry : rightB y0 = true) (hx : val x0 ≤ val a + val b) (hy : val a + val b ≤ val y0) :
    ∃ r, floatBits .add .f64 a b = some r ∧ r < 18446744073709551616 ∧ rightB r = true ∧ val x0 ≤ val r ∧ val r ≤ val y0 := by
  have sb := plain_sgn hb rb pb
  obtain ⟨r, h1, h2⟩ := add_beside a b ha hb ra rb
  obtain ⟨n1, n2, n3, n4⟩ := near_between (x0 := x0) (y0 := y0) (by decide) (add_down a b ra rb) (add_up a b ra rb) h2 lx rx (by omega) ly ry (by omega)
  by_cases g : 0 ≤ val a + val b
  · have h3 : ((Ieee.double.read a).sum (Ieee.double.read b)).map Ieee.double.write = some r := h1
    rw [read_num a ha (right_rung a ra), read_num b hb (right_rung b rb)] at h3
    exact ⟨r, h1, n1, word_right (sum_plain _ _ a b (expo_in a ra).1 (expo_in b rb).1 (by rw [sb, Bool.and_false]) (by rw [← val_sg, ← val_sg]; omega) r h3) n2, n3, n4⟩
  · have e1 : val 9223372036854775809 = -1 := by decide +kernel
    obtain ⟨_, _, _, k4⟩ := near_between (x0 := x0) (y0 := 9223372036854775809) (by decide) (add_down a b ra rb) (add_up a b ra rb) h2 lx rx (by omega) (by decide) (by decide) (by rw [e1]; omega)
    exact ⟨r, h1, n1, word_off (by rw [e1] at k4; omega) n2, n3, n4⟩

/-- Numbers of so many digits have words. -/
theorem steps_mk (K M : Nat) (h1 : 4503599627370496 ≤ M) (h2 : M < 9007199254740992) : steps (K * 4503599627370496 + M) = M * 2 ^ K := by
  unfold steps
  have e1 : (K * 4503599627370496 + M) / 4503599627370496 = K + 1 := by omega
  have e2 : (K * 4503599627370496 + M) % 4503599627370496 = M - 4503599627370496 := by omega
  rw [e1, e2, if_neg (by omega), show 4503599627370496 + (M - 4503599627370496) = M by omega]; rfl
theorem steps_rep : ∀ K M : Nat, M < 9007199254740992 → ∃ r, steps r = M * 2 ^ K
  | 0, M, h => by
    by_cases g : M < 4503599627370496
    · refine ⟨M, ?_⟩
      unfold steps
      rw [if_pos (by omega)]; show M = M * 1; omega
    · exact ⟨_, steps_mk 0 M (by omega) h⟩
  | K + 1, M, h => by
    by_cases g : M < 4503599627370496
    · obtain ⟨r, hr⟩ := steps_rep K (2 * M) (by omega)
      refine ⟨r, ?_⟩
      rw [hr, Nat.pow_succ, Nat.mul_comm (2 ^ K) 2, ← Nat.mul_assoc, Nat.mul_comm M 2]
    · exact ⟨_, steps_mk (K + 1) M (by omega) h⟩
def kH : Nat := 1021
theorem ss_kH : SS = 9007199254740992 * ((2 ^ kH : Nat) : Int) := by decide +kernel
theorem one_next : SS < ((steps 4607182418800017409 : Nat) : Int) := by decide +kernel
theorem word_of {M : Nat} (h : M < 9007199254740992) : ∃ z, z < 18446744073709551616 ∧ rightB z = true ∧ val z = (M : Int) * ((2 ^ kH : Nat) : Int) := by
  obtain ⟨r, hr⟩ := steps_rep kH M h
  have hp : (0 : Int) < ((2 ^ kH : Nat) : Int) := Int.natCast_pos.2 (Nat.two_pow_pos _)
  have e := ss_kH
  have n := one_next
  have hr' : ((steps r : Nat) : Int) = (M : Int) * ((2 ^ kH : Nat) : Int) := by rw [hr, Int.natCast_mul]
  have hl : (M : Int) * ((2 ^ kH : Nat) : Int) ≤ 9007199254740992 * ((2 ^ kH : Nat) : Int) := Int.mul_le_mul_of_nonneg_right (by omega) (Int.le_of_lt hp)
  have lt : r < 9218868437227405312 := by
    rcases Nat.lt_or_ge r 4607182418800017409 with g | g
    · omega
    · have := steps_le g
      omega
  obtain ⟨p1, p2, _, _, p5⟩ := pos_facts r lt
  exact ⟨r, p1, p2, by rw [p5]; exact hr'⟩
theorem half_word2 : 2 * val 4602678819172646912 = SS := by decide +kernel
/-- A word from a half to 1. -/
theorem upper_word {d : Nat} (t : Turn d) (h : SS ≤ 2 * val d) : ∃ M : Nat, 4503599627370496 ≤ M ∧ M ≤ 9007199254740992 ∧ val d = (M : Int) * ((2 ^ kH : Nat) : Int) := by
  have s0 := SS0
  have e := ss_kH
  have sx : sgnB d = false := plain_sgn t.lt t.right t.lo
  have rx : rung d = d := by
    have := of_decide_eq_false sx
    unfold rung; omega
  have vx : val d = (steps d : Int) := by rw [val_pos sx, rx]
  have hi := t.hi
  rw [u1_val] at hi
  have n := one_next
  have hd : d < 4607182418800017409 := by
    rcases Nat.lt_or_ge d 4607182418800017409 with g | g
    · exact g
    · have := steps_le g; omega
  have lo : 4602678819172646912 ≤ d := by
    rcases Nat.lt_or_ge d 4602678819172646912 with g | g
    · have := steps_lt g
      have k := half_word2
      have k' : val 4602678819172646912 = ((steps 4602678819172646912 : Nat) : Int) := by decide +kernel
      omega
    · exact g
  rcases Nat.lt_or_ge d 4607182418800017408 with g | g
  · refine ⟨4503599627370496 + (d - 4602678819172646912), by omega, by omega, ?_⟩
    have k := steps_mk kH (4503599627370496 + (d - 4602678819172646912)) (by omega) (by omega)
    have ed : kH * 4503599627370496 + (4503599627370496 + (d - 4602678819172646912)) = d := by unfold kH; omega
    rw [ed] at k
    rw [vx, k, Int.natCast_mul]
  · have : d = 4607182418800017408 := by omega
    subst this
    exact ⟨9007199254740992, by decide, by decide, by rw [show val 4607182418800017408 = SS from u1_val, e]; rfl⟩
/-- What such a word is above a half, and below 1, are words. -/
theorem exact_half {d : Nat} (t : Turn d) (h : SS ≤ 2 * val d) : ∃ r, floatBits .sub .f64 d 4602678819172646912 = some r ∧ r < 18446744073709551616 ∧ rightB r = true ∧ val r = val d - val 4602678819172646912 := by
  obtain ⟨M, m1, m2, e⟩ := upper_word t h
  obtain ⟨z, z1, z2, z3⟩ := word_of (M := M - 4503599627370496) (by omega)
  have k := half_word2
  have s := ss_kH
  have ez : val z = val d - val 4602678819172646912 := by
    rw [z3, e, Int.natCast_sub m1, Int.sub_mul]
    generalize ((2 ^ kH : Nat) : Int) = P at *
    omega
  obtain ⟨r, r1, r2, r3, r4, r5⟩ := sub_mid (a := d) (b := 4602678819172646912) (x0 := z) (y0 := z) t.lt (by decide) t.right (by decide) (by decide +kernel) z1 z2 z1 z2 (by omega) (by omega)
  exact ⟨r, r1, r2, r3, by omega⟩
theorem exact_rest {d : Nat} (t : Turn d) (h : SS ≤ 2 * val d) : ∃ r, floatBits .sub .f64 4607182418800017408 d = some r ∧ r < 18446744073709551616 ∧ rightB r = true ∧ val r = SS - val d := by
  obtain ⟨M, m1, m2, e⟩ := upper_word t h
  obtain ⟨z, z1, z2, z3⟩ := word_of (M := 9007199254740992 - M) (by omega)
  have s := ss_kH
  have v : val 4607182418800017408 = SS := u1_val
  have ez : val z = SS - val d := by
    rw [z3, e, s, Int.natCast_sub m2, Int.sub_mul]; rfl
  obtain ⟨r, r1, r2, r3, r4, r5⟩ := sub_mid (a := 4607182418800017408) (b := d) (x0 := z) (y0 := z) (by decide) t.lt (by decide) t.right t.lo z1 z2 z1 z2 (by rw [v]; omega) (by rw [v]; omega)
  exact ⟨r, r1, r2, r3, by omega⟩

theorem narrow_facts : val 4395513236313604096 = 2 * val 4391009636686233600 ∧ val 4391009636686233600 * 281474976710656 = SS ∧ 0 ≤ val 4395513236313604096 ∧ val 4395513236313604096 ≤ SS := by decide +kernel
theorem Ls.near {r s : Res} {a b : Rat} (h : HasQ r a) (k : HasQ s b) (l : Ls (1 / 4) a b) : val r.lo ≤ val s.hi + val 4391009636686233600 := by
  have S := ssQ
  have t := l.tol
  have hl := h.low
  have kh := k.high
  have e := narrow_facts.2.1
  have P0 := Rat.le_of_lt S
  have z := Rat.mul_le_mul_of_nonneg_right t P0
  have e' := congrArg (fun z : Int => (z : Rat)) e
  rw [Rat.intCast_mul, show ((281474976710656 : Int) : Rat) = 281474976710656 from rfl] at e'
  have ep : hEp * 281474976710656 ≤ 1 := by decide +kernel
  have zp := Rat.mul_le_mul_of_nonneg_right ep P0
  refine Rat.intCast_le_intCast.1 ?_
  rw [Rat.intCast_add]
  generalize ((val r.lo : Int) : Rat) = L at *
  generalize ((val s.hi : Int) : Rat) = H at *
  generalize ((val 4391009636686233600 : Int) : Rat) = N at *
  generalize ((SS : Int) : Rat) = P at *
  grind
theorem share {r s : Res} {a : Rat} (h : HasQ r a) (k : HasQ s a) : val r.lo ≤ val s.hi ∧ val s.lo ≤ val r.hi :=
  ⟨Rat.intCast_le_intCast.1 (Rat.le_trans h.low k.high), Rat.intCast_le_intCast.1 (Rat.le_trans k.low h.high)⟩
/-- What is told of a part. -/
structure PartIn (a b x : Nat) : Prop where
  m : val (sinU a b).lo ≤ val (sinU x x).hi ∧ val (sinU x x).lo ≤ val (sinU a b).hi
  n : val (cosU a b).lo ≤ val (cosU x x).hi ∧ val (cosU x x).lo ≤ val (cosU a b).hi
  sl : val (sinU a b).lo - val 4395513236313604096 ≤ val (sinU a x).lo
  sh : val (sinU a x).hi ≤ val (sinU a b).hi + val 4395513236313604096
  ol : val (cosU a b).lo - val 4395513236313604096 ≤ val (cosU a x).lo
  oh : val (cosU a x).hi ≤ val (cosU a b).hi + val 4395513236313604096
theorem part_turn {a b x : Nat} (ta : Turn a) (tb : Turn b) (tx : Turn x) (h1 : val a ≤ val x) (h2 : val x ≤ val b) : PartIn a b x := by
  have E := ends_of ta tb
  have D := ends_of ta tx
  obtain ⟨hs, hc⟩ := sv_has tx
  obtain ⟨ps, pc⟩ := sinU_has tx tx hs hc
  obtain ⟨n1, n2⟩ := turn_narrow tx
  obtain ⟨wx, wo⟩ := sinU_wide tx tx
  obtain ⟨w1, w2⟩ := sinU_wide ta tx
  obtain ⟨v1, v2⟩ := sinU_wide ta tb
  obtain ⟨_, _, fx, _, gx⟩ := sin_fits' tx tx
  have q1 := narrow_facts.1
  have q2 := narrow_facts.2.2.1
  have lo1 : -SS ≤ val (sinU a x).lo := by have := w1.lo; rw [show val wideR.lo = -SS from m1_val] at this; exact this
  have hi1 : val (sinU a x).hi ≤ SS := by have := w1.hi; rw [show val wideR.hi = SS from u1_val] at this; exact this
  have lo2 : -SS ≤ val (cosU a x).lo := by have := w2.lo; rw [show val wideR.lo = -SS from m1_val] at this; exact this
  have hi2 : val (cosU a x).hi ≤ SS := by have := w2.hi; rw [show val wideR.hi = SS from u1_val] at this; exact this
  have xl : -SS ≤ val (sinU x x).lo ∧ val (sinU x x).hi ≤ SS := ⟨by have := wx.lo; rw [show val wideR.lo = -SS from m1_val] at this; exact this, by have := wx.hi; rw [show val wideR.hi = SS from u1_val] at this; exact this⟩
  have xo : -SS ≤ val (cosU x x).lo ∧ val (cosU x x).hi ≤ SS := ⟨by have := wo.lo; rw [show val wideR.lo = -SS from m1_val] at this; exact this, by have := wo.hi; rw [show val wideR.hi = SS from u1_val] at this; exact this⟩
  have xe := fx.le
  have xe' := gx.le
  have sub : ∀ q, q < 18446744073709551616 → rightB q = true → hasB a x q = true → hasB a b q = true := fun q lq rq h => by
    obtain ⟨g1, g2⟩ := (has_iff ta tx h1 lq rq).1 h
    cases k : hasB a b q
    · rcases (has_iff ta tb (by omega) lq rq).2 k with g | g <;> (exfalso; omega)
    · rfl
  have SL : ∀ e, (e = a ∨ e = b) → hasB a b 4604930618986332160 = false → val (sinU a b).lo ≤ val (sinR e).lo := fun e he hf => by
    rw [E.slo, hf, if_neg Bool.false_ne_true]; rcases he with rfl | rfl <;> omega
  have SH : ∀ e, (e = a ∨ e = b) → hasB a b 4598175219545276416 = false → val (sinR e).hi ≤ val (sinU a b).hi := fun e he hf => by
    rw [E.shi, hf, if_neg Bool.false_ne_true]; rcases he with rfl | rfl <;> omega
  have OL : ∀ e, (e = a ∨ e = b) → hasB a b 4602678819172646912 = false → val (cosU a b).lo ≤ val (cosR e).lo := fun e he hf => by
    rw [E.olo, hf, if_neg Bool.false_ne_true]; rcases he with rfl | rfl <;> omega
  have OH : ∀ e, (e = a ∨ e = b) → val (cosR e).hi ≤ val (cosU a b).hi := fun e he => by
    rw [E.ohi]; rcases he with rfl | rfl <;> omega
  have te : ∀ e, (e = a ∨ e = b) → Turn e := fun e he => he.elim (fun h => h ▸ ta) (fun h => h ▸ tb)
  have A : val (sinU a b).lo ≤ val (sinU x x).hi ∧ val (sinU a b).lo - val 4395513236313604096 ≤ val (sinU a x).lo := by
    cases hf : hasB a b 4604930618986332160
    · rcases sin_low ta tb tx h1 h2 with g | ⟨e, he, g⟩
      · rw [hf] at g; exact absurd g (by decide)
      · have k := SL e he hf
        have ka := SL a (Or.inl rfl) hf
        have m := g.meet (sinR_facts (te e he)).1 fx (sv_has (te e he)).1 ps
        have n := g.near (sv_has (te e he)).1 hs
        refine ⟨by omega, ?_⟩
        have hx : hasB a x 4604930618986332160 = false := by
          cases z : hasB a x 4604930618986332160
          · rfl
          · have := sub _ (by decide) (by decide) z; rw [hf] at this; exact absurd this (by decide)
        rw [D.slo, hx, if_neg Bool.false_ne_true]
        omega
    · have z := E.slo
      rw [hf, if_pos rfl] at z
      exact ⟨by omega, by omega⟩
  have B : val (sinU x x).lo ≤ val (sinU a b).hi ∧ val (sinU a x).hi ≤ val (sinU a b).hi + val 4395513236313604096 := by
    cases hf : hasB a b 4598175219545276416
    · rcases sin_high ta tb tx h1 h2 with g | ⟨e, he, g⟩
      · rw [hf] at g; exact absurd g (by decide)
      · have k := SH e he hf
        have ka := SH a (Or.inl rfl) hf
        have m := g.meet fx (sinR_facts (te e he)).1 ps (sv_has (te e he)).1
        have n := g.near hs (sv_has (te e he)).1
        refine ⟨by omega, ?_⟩
        have hx : hasB a x 4598175219545276416 = false := by
          cases z : hasB a x 4598175219545276416
          · rfl
          · have := sub _ (by decide) (by decide) z; rw [hf] at this; exact absurd this (by decide)
        rw [D.shi, hx, if_neg Bool.false_ne_true]
        omega
    · have z := E.shi
      rw [hf, if_pos rfl] at z
      exact ⟨by omega, by omega⟩
  have C : val (cosU a b).lo ≤ val (cosU x x).hi ∧ val (cosU a b).lo - val 4395513236313604096 ≤ val (cosU a x).lo := by
    cases hf : hasB a b 4602678819172646912
    · rcases cos_low ta tb tx h1 h2 with g | ⟨e, he, g⟩
      · rw [hf] at g; exact absurd g (by decide)
      · have k := OL e he hf
        have ka := OL a (Or.inl rfl) hf
        have m := g.meet (cosR_facts (te e he)).1 gx (sv_has (te e he)).2 pc
        have n := g.near (sv_has (te e he)).2 hc
        refine ⟨by omega, ?_⟩
        have hx : hasB a x 4602678819172646912 = false := by
          cases z : hasB a x 4602678819172646912
          · rfl
          · have := sub _ (by decide) (by decide) z; rw [hf] at this; exact absurd this (by decide)
        rw [D.olo, hx, if_neg Bool.false_ne_true]
        omega
    · have z := E.olo
      rw [hf, if_pos rfl] at z
      exact ⟨by omega, by omega⟩
  have F : val (cosU x x).lo ≤ val (cosU a b).hi ∧ val (cosU a x).hi ≤ val (cosU a b).hi + val 4395513236313604096 := by
    obtain ⟨e, he, g⟩ := cos_high ta tb tx h1 h2
    have k := OH e he
    have ka := OH a (Or.inl rfl)
    have m := g.meet gx (cosR_facts (te e he)).1 pc (sv_has (te e he)).2
    have n := g.near hc (sv_has (te e he)).2
    refine ⟨by omega, ?_⟩
    rw [D.ohi]
    omega
  exact ⟨⟨A.1, B.1⟩, ⟨C.1, F.1⟩, A.2, B.2, C.2, F.2⟩
theorem rat_cancel {a b P : Rat} (h : a * P = b * P) (hp : 0 < P) : a = b :=
  Rat.le_antisymm (Rat.le_of_mul_le_mul_right (by rw [h]; exact Rat.le_refl) hp) (Rat.le_of_mul_le_mul_right (by rw [h]; exact Rat.le_refl) hp)
/-- By the half of a turn. -/
theorem half_sv {x y : Nat} (tx : Turn x) (ty : Turn y) (e : 2 * val y = 2 * val x + SS) : sv y = -sv x ∧ cv y = -cv x := by
  have p := phase tx
  have p' := phase ty
  have s0 := SS0
  have S := ssQ
  have k1 : 2 * ((qN y : Nat) : Int) - 1 < 2 * ((qN x : Nat) : Int) + 5 := by
    refine Int.lt_of_mul_lt_mul_right (a := SS) ?_ (Int.le_of_lt s0)
    have a := p'.a
    have b := p.b
    rw [show 2 * ((qN x : Nat) : Int) + 5 = (2 * ((qN x : Nat) : Int) + 1) + 4 by omega, Int.add_mul]
    omega
  have k2 : 2 * ((qN x : Nat) : Int) - 1 + 4 < 2 * ((qN y : Nat) : Int) + 1 := by
    refine Int.lt_of_mul_lt_mul_right (a := SS) ?_ (Int.le_of_lt s0)
    have a := p.a
    have b := p'.b
    rw [Int.add_mul]
    omega
  have ej : qN y = qN x + 2 := by omega
  have eX : hX y = hX x + 1 / 2 := by
    have c := congrArg (fun z : Int => (z : Rat)) e
    rw [Rat.intCast_mul, Rat.intCast_add, Rat.intCast_mul, show ((2 : Int) : Rat) = 2 from rfl, ← hX_is, ← hX_is] at c
    exact rat_cancel (P := ((SS : Int) : Rat)) (by grind) S
  have et : hT y (qN y) = hT x (qN x) := by
    rw [ej]
    unfold hT
    rw [eX, Int.natCast_add, Rat.intCast_add, show (((2 : Nat) : Int) : Rat) = 2 from rfl]
    grind
  have le := p'.le
  unfold sv cv
  rw [et, ej]
  generalize hT x (qN x) = t
  generalize qN x = j at *
  rcases (by omega : j = 0 ∨ j = 1 ∨ j = 2) with rfl | rfl | rfl
  · exact ⟨rfl, rfl⟩
  · exact ⟨rfl, by show hS t = - -hS t; grind⟩
  · exact ⟨by show hS t = - -hS t; grind, by show hC t = - -hC t; grind⟩
/-- About the half of a turn. -/
theorem rest_sv {x y : Nat} (tx : Turn x) (ty : Turn y) (e : val y = SS - val x) (n1 : 8 * val x ≠ SS) (n3 : 8 * val x ≠ 3 * SS) (n5 : 8 * val x ≠ 5 * SS) (n7 : 8 * val x ≠ 7 * SS) : sv y = -sv x ∧ cv y = cv x := by
  have p := phase tx
  have p' := phase ty
  have s0 := SS0
  have S := ssQ
  have l0 := tx.lo
  have strict : (2 * ((qN x : Nat) : Int) - 1) * SS < 8 * val x := by
    have a := p.a
    have le := p.le
    generalize qN x = j at *
    rcases (by omega : j = 0 ∨ j = 1 ∨ j = 2 ∨ j = 3 ∨ j = 4) with rfl | rfl | rfl | rfl | rfl <;> omega
  have k1 : 2 * ((qN y : Nat) : Int) - 1 < 8 - (2 * ((qN x : Nat) : Int) - 1) := by
    refine Int.lt_of_mul_lt_mul_right (a := SS) ?_ (Int.le_of_lt s0)
    have a := p'.a
    rw [Int.sub_mul 8]
    omega
  have k2 : 8 - (2 * ((qN x : Nat) : Int) + 1) < 2 * ((qN y : Nat) : Int) + 1 := by
    refine Int.lt_of_mul_lt_mul_right (a := SS) ?_ (Int.le_of_lt s0)
    have a := p.b
    have b := p'.b
    rw [Int.sub_mul 8]
    omega
  have le := p.le
  have ej : qN y = 4 - qN x := by omega
  have eX : hX y = 1 - hX x := by
    have c := congrArg (fun z : Int => (z : Rat)) e
    rw [Rat.intCast_sub, ← hX_is, ← hX_is] at c
    exact rat_cancel (P := ((SS : Int) : Rat)) (by grind) S
  have et : hT y (qN y) = -hT x (qN x) := by
    rw [ej]
    unfold hT
    rw [eX, Int.natCast_sub le, Rat.intCast_sub, show (((4 : Nat) : Int) : Rat) = 4 from rfl]
    grind
  unfold sv cv
  rw [et, ej, hS_odd, hC_even]
  generalize hT x (qN x) = t
  generalize qN x = j at *
  rcases (by omega : j = 0 ∨ j = 1 ∨ j = 2 ∨ j = 3 ∨ j = 4) with rfl | rfl | rfl | rfl | rfl
  · exact ⟨rfl, rfl⟩
  · exact ⟨rfl, rfl⟩
  · exact ⟨rfl, rfl⟩
  · exact ⟨by show hC t = - -hC t; grind, by show - -hS t = hS t; grind⟩
  · exact ⟨rfl, rfl⟩
end Go.Proofs.Ytoiaefgpegiieaa

namespace Go.Proofs.Ytoiaefgpegiieaa
open Go.RowKit
attribute [local go_sem] run_store_float

set_option maxRecDepth 100000 in
set_option maxHeartbeats 16000000 in
theorem meetP_walk {al ah bl bh ml mh : Nat} (w : World)
    (c1 : Hid (∀ w, Calls Try.prog 57 #[.agg #[.float .f64 al, .float .f64 ah], .agg #[.float .f64 bl, .float .f64 bh]] w fun r w' => r = .returned (.tuple #[.agg #[.float .f64 ml, .float .f64 mh], .bool true]) ∧ Below w.heap.size w w')) :
    Calls Try.prog 15 #[.agg #[.float .f64 al, .float .f64 ah], .agg #[.float .f64 bl, .float .f64 bh]] w fun r w' => r = .returned (.bool true) ∧ Below w.heap.size w w' := by
  have M := Lib.hid (((Own.nil w).made #[.float .f64 al, .float .f64 ah] 24).made #[.float .f64 bl, .float .f64 bh] 24)
  simp only [World.size_alloc] at M
  have eqF := eq_floats
  go_enter Try.func15, Try.ntmps15
  obtain ⟨k1, k2⟩ := (M.out.nth 1 rfl).two
  obtain ⟨k3, k4⟩ := (M.out.nth 0 rfl).two
  go_wp2_with fail
  refine (c1.out _).mono ?_
  rintro r w1_ ⟨rfl, hb⟩
  replace M := Lib.hid (M.out.below hb)
  clear hb
  clear k1 k2 k3 k4
  replace M := Lib.hid (M.out.made #[.float .f64 ml, .float .f64 mh] 24)
  go_wp2
  go_ret
  exact ⟨rfl, M.out.base⟩
theorem meetP_any {a b : Res} (fa : Fit a) (fb : Fit b) (h : bothB a.lo a.hi b.lo b.hi = true) (w : World) :
    Calls Try.prog 15 #[.agg #[.float .f64 a.lo, .float .f64 a.hi], .agg #[.float .f64 b.lo, .float .f64 b.hi]] w fun r w' => r = .returned (.bool true) ∧ Below w.heap.size w w' := by
  have k := fun w => meet_any a.lo a.hi b.lo b.hi w fa.lo fa.hi fb.lo fb.hi fa.rlo fa.rhi fb.rlo fb.rhi
  rw [h] at k
  exact meetP_walk w (Lib.hid k)
theorem bothP_of {a b : Res} (fa : Fit a) (fb : Fit b) (h : val a.lo ≤ val b.hi ∧ val b.lo ≤ val a.hi) : bothB a.lo a.hi b.lo b.hi = true := by
  obtain ⟨_, _, x3⟩ := max_facts a.lo b.lo fa.lo fb.lo fa.rlo fb.rlo
  obtain ⟨_, _, y3⟩ := min_facts a.hi b.hi fa.hi fb.hi fa.rhi fb.rhi
  have l1 := fa.le
  have l2 := fb.le
  show leB (maxW a.lo b.lo) (minW a.hi b.hi) = true
  unfold leB
  rw [x3, y3]
  exact decide_eq_true (by omega)
theorem fineP_of {a b : Nat} (t : Turn a) (s : Turn b) (h : val a ≤ val b) : fineB a b = true := by
  unfold fineB ivR leB
  rw [t.right, s.right, val_nil, decide_eq_true t.lo, decide_eq_true s.hi, decide_eq_true h]; rfl
theorem tiny_47 (w : World) : Calls Try.prog 16 #[.float .f64 4607182418800017408, .int .i64 (-47)] w fun r w' => r = .returned (.float .f64 4395513236313604096) ∧ w = w' :=
  ldexp_at 4607182418800017408 0 4395513236313604096 4395513236313604096 4395513236313604096 (-47) 1023 (-47) w (by decide +kernel) (by decide +kernel) (by decide +kernel) (by decide +kernel) (by decide +kernel) (by decide) (by omega) (by omega) (by decide +kernel) (by omega) (by omega) (by omega) (by omega) (by omega) (by decide +kernel) (by decide +kernel) (by decide +kernel) (by decide +kernel)
theorem at_eighth2 : (HasQ (sinR (eighth 2)) (-hR) ∧ HasQ (cosR (eighth 2)) (-hR)) ∧ HasQ (sinR (eighth 3)) (-hR) ∧ HasQ (cosR (eighth 3)) hR := ⟨⟨⟨by decide +kernel, by decide +kernel⟩, ⟨by decide +kernel, by decide +kernel⟩⟩, ⟨by decide +kernel, by decide +kernel⟩, ⟨by decide +kernel, by decide +kernel⟩⟩
theorem rest_has {x y : Nat} (tx : Turn x) (ty : Turn y) (e : val y = SS - val x) : ∃ s c : Rat, HasQ (sinR x) s ∧ HasQ (cosR x) c ∧ HasQ (sinR y) (-s) ∧ HasQ (cosR y) c := by
  obtain ⟨a0, a1, a2, a3⟩ := eighth_val
  obtain ⟨k1, k2, _, _⟩ := at_eighth0
  obtain ⟨l1, l2, _, _⟩ := at_eighth1
  obtain ⟨⟨m1', m2'⟩, n1, n2⟩ := at_eighth2
  have nn : - -hR = hR := by grind
  by_cases g0 : 8 * val x = SS
  · have ex : x = eighth 0 := val_inj tx.lt (by decide) tx.right (by decide) (by omega)
    have ey : y = eighth 3 := val_inj ty.lt (by decide) ty.right (by decide) (by omega)
    subst ex; subst ey
    exact ⟨_, _, k1, k2, n1, n2⟩
  by_cases g1 : 8 * val x = 3 * SS
  · have ex : x = eighth 1 := val_inj tx.lt (by decide) tx.right (by decide) (by omega)
    have ey : y = eighth 2 := val_inj ty.lt (by decide) ty.right (by decide) (by omega)
    subst ex; subst ey
    exact ⟨_, _, l1, l2, m1', m2'⟩
  by_cases g2 : 8 * val x = 5 * SS
  · have ex : x = eighth 2 := val_inj tx.lt (by decide) tx.right (by decide) (by omega)
    have ey : y = eighth 1 := val_inj ty.lt (by decide) ty.right (by decide) (by omega)
    subst ex; subst ey
    exact ⟨_, _, m1', m2', l1.turn nn.symm, l2⟩
  by_cases g3 : 8 * val x = 7 * SS
  · have ex : x = eighth 3 := val_inj tx.lt (by decide) tx.right (by decide) (by omega)
    have ey : y = eighth 0 := val_inj ty.lt (by decide) ty.right (by decide) (by omega)
    subst ex; subst ey
    exact ⟨_, _, n1, n2, k1.turn nn.symm, k2⟩
  obtain ⟨v1, v2⟩ := rest_sv tx ty e g0 g1 g2 g3
  obtain ⟨hx1, hx2⟩ := sv_has tx
  obtain ⟨hy1, hy2⟩ := sv_has ty
  exact ⟨_, _, hx1, hx2, hy1.turn v1, hy2.turn v2⟩
theorem half_words {x : Nat} (tx : Turn x) (h : 2 * val x < SS) : ∃ ph pr, floatBits .add .f64 x 4602678819172646912 = some ph ∧ Turn ph ∧ floatBits .sub .f64 ph 4602678819172646912 = some pr ∧ pr < 18446744073709551616 ∧ rightB pr = true ∧ (val pr = val x → 2 * val ph = 2 * val x + SS) := by
  have k := half_word2
  have l := tx.lo
  have v : val 4607182418800017408 = SS := u1_val
  obtain ⟨ph, p1, p2, p3, p4, p5⟩ := add_mid (a := x) (b := 4602678819172646912) (x0 := 4602678819172646912) (y0 := 4607182418800017408) tx.lt (by decide) tx.right (by decide) (by decide +kernel) (by decide) (by decide) (by decide) (by decide) (by omega) (by omega)
  have s0 := SS0
  have tp : Turn ph := ⟨p2, p3, by omega, p5⟩
  obtain ⟨pr, r1, r2, r3, r4⟩ := exact_half tp (by omega)
  exact ⟨ph, pr, p1, tp, r1, r2, r3, fun e => by omega⟩
theorem rest_words {x : Nat} (tx : Turn x) : ∃ pm pd, floatBits .sub .f64 4607182418800017408 x = some pm ∧ Turn pm ∧ floatBits .sub .f64 4607182418800017408 pm = some pd ∧ pd < 18446744073709551616 ∧ rightB pd = true ∧ (val pd = val x → val pm = SS - val x) := by
  have k := half_word2
  have l := tx.lo
  have u := tx.hi
  rw [u1_val] at u
  have v : val 4607182418800017408 = SS := u1_val
  have z : val 0 = 0 := by decide +kernel
  have s0 := SS0
  by_cases g : 2 * val x ≤ SS
  · obtain ⟨pm, p1, p2, p3, p4, p5⟩ := sub_mid (a := 4607182418800017408) (b := x) (x0 := 4602678819172646912) (y0 := 4607182418800017408) (by decide) tx.lt (by decide) tx.right l (by decide) (by decide) (by decide) (by decide) (by omega) (by omega)
    have tp : Turn pm := ⟨p2, p3, by omega, p5⟩
    obtain ⟨pd, r1, r2, r3, r4⟩ := exact_rest tp (by omega)
    exact ⟨pm, pd, p1, tp, r1, r2, r3, fun e => by omega⟩
  · obtain ⟨pm, p1, p2, p3, p4⟩ := exact_rest tx (by omega)
    have tp : Turn pm := ⟨p2, p3, by omega, by rw [u1_val]; omega⟩
    obtain ⟨pd, r1, r2, r3, _, _⟩ := sub_mid (a := 4607182418800017408) (b := pm) (x0 := 0) (y0 := 4607182418800017408) (by decide) p2 (by decide) p3 tp.lo (by decide) (by decide) (by decide) (by decide) (by omega) (by have := tp.lo; omega)
    exact ⟨pm, pd, p1, tp, r1, r2, r3, fun _ => p4⟩
theorem parts_any (al ah n : Nat) (w : World) (la : al < 18446744073709551616) (ha : ah < 18446744073709551616) (hn : n < 65536) :
    Calls Try.prog 3 #[.agg #[.float .f64 al, .float .f64 ah], .int .u16 n] w fun r w' => r = .returned (.bool true) ∧ Below w.heap.size w w' := by
  have cF := fun w => fine_any al ah w la ha
  cases hf : fineB al ah
  · rw [hf] at cF
    exact parts_bad (ul := al) (uh := ah) (u0 := n) w (c1 := Lib.hid cF) (c2 := Lib.hid awake4_any)
  · rw [hf] at cF
    obtain ⟨t1, t2, hr, hle⟩ := fine_turn la ha hf
    have cB := fun w => between_any al ah n w la ha hn
    obtain ⟨lx, rx, h1, h2⟩ := btw_in al ah n la ha hr
    generalize btwW al ah n = x at *
    have tx : Turn x := ⟨lx, rx, Int.le_trans t1.lo h1, Int.le_trans h2 t2.hi⟩
    have fx := fineP_of tx tx (Int.le_refl _)
    have fv := fineP_of t1 tx h1
    have P := part_turn t1 t2 tx h1 h2
    obtain ⟨_, _, gs, _, go⟩ := sin_fits' t1 t2
    obtain ⟨_, _, gp, _, gq⟩ := sin_fits' tx tx
    obtain ⟨_, _, gv, _, gt⟩ := sin_fits' t1 tx
    obtain ⟨ws, wo⟩ := sinU_wide t1 t2
    obtain ⟨qT, _, q0, q1⟩ := narrow_facts
    have vm : val 13835058055282163712 = -(2 * SS) ∧ val 4611686018427387904 = 2 * SS := by decide +kernel
    obtain ⟨vm1, vm2⟩ := vm
    have es : ∀ {r : Res}, In r wideR → -SS ≤ val r.lo ∧ val r.hi ≤ SS := fun {r} i => by
      have a := i.lo
      have b := i.hi
      rw [show val wideR.lo = -SS from m1_val] at a
      rw [show val wideR.hi = SS from u1_val] at b
      exact ⟨a, b⟩
    obtain ⟨s1, s2⟩ := es ws
    obtain ⟨o1, o2⟩ := es wo
    have s3 := gs.le
    have o3 := go.le
    have s0 := SS0
    obtain ⟨el, a1, a2, a3, _, a5⟩ := sub_mid (a := (sinU al ah).lo) (b := 4395513236313604096) (x0 := 13835058055282163712) (y0 := (sinU al x).lo) gs.lo (by decide) gs.rlo (by decide) q0 (by decide) (by decide) gv.lo gv.rlo (by omega) P.sl
    obtain ⟨eh, b1, b2, b3, b4, _⟩ := add_mid (a := (sinU al ah).hi) (b := 4395513236313604096) (x0 := (sinU al x).hi) (y0 := 4611686018427387904) gs.hi (by decide) gs.rhi (by decide) q0 gv.hi gv.rhi (by decide) (by decide) P.sh (by omega)
    obtain ⟨fl, c1', c2', c3', _, c5'⟩ := sub_mid (a := (cosU al ah).lo) (b := 4395513236313604096) (x0 := 13835058055282163712) (y0 := (cosU al x).lo) go.lo (by decide) go.rlo (by decide) q0 (by decide) (by decide) gt.lo gt.rlo (by omega) P.ol
    obtain ⟨fh, d1, d2, d3, d4, _⟩ := add_mid (a := (cosU al ah).hi) (b := 4395513236313604096) (x0 := (cosU al x).hi) (y0 := 4611686018427387904) go.hi (by decide) go.rhi (by decide) q0 gt.hi gt.rhi (by decide) (by decide) P.oh (by omega)
    obtain ⟨pm, pd, m1', tm, m3, m4, m5, m6⟩ := rest_words tx
    have hR1 := order_eq pd x m4 lx m5 rx
    have hH := order_lt x 4602678819172646912 lx (by decide) rx (by decide)
    have kh := half_word2
    obtain ⟨hs, hc⟩ := sv_has tx
    obtain ⟨ps, pc⟩ := sinU_has tx tx hs hc
    by_cases g : val x < val 4602678819172646912
    · rw [decide_eq_true g] at hH
      obtain ⟨ph, pr, w1, tp, w3, w4, w5, w6⟩ := half_words tx (by omega)
      have hE1 := order_eq pr x w4 lx w5 rx
      cases hE : (FloatKind.f64.format.order pr x == some Ordering.eq)
      · skip
        cases hD : (FloatKind.f64.format.order pd x == some Ordering.eq)
        · exact parts_ef (ul := al) (uh := ah) (u0 := n) w (c1 := Lib.hid cF) (c2 := Lib.hid cB) (c3 := Lib.hid fun w => sin_any al ah w la ha hf) (c4 := Lib.hid fun w => iv4_any _ _ w) (c5 := Lib.hid fun w => sin_any x x w lx lx fx) (c6 := Lib.hid fun w => iv4_any _ _ w) (c7 := Lib.hid fun w => sin_any al x w la lx fv) (c8 := Lib.hid (meetP_any gs gp (bothP_of gs gp P.m))) (c9 := Lib.hid (meetP_any go gq (bothP_of go gq P.n))) (c10 := Lib.hid tiny_47) (q_el := fun w => run_float_arith (P := Try.prog) (w := w) .sub _ .f64 _ _ _ a1) (o_lssvl_el := (order_lt _ _ gv.lo a2 gv.rlo a3).trans (decide_eq_false (by omega))) (q_eh := fun w => run_float_arith (P := Try.prog) (w := w) .add _ .f64 _ _ _ b1) (o_gtrvh_eh := (order_gt _ _ gv.hi b2 gv.rhi b3).trans (decide_eq_false (by omega))) (q_fl := fun w => run_float_arith (P := Try.prog) (w := w) .sub _ .f64 _ _ _ c1') (o_lsstl_fl := (order_lt _ _ gt.lo c2' gt.rlo c3').trans (decide_eq_false (by omega))) (q_fh := fun w => run_float_arith (P := Try.prog) (w := w) .add _ .f64 _ _ _ d1) (o_gtrth_fh := (order_gt _ _ gt.hi d2 gt.rhi d3).trans (decide_eq_false (by omega))) (o_lsspx_819172646912 := hH) (q_ph2 := fun w => run_float_arith (P := Try.prog) (w := w) .add _ .f64 _ _ _ w1) (q_pr := fun w => run_float_arith (P := Try.prog) (w := w) .sub _ .f64 _ _ _ w3) (o_eqlpr_px := hE) (q_pm := fun w => run_float_arith (P := Try.prog) (w := w) .sub _ .f64 _ _ _ m1') (q_pd := fun w => run_float_arith (P := Try.prog) (w := w) .sub _ .f64 _ _ _ m3) (o_eqlpd_px := hD) (c15 := Lib.hid awake4_any)
        · have ed : val pd = val x := by rw [hD] at hR1; exact of_decide_eq_true hR1.symm
          obtain ⟨rv, ru, rx1, rx2, ry1, ry2⟩ := rest_has tx tm (m6 ed)
          obtain ⟨rs, rc⟩ := sinU_has tx tx rx1 rx2
          obtain ⟨hy1, hy2⟩ := sinU_has tm tm ry1 ry2
          obtain ⟨_, _, gy, _, gz⟩ := sin_fits' tm tm
          exact parts_et (ul := al) (uh := ah) (u0 := n) w (c1 := Lib.hid cF) (c2 := Lib.hid cB) (c3 := Lib.hid fun w => sin_any al ah w la ha hf) (c4 := Lib.hid fun w => iv4_any _ _ w) (c5 := Lib.hid fun w => sin_any x x w lx lx fx) (c6 := Lib.hid fun w => iv4_any _ _ w) (c7 := Lib.hid fun w => sin_any al x w la lx fv) (c8 := Lib.hid (meetP_any gs gp (bothP_of gs gp P.m))) (c9 := Lib.hid (meetP_any go gq (bothP_of go gq P.n))) (c10 := Lib.hid tiny_47) (q_el := fun w => run_float_arith (P := Try.prog) (w := w) .sub _ .f64 _ _ _ a1) (o_lssvl_el := (order_lt _ _ gv.lo a2 gv.rlo a3).trans (decide_eq_false (by omega))) (q_eh := fun w => run_float_arith (P := Try.prog) (w := w) .add _ .f64 _ _ _ b1) (o_gtrvh_eh := (order_gt _ _ gv.hi b2 gv.rhi b3).trans (decide_eq_false (by omega))) (q_fl := fun w => run_float_arith (P := Try.prog) (w := w) .sub _ .f64 _ _ _ c1') (o_lsstl_fl := (order_lt _ _ gt.lo c2' gt.rlo c3').trans (decide_eq_false (by omega))) (q_fh := fun w => run_float_arith (P := Try.prog) (w := w) .add _ .f64 _ _ _ d1) (o_gtrth_fh := (order_gt _ _ gt.hi d2 gt.rhi d3).trans (decide_eq_false (by omega))) (o_lsspx_819172646912 := hH) (q_ph2 := fun w => run_float_arith (P := Try.prog) (w := w) .add _ .f64 _ _ _ w1) (q_pr := fun w => run_float_arith (P := Try.prog) (w := w) .sub _ .f64 _ _ _ w3) (o_eqlpr_px := hE) (q_pm := fun w => run_float_arith (P := Try.prog) (w := w) .sub _ .f64 _ _ _ m1') (q_pd := fun w => run_float_arith (P := Try.prog) (w := w) .sub _ .f64 _ _ _ m3) (o_eqlpd_px := hD) (c14 := Lib.hid fun w => iv4_any _ _ w) (c15 := Lib.hid fun w => sin_any pm pm w tm.lt tm.lt (fineP_of tm tm (Int.le_refl _))) (d16 := Lib.hid fun pb => calc_neg gp pb) (c17 := Lib.hid (meetP_any gy (neg_fit gp) (bothP_of gy (neg_fit gp) (share hy1 (rs.neg gp))))) (c18 := Lib.hid (meetP_any gz gq (bothP_of gz gq (share hy2 rc)))) (c20 := Lib.hid awake4_any)
      · have ee : val pr = val x := by rw [hE] at hE1; exact of_decide_eq_true hE1.symm
        obtain ⟨hv1, hv2⟩ := half_sv tx tp (w6 ee)
        obtain ⟨hp1, hp2⟩ := sv_has tp
        obtain ⟨ha1', ha2'⟩ := sinU_has tp tp hp1 hp2
        have ha1 := ha1'.turn hv1
        have ha2 := ha2'.turn hv2
        obtain ⟨_, _, ga, _, gb⟩ := sin_fits' tp tp
        cases hD : (FloatKind.f64.format.order pd x == some Ordering.eq)
        · exact parts_tf (ul := al) (uh := ah) (u0 := n) w (c1 := Lib.hid cF) (c2 := Lib.hid cB) (c3 := Lib.hid fun w => sin_any al ah w la ha hf) (c4 := Lib.hid fun w => iv4_any _ _ w) (c5 := Lib.hid fun w => sin_any x x w lx lx fx) (c6 := Lib.hid fun w => iv4_any _ _ w) (c7 := Lib.hid fun w => sin_any al x w la lx fv) (c8 := Lib.hid (meetP_any gs gp (bothP_of gs gp P.m))) (c9 := Lib.hid (meetP_any go gq (bothP_of go gq P.n))) (c10 := Lib.hid tiny_47) (q_el := fun w => run_float_arith (P := Try.prog) (w := w) .sub _ .f64 _ _ _ a1) (o_lssvl_el := (order_lt _ _ gv.lo a2 gv.rlo a3).trans (decide_eq_false (by omega))) (q_eh := fun w => run_float_arith (P := Try.prog) (w := w) .add _ .f64 _ _ _ b1) (o_gtrvh_eh := (order_gt _ _ gv.hi b2 gv.rhi b3).trans (decide_eq_false (by omega))) (q_fl := fun w => run_float_arith (P := Try.prog) (w := w) .sub _ .f64 _ _ _ c1') (o_lsstl_fl := (order_lt _ _ gt.lo c2' gt.rlo c3').trans (decide_eq_false (by omega))) (q_fh := fun w => run_float_arith (P := Try.prog) (w := w) .add _ .f64 _ _ _ d1) (o_gtrth_fh := (order_gt _ _ gt.hi d2 gt.rhi d3).trans (decide_eq_false (by omega))) (o_lsspx_819172646912 := hH) (q_ph2 := fun w => run_float_arith (P := Try.prog) (w := w) .add _ .f64 _ _ _ w1) (q_pr := fun w => run_float_arith (P := Try.prog) (w := w) .sub _ .f64 _ _ _ w3) (o_eqlpr_px := hE) (c14 := Lib.hid fun w => iv4_any _ _ w) (c15 := Lib.hid fun w => sin_any ph ph w tp.lt tp.lt (fineP_of tp tp (Int.le_refl _))) (d16 := Lib.hid fun pb => calc_neg gp pb) (c17 := Lib.hid (meetP_any ga (neg_fit gp) (bothP_of ga (neg_fit gp) (share ha1 (ps.neg gp))))) (d18 := Lib.hid fun pb => calc_neg gq pb) (c19 := Lib.hid (meetP_any gb (neg_fit gq) (bothP_of gb (neg_fit gq) (share ha2 (pc.neg gq))))) (q_pm := fun w => run_float_arith (P := Try.prog) (w := w) .sub _ .f64 _ _ _ m1') (q_pd := fun w => run_float_arith (P := Try.prog) (w := w) .sub _ .f64 _ _ _ m3) (o_eqlpd_px := hD) (c21 := Lib.hid awake4_any)
        · have ed : val pd = val x := by rw [hD] at hR1; exact of_decide_eq_true hR1.symm
          obtain ⟨rv, ru, rx1, rx2, ry1, ry2⟩ := rest_has tx tm (m6 ed)
          obtain ⟨rs, rc⟩ := sinU_has tx tx rx1 rx2
          obtain ⟨hy1, hy2⟩ := sinU_has tm tm ry1 ry2
          obtain ⟨_, _, gy, _, gz⟩ := sin_fits' tm tm
          exact parts_tt (ul := al) (uh := ah) (u0 := n) w (c1 := Lib.hid cF) (c2 := Lib.hid cB) (c3 := Lib.hid fun w => sin_any al ah w la ha hf) (c4 := Lib.hid fun w => iv4_any _ _ w) (c5 := Lib.hid fun w => sin_any x x w lx lx fx) (c6 := Lib.hid fun w => iv4_any _ _ w) (c7 := Lib.hid fun w => sin_any al x w la lx fv) (c8 := Lib.hid (meetP_any gs gp (bothP_of gs gp P.m))) (c9 := Lib.hid (meetP_any go gq (bothP_of go gq P.n))) (c10 := Lib.hid tiny_47) (q_el := fun w => run_float_arith (P := Try.prog) (w := w) .sub _ .f64 _ _ _ a1) (o_lssvl_el := (order_lt _ _ gv.lo a2 gv.rlo a3).trans (decide_eq_false (by omega))) (q_eh := fun w => run_float_arith (P := Try.prog) (w := w) .add _ .f64 _ _ _ b1) (o_gtrvh_eh := (order_gt _ _ gv.hi b2 gv.rhi b3).trans (decide_eq_false (by omega))) (q_fl := fun w => run_float_arith (P := Try.prog) (w := w) .sub _ .f64 _ _ _ c1') (o_lsstl_fl := (order_lt _ _ gt.lo c2' gt.rlo c3').trans (decide_eq_false (by omega))) (q_fh := fun w => run_float_arith (P := Try.prog) (w := w) .add _ .f64 _ _ _ d1) (o_gtrth_fh := (order_gt _ _ gt.hi d2 gt.rhi d3).trans (decide_eq_false (by omega))) (o_lsspx_819172646912 := hH) (q_ph2 := fun w => run_float_arith (P := Try.prog) (w := w) .add _ .f64 _ _ _ w1) (q_pr := fun w => run_float_arith (P := Try.prog) (w := w) .sub _ .f64 _ _ _ w3) (o_eqlpr_px := hE) (c14 := Lib.hid fun w => iv4_any _ _ w) (c15 := Lib.hid fun w => sin_any ph ph w tp.lt tp.lt (fineP_of tp tp (Int.le_refl _))) (d16 := Lib.hid fun pb => calc_neg gp pb) (c17 := Lib.hid (meetP_any ga (neg_fit gp) (bothP_of ga (neg_fit gp) (share ha1 (ps.neg gp))))) (d18 := Lib.hid fun pb => calc_neg gq pb) (c19 := Lib.hid (meetP_any gb (neg_fit gq) (bothP_of gb (neg_fit gq) (share ha2 (pc.neg gq))))) (q_pm := fun w => run_float_arith (P := Try.prog) (w := w) .sub _ .f64 _ _ _ m1') (q_pd := fun w => run_float_arith (P := Try.prog) (w := w) .sub _ .f64 _ _ _ m3) (o_eqlpd_px := hD) (c20 := Lib.hid fun w => iv4_any _ _ w) (c21 := Lib.hid fun w => sin_any pm pm w tm.lt tm.lt (fineP_of tm tm (Int.le_refl _))) (c23 := Lib.hid (meetP_any gy (neg_fit gp) (bothP_of gy (neg_fit gp) (share hy1 (rs.neg gp))))) (c24 := Lib.hid (meetP_any gz gq (bothP_of gz gq (share hy2 rc)))) (c26 := Lib.hid awake4_any)
    · rw [decide_eq_false g] at hH
      cases hD : (FloatKind.f64.format.order pd x == some Ordering.eq)
      · exact parts_lf (ul := al) (uh := ah) (u0 := n) w (c1 := Lib.hid cF) (c2 := Lib.hid cB) (c3 := Lib.hid fun w => sin_any al ah w la ha hf) (c4 := Lib.hid fun w => iv4_any _ _ w) (c5 := Lib.hid fun w => sin_any x x w lx lx fx) (c6 := Lib.hid fun w => iv4_any _ _ w) (c7 := Lib.hid fun w => sin_any al x w la lx fv) (c8 := Lib.hid (meetP_any gs gp (bothP_of gs gp P.m))) (c9 := Lib.hid (meetP_any go gq (bothP_of go gq P.n))) (c10 := Lib.hid tiny_47) (q_el := fun w => run_float_arith (P := Try.prog) (w := w) .sub _ .f64 _ _ _ a1) (o_lssvl_el := (order_lt _ _ gv.lo a2 gv.rlo a3).trans (decide_eq_false (by omega))) (q_eh := fun w => run_float_arith (P := Try.prog) (w := w) .add _ .f64 _ _ _ b1) (o_gtrvh_eh := (order_gt _ _ gv.hi b2 gv.rhi b3).trans (decide_eq_false (by omega))) (q_fl := fun w => run_float_arith (P := Try.prog) (w := w) .sub _ .f64 _ _ _ c1') (o_lsstl_fl := (order_lt _ _ gt.lo c2' gt.rlo c3').trans (decide_eq_false (by omega))) (q_fh := fun w => run_float_arith (P := Try.prog) (w := w) .add _ .f64 _ _ _ d1) (o_gtrth_fh := (order_gt _ _ gt.hi d2 gt.rhi d3).trans (decide_eq_false (by omega))) (o_lsspx_819172646912 := hH) (q_pm := fun w => run_float_arith (P := Try.prog) (w := w) .sub _ .f64 _ _ _ m1') (q_pd := fun w => run_float_arith (P := Try.prog) (w := w) .sub _ .f64 _ _ _ m3) (o_eqlpd_px := hD) (c15 := Lib.hid awake4_any)
      · have ed : val pd = val x := by rw [hD] at hR1; exact of_decide_eq_true hR1.symm
        obtain ⟨rv, ru, rx1, rx2, ry1, ry2⟩ := rest_has tx tm (m6 ed)
        obtain ⟨rs, rc⟩ := sinU_has tx tx rx1 rx2
        obtain ⟨hy1, hy2⟩ := sinU_has tm tm ry1 ry2
        obtain ⟨_, _, gy, _, gz⟩ := sin_fits' tm tm
        exact parts_lt (ul := al) (uh := ah) (u0 := n) w (c1 := Lib.hid cF) (c2 := Lib.hid cB) (c3 := Lib.hid fun w => sin_any al ah w la ha hf) (c4 := Lib.hid fun w => iv4_any _ _ w) (c5 := Lib.hid fun w => sin_any x x w lx lx fx) (c6 := Lib.hid fun w => iv4_any _ _ w) (c7 := Lib.hid fun w => sin_any al x w la lx fv) (c8 := Lib.hid (meetP_any gs gp (bothP_of gs gp P.m))) (c9 := Lib.hid (meetP_any go gq (bothP_of go gq P.n))) (c10 := Lib.hid tiny_47) (q_el := fun w => run_float_arith (P := Try.prog) (w := w) .sub _ .f64 _ _ _ a1) (o_lssvl_el := (order_lt _ _ gv.lo a2 gv.rlo a3).trans (decide_eq_false (by omega))) (q_eh := fun w => run_float_arith (P := Try.prog) (w := w) .add _ .f64 _ _ _ b1) (o_gtrvh_eh := (order_gt _ _ gv.hi b2 gv.rhi b3).trans (decide_eq_false (by omega))) (q_fl := fun w => run_float_arith (P := Try.prog) (w := w) .sub _ .f64 _ _ _ c1') (o_lsstl_fl := (order_lt _ _ gt.lo c2' gt.rlo c3').trans (decide_eq_false (by omega))) (q_fh := fun w => run_float_arith (P := Try.prog) (w := w) .add _ .f64 _ _ _ d1) (o_gtrth_fh := (order_gt _ _ gt.hi d2 gt.rhi d3).trans (decide_eq_false (by omega))) (o_lsspx_819172646912 := hH) (q_pm := fun w => run_float_arith (P := Try.prog) (w := w) .sub _ .f64 _ _ _ m1') (q_pd := fun w => run_float_arith (P := Try.prog) (w := w) .sub _ .f64 _ _ _ m3) (o_eqlpd_px := hD) (c14 := Lib.hid fun w => iv4_any _ _ w) (c15 := Lib.hid fun w => sin_any pm pm w tm.lt tm.lt (fineP_of tm tm (Int.le_refl _))) (d16 := Lib.hid fun pb => calc_neg gp pb) (c17 := Lib.hid (meetP_any gy (neg_fit gp) (bothP_of gy (neg_fit gp) (share hy1 (rs.neg gp))))) (c18 := Lib.hid (meetP_any gz gq (bothP_of gz gq (share hy2 rc)))) (c20 := Lib.hid awake4_any)
end Go.Proofs.Ytoiaefgpegiieaa
