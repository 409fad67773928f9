/- What the claim stands on, part 16: QHm. -/
import Derived.Test.YtnaomilkgfkegaaPA14
namespace Go.Proofs.Ytnaomilkgfkegaa
section
open Go.RowKit

def Nul (f : Nat → Rat) : Prop := ∀ e : Rat, 0 < e → ∃ M : Nat, ∀ m, M ≤ m → -e ≤ f m ∧ f m ≤ e
def Bd (f : Nat → Rat) : Prop := ∃ B : Rat, 0 < B ∧ ∃ M : Nat, ∀ m, M ≤ m → -B ≤ f m ∧ f m ≤ B
def Eqv (f g : Nat → Rat) : Prop := Nul fun m => f m - g m
def Abv (d : Rat) (f : Nat → Rat) : Prop := ∃ M : Nat, ∀ m, M ≤ m → d ≤ f m

theorem rat_mul {x y B e : Rat} (h1 : -B ≤ x) (h2 : x ≤ B) (h3 : -e ≤ y) (h4 : y ≤ e) : -(B * e) ≤ x * y ∧ x * y ≤ B * e := by
  have a := Rat.mul_nonneg (by grind : 0 ≤ B - x) (by grind : 0 ≤ e + y)
  have b := Rat.mul_nonneg (by grind : 0 ≤ B + x) (by grind : 0 ≤ e - y)
  have c := Rat.mul_nonneg (by grind : 0 ≤ B - x) (by grind : 0 ≤ e - y)
  have d := Rat.mul_nonneg (by grind : 0 ≤ B + x) (by grind : 0 ≤ e + y)
  constructor <;> grind

section
variable {f g f' g' : Nat → Rat}
theorem Nul.add (h : Nul f) (k : Nul g) : Nul fun m => f m + g m := fun e he => by
  obtain ⟨M, hM⟩ := h (e / 2) (by grind)
  obtain ⟨N, hN⟩ := k (e / 2) (by grind)
  refine ⟨M + N, fun m hm => ?_⟩
  have a := hM m (by omega)
  have b := hN m (by omega)
  constructor <;> grind
theorem Nul.neg (h : Nul f) : Nul fun m => -f m := fun e he => by
  obtain ⟨M, hM⟩ := h e he
  refine ⟨M, fun m hm => ?_⟩
  have a := hM m hm
  constructor <;> grind
theorem Nul.zero : Nul fun _ => 0 := fun e he => ⟨0, fun _ _ => by constructor <;> grind⟩
theorem Nul.of (h : Nul f) (e : ∀ m, f m = g m) : Nul g := by
  have : f = g := funext e
  rw [← this]; exact h
theorem Nul.mul (k : Bd f) (h : Nul g) : Nul fun m => f m * g m := fun e he => by
  obtain ⟨B, hB, N, hN⟩ := k
  have hd : 0 < e / B := by
    have := Rat.mul_pos he (Rat.inv_pos.2 hB)
    rw [Rat.div_def]; exact this
  obtain ⟨M, hM⟩ := h (e / B) hd
  refine ⟨M + N, fun m hm => ?_⟩
  have a := hM m (by omega)
  have b := hN m (by omega)
  have c := rat_mul b.1 b.2 a.1 a.2
  have e1 : B * (e / B) = e := by grind
  rw [e1] at c
  exact c
theorem Nul.bd (h : Nul f) : Bd f := by
  obtain ⟨M, hM⟩ := h 1 (by grind)
  exact ⟨1, by grind, M, hM⟩
theorem Bd.add (h : Bd f) (k : Bd g) : Bd fun m => f m + g m := by
  obtain ⟨B, hB, M, hM⟩ := h
  obtain ⟨C, hC, N, hN⟩ := k
  refine ⟨B + C, by grind, M + N, fun m hm => ?_⟩
  have a := hM m (by omega)
  have b := hN m (by omega)
  constructor <;> grind
theorem Bd.neg (h : Bd f) : Bd fun m => -f m := by
  obtain ⟨B, hB, M, hM⟩ := h
  refine ⟨B, hB, M, fun m hm => ?_⟩
  have a := hM m hm
  constructor <;> grind
theorem Bd.sub (h : Bd f) (k : Bd g) : Bd fun m => f m - g m := by
  obtain ⟨B, hB, M, hM⟩ := h.add k.neg
  refine ⟨B, hB, M, fun m hm => ?_⟩
  have a := hM m hm
  constructor <;> grind
theorem Bd.mul (h : Bd f) (k : Bd g) : Bd fun m => f m * g m := by
  obtain ⟨B, hB, M, hM⟩ := h
  obtain ⟨C, hC, N, hN⟩ := k
  refine ⟨B * C, Rat.mul_pos hB hC, M + N, fun m hm => ?_⟩
  have a := hM m (by omega)
  have b := hN m (by omega)
  exact rat_mul a.1 a.2 b.1 b.2
theorem Eqv.rfl : Eqv f f := Nul.zero.of fun m => by grind
theorem Eqv.symm (h : Eqv f g) : Eqv g f := (Nul.neg h).of fun m => by grind
theorem Eqv.trans {k : Nat → Rat} (h : Eqv f g) (h' : Eqv g k) : Eqv f k := (Nul.add h h').of fun m => by grind
theorem Eqv.of (e : ∀ m, f m = g m) : Eqv f g := Nul.zero.of fun m => by rw [e m]; grind
theorem Eqv.bd (h : Eqv f g) (k : Bd f) : Bd g := by
  obtain ⟨B, hB, M, hM⟩ := k.sub (Nul.bd h)
  refine ⟨B, hB, M, fun m hm => ?_⟩
  have a := hM m hm
  constructor <;> grind
theorem Eqv.add (h : Eqv f f') (k : Eqv g g') : Eqv (fun m => f m + g m) fun m => f' m + g' m := (Nul.add h k).of fun m => by grind
theorem Eqv.neg (h : Eqv f f') : Eqv (fun m => -f m) fun m => -f' m := (Nul.neg h).of fun m => by grind
theorem Eqv.sub (h : Eqv f f') (k : Eqv g g') : Eqv (fun m => f m - g m) fun m => f' m - g' m := (Nul.add h (Nul.neg k)).of fun m => by grind
theorem Eqv.mul (h : Eqv f f') (k : Eqv g g') (bf : Bd f) (bg : Bd g) : Eqv (fun m => f m * g m) fun m => f' m * g' m :=
  (Nul.add (Nul.mul (h.bd bf) k) (Nul.mul bg h)).of fun m => by grind
theorem Abv.of_eqv {d d' : Rat} (h : Abv d f) (k : Eqv f g) (hd : d' < d) : Abv d' g := by
  obtain ⟨M, hM⟩ := h
  obtain ⟨N, hN⟩ := k (d - d') (by grind)
  refine ⟨M + N, fun m hm => ?_⟩
  have a := hM m (by omega)
  have b := hN m (by omega)
  grind
theorem Abv.inv {d : Rat} (h0 : 0 < d) (h : Abv d f) : Bd fun m => (f m)⁻¹ := by
  obtain ⟨M, hM⟩ := h
  refine ⟨d⁻¹, Rat.inv_pos.2 h0, M, fun m hm => ?_⟩
  have a := hM m hm
  have p : 0 < f m := by grind
  have i := Rat.inv_pos.2 p
  have j := Rat.inv_pos.2 h0
  constructor
  · grind
  · refine Rat.le_of_mul_le_mul_right (c := f m) ?_ p
    have e1 : (f m)⁻¹ * f m = 1 := by grind
    have e2 := Rat.mul_le_mul_of_nonneg_left a (by grind : 0 ≤ d⁻¹)
    have e3 : d⁻¹ * d = 1 := by grind
    rw [e1]; grind
theorem Eqv.inv {d : Rat} (h0 : 0 < d) (lf : Abv d f) (lg : Abv d g) (h : Eqv f g) : Eqv (fun m => (f m)⁻¹) fun m => (g m)⁻¹ := by
  have k := Nul.mul ((lf.inv h0).mul (lg.inv h0)) (Nul.neg h)
  obtain ⟨M, hM⟩ := lf
  obtain ⟨N, hN⟩ := lg
  intro e he
  obtain ⟨L, hL⟩ := k e he
  refine ⟨L + M + N, fun m hm => ?_⟩
  have a := hL m (by omega)
  have b := hM m (by omega)
  have c := hN m (by omega)
  have e1 : (f m)⁻¹ * (g m)⁻¹ * -(f m - g m) = (f m)⁻¹ - (g m)⁻¹ := by
    have p : f m ≠ 0 := by grind
    have q : g m ≠ 0 := by grind
    grind
  dsimp only at a ⊢
  rw [e1] at a
  exact a
theorem Eqv.div {d : Rat} (h0 : 0 < d) (lg : Abv d g) (lg' : Abv d g') (h : Eqv f f') (k : Eqv g g') (bf : Bd f) : Eqv (fun m => f m / g m) fun m => f' m / g' m := by
  have r := Eqv.mul h (Eqv.inv h0 lg lg' k) bf (lg.inv h0)
  exact r.symm.symm.trans (Eqv.of fun m => (Rat.div_def _ _).symm) |> fun t => (Eqv.of fun m => Rat.div_def _ _).trans t
end

structure HasQ (r : Res) (x : Rat) : Prop where
  low : ((val r.lo : Int) : Rat) ≤ x * ((SS : Int) : Rat)
  high : x * ((SS : Int) : Rat) ≤ ((val r.hi : Int) : Rat)
theorem ssQ : (0 : Rat) < ((SS : Int) : Rat) := Rat.intCast_pos.2 SS0
theorem HasQ.ofV {r : Res} {P T : Int} (h : HasV r P T) : HasQ r ((T : Rat) / (P : Rat)) := by
  have p : (0 : Rat) < (P : Rat) := Rat.intCast_pos.2 h.pos
  have a := Rat.intCast_le_intCast.2 h.low
  have b := Rat.intCast_le_intCast.2 h.high
  rw [Rat.intCast_mul, Rat.intCast_mul] at a b
  have e : (T : Rat) / (P : Rat) * ((SS : Int) : Rat) * (P : Rat) = (T : Rat) * ((SS : Int) : Rat) := by grind
  exact ⟨Rat.le_of_mul_le_mul_right (by rw [e]; exact a) p, Rat.le_of_mul_le_mul_right (by rw [e]; exact b) p⟩
theorem num_den (x : Rat) : (x.num : Rat) / (((x.den : Nat) : Int) : Rat) = x := by rw [← Rat.divInt_eq_div]; exact Rat.num_divInt_den x
theorem HasQ.toV {r : Res} {x : Rat} (h : HasQ r x) : HasV r x.den x.num := by
  have d0 : (0 : Int) < ((x.den : Nat) : Int) := Int.natCast_pos.2 x.den_pos
  have p : (0 : Rat) < (((x.den : Nat) : Int) : Rat) := Rat.intCast_pos.2 d0
  have e := num_den x
  have e' : x * (((x.den : Nat) : Int) : Rat) = (x.num : Rat) := by rw [← e]; grind
  refine ⟨d0, ?_, ?_⟩
  · refine Rat.intCast_le_intCast.1 ?_
    rw [Rat.intCast_mul, Rat.intCast_mul, ← e']
    have := Rat.mul_le_mul_of_nonneg_right h.low (Rat.le_of_lt p)
    grind
  · refine Rat.intCast_le_intCast.1 ?_
    rw [Rat.intCast_mul, Rat.intCast_mul, ← e']
    have := Rat.mul_le_mul_of_nonneg_right h.high (Rat.le_of_lt p)
    grind
theorem HasQ.turn {r : Res} {x y : Rat} (h : HasQ r x) (e : x = y) : HasQ r y := e ▸ h
section
variable {r s : Res} {x y : Rat}
theorem den_ne (x : Rat) : (((x.den : Nat) : Int) : Rat) ≠ 0 := by
  have := Rat.intCast_pos.2 (Int.natCast_pos.2 x.den_pos)
  grind
theorem HasQ.add (fr : Fit r) (fs : Fit s) (h : HasQ r x) (k : HasQ s y) (he : (addR r s).e = 0) : HasQ (addR r s) (x + y) := by
  refine (HasQ.ofV (HasV.add fr fs h.toV k.toV he)).turn ?_
  have a := num_den x
  have b := num_den y
  have p := den_ne x
  have q := den_ne y
  rw [Rat.intCast_add, Rat.intCast_mul, Rat.intCast_mul, Rat.intCast_mul]
  generalize (x.num : Rat) = X at *
  generalize (y.num : Rat) = Y at *
  generalize (((x.den : Nat) : Int) : Rat) = P at *
  generalize (((y.den : Nat) : Int) : Rat) = Q at *
  subst a b
  grind
theorem HasQ.sub (fr : Fit r) (fs : Fit s) (h : HasQ r x) (k : HasQ s y) (he : (subR r s).e = 0) : HasQ (subR r s) (x - y) := by
  refine (HasQ.ofV (HasV.sub fr fs h.toV k.toV he)).turn ?_
  have a := num_den x
  have b := num_den y
  have p := den_ne x
  have q := den_ne y
  rw [Rat.intCast_sub, Rat.intCast_mul, Rat.intCast_mul, Rat.intCast_mul]
  generalize (x.num : Rat) = X at *
  generalize (y.num : Rat) = Y at *
  generalize (((x.den : Nat) : Int) : Rat) = P at *
  generalize (((y.den : Nat) : Int) : Rat) = Q at *
  subst a b
  grind
theorem HasQ.mul (fr : Fit r) (fs : Fit s) (h : HasQ r x) (k : HasQ s y) (he : (mulR r s).e = 0) : HasQ (mulR r s) (x * y) := by
  refine (HasQ.ofV (HasV.mul fr fs h.toV k.toV he)).turn ?_
  have a := num_den x
  have b := num_den y
  have p := den_ne x
  have q := den_ne y
  rw [Rat.intCast_mul, Rat.intCast_mul]
  generalize (x.num : Rat) = X at *
  generalize (y.num : Rat) = Y at *
  generalize (((x.den : Nat) : Int) : Rat) = P at *
  generalize (((y.den : Nat) : Int) : Rat) = Q at *
  subst a b
  grind
theorem HasQ.sqr (fr : Fit r) (h : HasQ r x) (he : (sqrR r).e = 0) : HasQ (sqrR r) (x * x) := by
  refine (HasQ.ofV (HasV.sqr fr h.toV he)).turn ?_
  have a := num_den x
  have p := den_ne x
  rw [Rat.intCast_mul, Rat.intCast_mul]
  generalize (x.num : Rat) = X at *
  generalize (((x.den : Nat) : Int) : Rat) = P at *
  subst a
  grind
theorem HasQ.div (fr : Fit r) (fs : Fit s) (h : HasQ r x) (k : HasQ s y) (hs : 0 < val s.lo) (he : (divR r s).e = 0) : HasQ (divR r s) (x / y) := by
  obtain ⟨u, v⟩ := HasV.div fr fs h.toV k.toV hs he
  refine (HasQ.ofV v).turn ?_
  have a := num_den x
  have b := num_den y
  have p := den_ne x
  have q := den_ne y
  have w : (y.num : Rat) ≠ 0 := by have := Rat.intCast_pos.2 u; grind
  rw [Rat.intCast_mul, Rat.intCast_mul]
  generalize (x.num : Rat) = X at *
  generalize (y.num : Rat) = Y at *
  generalize (((x.den : Nat) : Int) : Rat) = P at *
  generalize (((y.den : Nat) : Int) : Rat) = Q at *
  subst a b
  grind
end
theorem HasQ.one (x : Nat) : HasQ (oneR x) (((val x : Int) : Rat) / ((SS : Int) : Rat)) := HasQ.ofV (HasV.one x)
theorem HasQ.lit {x : Nat} {k : Int} {q : Rat} (h : val x = k * SS) (hq : q = (k : Rat)) : HasQ (oneR x) q := by
  have e : ((val x : Int) : Rat) = q * ((SS : Int) : Rat) := by rw [h, Rat.intCast_mul, hq]
  exact ⟨by show ((val x : Int) : Rat) ≤ _; rw [e]; exact Rat.le_refl, by show _ ≤ ((val x : Int) : Rat); rw [e]; exact Rat.le_refl⟩

def HasS (r : Res) (f : Nat → Rat) : Prop := ∃ f', (∀ m, HasQ r (f' m)) ∧ Eqv f' f
section
variable {r s : Res} {f g : Nat → Rat}
theorem HasS.turn (h : HasS r f) (e : Eqv f g) : HasS r g := by
  obtain ⟨f', a, b⟩ := h
  exact ⟨f', a, b.trans e⟩
theorem hasQ_bd {f : Nat → Rat} (h : ∀ m, HasQ r (f m)) : Bd f := by
  have s := ssQ
  obtain ⟨B, hB⟩ : ∃ B : Rat, B = (((max (val r.lo).natAbs (val r.hi).natAbs : Nat) : Int) : Rat) / ((SS : Int) : Rat) := ⟨_, rfl⟩
  have e : B * ((SS : Int) : Rat) = (((max (val r.lo).natAbs (val r.hi).natAbs : Nat) : Int) : Rat) := by rw [hB]; grind
  have l : (((-(max (val r.lo).natAbs (val r.hi).natAbs : Nat) : Int)) : Rat) ≤ ((val r.lo : Int) : Rat) := Rat.intCast_le_intCast.2 (by omega)
  have u : ((val r.hi : Int) : Rat) ≤ (((max (val r.lo).natAbs (val r.hi).natAbs : Nat) : Int) : Rat) := Rat.intCast_le_intCast.2 (by omega)
  have b0 : (0 : Rat) ≤ (((max (val r.lo).natAbs (val r.hi).natAbs : Nat) : Int) : Rat) := Rat.intCast_nonneg.2 (by omega)
  rw [Rat.intCast_neg] at l
  rw [← e] at l u b0
  have B0 : 0 ≤ B := Rat.le_of_mul_le_mul_right (by rw [Rat.zero_mul]; exact b0) s
  refine ⟨B + 1, by grind, 0, fun m _ => ?_⟩
  have k := h m
  have k1 : f m ≤ B := Rat.le_of_mul_le_mul_right (Rat.le_trans k.high u) s
  have k2 : -B ≤ f m := Rat.le_of_mul_le_mul_right (by have := Rat.le_trans l k.low; grind) s
  constructor <;> grind
theorem HasS.bd (h : HasS r f) : Bd f := by
  obtain ⟨f', a, b⟩ := h
  exact b.bd (hasQ_bd a)
theorem HasS.add (fr : Fit r) (fs : Fit s) (h : HasS r f) (k : HasS s g) (he : (addR r s).e = 0) : HasS (addR r s) fun m => f m + g m := by
  obtain ⟨f', a, b⟩ := h
  obtain ⟨g', c, d⟩ := k
  exact ⟨_, fun m => (a m).add fr fs (c m) he, b.add d⟩
theorem HasS.sub (fr : Fit r) (fs : Fit s) (h : HasS r f) (k : HasS s g) (he : (subR r s).e = 0) : HasS (subR r s) fun m => f m - g m := by
  obtain ⟨f', a, b⟩ := h
  obtain ⟨g', c, d⟩ := k
  exact ⟨_, fun m => (a m).sub fr fs (c m) he, b.sub d⟩
theorem HasS.mul (fr : Fit r) (fs : Fit s) (h : HasS r f) (k : HasS s g) (he : (mulR r s).e = 0) : HasS (mulR r s) fun m => f m * g m := by
  obtain ⟨f', a, b⟩ := h
  obtain ⟨g', c, d⟩ := k
  exact ⟨_, fun m => (a m).mul fr fs (c m) he, b.mul d (hasQ_bd a) (hasQ_bd c)⟩
theorem HasS.sqr (fr : Fit r) (h : HasS r f) (he : (sqrR r).e = 0) : HasS (sqrR r) fun m => f m * f m := by
  obtain ⟨f', a, b⟩ := h
  exact ⟨_, fun m => (a m).sqr fr he, b.mul b (hasQ_bd a) (hasQ_bd a)⟩
theorem HasS.abv (h : HasS r f) (hs : 0 < val r.lo) : ∃ d : Rat, 0 < d ∧ Abv d f := by
  obtain ⟨f', a, b⟩ := h
  have s := ssQ
  have p : (0 : Rat) < ((val r.lo : Int) : Rat) := Rat.intCast_pos.2 hs
  obtain ⟨B, hB⟩ : ∃ B : Rat, B = ((val r.lo : Int) : Rat) / ((SS : Int) : Rat) := ⟨_, rfl⟩
  have e : B * ((SS : Int) : Rat) = ((val r.lo : Int) : Rat) := by rw [hB]; grind
  have B0 : 0 < B := by
    rw [hB, Rat.div_def]
    exact Rat.mul_pos p (Rat.inv_pos.2 s)
  refine ⟨B / 2, by grind, Abv.of_eqv (d := B) ⟨0, fun m _ => ?_⟩ b (by grind)⟩
  exact Rat.le_of_mul_le_mul_right (by rw [e]; exact (a m).low) s
theorem HasS.div (fr : Fit r) (fs : Fit s) (h : HasS r f) (k : HasS s g) (hs : 0 < val s.lo) (he : (divR r s).e = 0) : HasS (divR r s) fun m => f m / g m := by
  obtain ⟨d1, p1, q1⟩ := k.abv hs
  obtain ⟨f', a, b⟩ := h
  obtain ⟨g', c, d⟩ := k
  obtain ⟨d2, p2, q2⟩ := HasS.abv (⟨g', c, Eqv.rfl⟩ : HasS s g') hs
  have low : ∀ {x y : Rat} {k : Nat → Rat}, x ≤ y → Abv y k → Abv x k := fun hxy ⟨M, hM⟩ => ⟨M, fun m hm => Rat.le_trans hxy (hM m hm)⟩
  rcases Rat.le_total (a := d1) (b := d2) with t | t
  · exact ⟨_, fun m => (a m).div fr fs (c m) hs he, b.div p1 (low t q2) q1 d (hasQ_bd a)⟩
  · exact ⟨_, fun m => (a m).div fr fs (c m) hs he, b.div p2 q2 (low t q1) d (hasQ_bd a)⟩
end

theorem root_near {x e : Rat} (hx : 0 ≤ x) (he : 0 < e) : ∃ y : Rat, 0 ≤ y ∧ y * y ≤ x ∧ x ≤ y * y + e := by
  obtain ⟨h, h0, h1, h2⟩ : ∃ h : Rat, 0 < h ∧ h ≤ 1 ∧ (2 * x + 3) * h ≤ e := by
    have p : 0 < 2 * x + 3 := by grind
    have q : 0 < e / (2 * x + 3) := by rw [Rat.div_def]; exact Rat.mul_pos he (Rat.inv_pos.2 p)
    rcases Rat.le_total (a := e / (2 * x + 3)) (b := 1) with g | g
    · refine ⟨_, q, g, ?_⟩
      have e1 : (2 * x + 3) * (e / (2 * x + 3)) = e := by grind
      rw [e1]; exact Rat.le_refl
    · refine ⟨1, by grind, by grind, ?_⟩
      have t := Rat.mul_le_mul_of_nonneg_right g (Rat.le_of_lt p)
      have e1 : e / (2 * x + 3) * (2 * x + 3) = e := by grind
      rw [e1] at t
      grind
  have step : ∀ K : Nat, x < ((K : Rat) * h) * ((K : Rat) * h) → ∃ k : Nat, ((k : Rat) * h) * ((k : Rat) * h) ≤ x ∧ x < (((k + 1 : Nat) : Rat) * h) * (((k + 1 : Nat) : Rat) * h) := by
    intro K
    induction K with
    | zero => intro hK; have e0 : ((0 : Nat) : Rat) = 0 := rfl; rw [e0] at hK; grind
    | succ K ih =>
      intro hK
      rcases Rat.le_total (a := ((K : Rat) * h) * ((K : Rat) * h)) (b := x) with g | g
      · exact ⟨K, g, hK⟩
      · by_cases g' : ((K : Rat) * h) * ((K : Rat) * h) = x
        · exact ⟨K, by grind, hK⟩
        · exact ih (by grind)
  have big : ∃ K : Nat, x < ((K : Rat) * h) * ((K : Rat) * h) := by
    refine ⟨((x + 1) / h).ceil.toNat, ?_⟩
    have c := Rat.le_ceil (x := (x + 1) / h)
    have q : 0 < (x + 1) / h := by rw [Rat.div_def]; exact Rat.mul_pos (by grind) (Rat.inv_pos.2 h0)
    have c0 : 0 < ((x + 1) / h).ceil := Rat.intCast_pos.1 (by grind)
    have cn : ((((x + 1) / h).ceil.toNat : Nat) : Rat) = ((((x + 1) / h).ceil : Int) : Rat) := by
      rw [← Rat.intCast_natCast, Int.toNat_of_nonneg (Int.le_of_lt c0)]
    rw [cn]
    generalize ((((x + 1) / h).ceil : Int) : Rat) = C at *
    have t := Rat.mul_le_mul_of_nonneg_right c (Rat.le_of_lt h0)
    have t1 : (x + 1) / h * h = x + 1 := by grind
    rw [t1] at t
    have t2 := Rat.mul_nonneg (by grind : 0 ≤ C * h - (x + 1)) (by grind : 0 ≤ C * h + (x + 1))
    have t3 := Rat.mul_nonneg hx hx
    grind
  obtain ⟨K, hK⟩ := big
  obtain ⟨k, k1, k2⟩ := step K hK
  have ek : ((k + 1 : Nat) : Rat) = (k : Rat) + 1 := by rw [Rat.natCast_add]; rfl
  rw [ek] at k2
  have k0 : (0 : Rat) ≤ (k : Rat) := Rat.natCast_nonneg
  generalize (k : Rat) = c at *
  have y0 := Rat.mul_nonneg k0 (Rat.le_of_lt h0)
  refine ⟨c * h, y0, k1, ?_⟩
  have e2 : (c + 1) * h * ((c + 1) * h) = c * h * (c * h) + (2 * (c * h) + h) * h := by grind
  rw [e2] at k2
  generalize c * h = y at *
  have yx : y ≤ x + 1 := by
    rcases Rat.le_total (a := y) (b := x + 1) with g | g
    · exact g
    · have := Rat.mul_nonneg (by grind : 0 ≤ y - (x + 1)) (by grind : 0 ≤ y + (x + 1))
      have := Rat.mul_nonneg hx hx
      grind
  have t := Rat.mul_le_mul_of_nonneg_right (by grind : 2 * y + h ≤ 2 * x + 3) (Rat.le_of_lt h0)
  grind

theorem rows_nil {f : Nat → Rat} (h : ∀ m : Nat, -(((m : Rat) + 1)⁻¹) ≤ f m ∧ f m ≤ ((m : Rat) + 1)⁻¹) : Nul f := fun e he => by
  refine ⟨(e⁻¹).ceil.toNat, fun m hm => ?_⟩
  have i0 := Rat.inv_pos.2 he
  have c := Rat.le_ceil (x := e⁻¹)
  have c0 : 0 < (e⁻¹).ceil := Rat.intCast_pos.1 (by grind)
  have cm : ((e⁻¹).ceil : Int) ≤ (m : Int) := by omega
  have cq : (((e⁻¹).ceil : Int) : Rat) ≤ (m : Rat) := by
    have := Rat.intCast_le_intCast.2 cm
    rw [Rat.intCast_natCast] at this; exact this
  have mp : 0 < (m : Rat) + 1 := by
    have : (0 : Rat) ≤ (m : Rat) := Rat.natCast_nonneg
    grind
  have k := h m
  have key : ((m : Rat) + 1)⁻¹ ≤ e := by
    refine Rat.le_of_mul_le_mul_right (c := (m : Rat) + 1) ?_ mp
    have e1 : ((m : Rat) + 1)⁻¹ * ((m : Rat) + 1) = 1 := by grind
    have e2 := Rat.mul_le_mul_of_nonneg_left (by grind : e⁻¹ ≤ (m : Rat) + 1) (Rat.le_of_lt he)
    have e3 : e * e⁻¹ = 1 := by grind
    rw [e1]; grind
  constructor <;> grind

theorem HasQ.root_fit {r : Res} (fr : Fit r) (he : (sqrtR r).e = 0) : Fit (sqrtR r) := (root_in (.refl fr) fr he).fit
theorem rootQ_in {r : Res} {x e : Rat} (fr : Fit r) (h : HasQ r x) (he : (sqrtR r).e = 0) (h0 : 0 < e) : ∃ y : Rat, HasQ (sqrtR r) y ∧ 0 ≤ y ∧ -e ≤ y * y - x ∧ y * y - x ≤ e := by
  obtain ⟨p0, ⟨p1, p2, _⟩, q1, q2, _⟩ := sqrt_parts fr he
  have S := ssQ
  have l0 := Rat.intCast_nonneg.2 p0
  have a1 := Rat.intCast_nonneg.2 p1
  have b1 := Rat.intCast_nonneg.2 q1
  have a2 := Rat.intCast_le_intCast.2 p2
  have b2 := Rat.intCast_le_intCast.2 q2
  rw [Rat.intCast_mul, Rat.intCast_mul] at a2 b2
  have fs : val (sqrtR r).lo ≤ val (sqrtR r).hi := (HasQ.root_fit fr he).le
  have fs' := Rat.intCast_le_intCast.2 fs
  have hl := h.low
  have hh := h.high
  have x0 : 0 ≤ x := by
    refine Rat.le_of_mul_le_mul_right (c := ((SS : Int) : Rat)) ?_ S
    rw [Rat.zero_mul]; exact Rat.le_trans l0 hl
  obtain ⟨y, y0, y1, y2⟩ := root_near x0 h0
  generalize hL : ((val (sqrtR r).lo : Int) : Rat) = L at *
  generalize hU : ((val (sqrtR r).hi : Int) : Rat) = U at *
  generalize ((val r.lo : Int) : Rat) = lo at *
  generalize ((val r.hi : Int) : Rat) = hi at *
  generalize hS : ((SS : Int) : Rat) = s at *
  -- the ends' squares lie about x
  have t1 : L * L ≤ x * s * s := Rat.le_trans a2 (Rat.mul_le_mul_of_nonneg_right hl (Rat.le_of_lt S))
  have t2 : x * s * s ≤ U * U := Rat.le_trans (Rat.mul_le_mul_of_nonneg_right hh (Rat.le_of_lt S)) b2
  have div : ∀ T : Rat, T / s * s = T := fun T => by grind
  have le_of : ∀ {A B : Rat}, A * (s * s) ≤ B * (s * s) → A ≤ B := fun h => Rat.le_of_mul_le_mul_right h (Rat.mul_pos S S)
  rcases Rat.le_total (a := y * s) (b := L) with g | g
  · refine ⟨L / s, ⟨by rw [hS, hL, div]; exact Rat.le_refl, by rw [hS, hU, div]; exact fs'⟩, ?_, ?_, ?_⟩
    · refine Rat.le_of_mul_le_mul_right (c := s) ?_ S
      rw [Rat.zero_mul, div]; exact a1
    · have k : y * y ≤ L / s * (L / s) := le_of (by
        have e1 : L / s * (L / s) * (s * s) = L * L := by grind
        rw [e1]
        have := Rat.mul_nonneg (by grind : 0 ≤ L - y * s) (by have := Rat.mul_nonneg y0 (Rat.le_of_lt S); grind : 0 ≤ L + y * s)
        grind)
      grind
    · have k : L / s * (L / s) ≤ x := le_of (by
        have e1 : L / s * (L / s) * (s * s) = L * L := by grind
        rw [e1]; grind)
      grind
  · rcases Rat.le_total (a := y * s) (b := U) with g' | g'
    · exact ⟨y, ⟨by rw [hS, hL]; exact g, by rw [hS, hU]; exact g'⟩, y0, by grind, by grind⟩
    · refine ⟨U / s, ⟨by rw [hS, hL, div]; exact fs', by rw [hS, hU, div]; exact Rat.le_refl⟩, ?_, ?_, ?_⟩
      · refine Rat.le_of_mul_le_mul_right (c := s) ?_ S
        rw [Rat.zero_mul, div]; exact b1
      · have k : x ≤ U / s * (U / s) := le_of (by
          have e1 : U / s * (U / s) * (s * s) = U * U := by grind
          rw [e1]; grind)
        grind
      · have k : U / s * (U / s) ≤ y * y := le_of (by
          have e1 : U / s * (U / s) * (s * s) = U * U := by grind
          rw [e1]
          have := Rat.mul_nonneg (by grind : 0 ≤ y * s - U) (by grind : 0 ≤ y * s + U)
          grind)
        grind
theorem HasS.sqrt {r : Res} {f : Nat → Rat} (fr : Fit r) (h : HasS r f) (he : (sqrtR r).e = 0) : ∃ y : Nat → Rat, HasS (sqrtR r) y ∧ (∀ m, 0 ≤ y m) ∧ Eqv (fun m => y m * y m) f := by
  obtain ⟨f', a, b⟩ := h
  have ex : ∀ m : Nat, ∃ y : Rat, HasQ (sqrtR r) y ∧ 0 ≤ y ∧ -(((m : Rat) + 1)⁻¹) ≤ y * y - f' m ∧ y * y - f' m ≤ ((m : Rat) + 1)⁻¹ := fun m =>
    rootQ_in fr (a m) he (Rat.inv_pos.2 (by have : (0 : Rat) ≤ (m : Rat) := Rat.natCast_nonneg; grind))
  refine ⟨fun m => Classical.choose (ex m), ⟨_, fun m => (Classical.choose_spec (ex m)).1, Eqv.rfl⟩, fun m => (Classical.choose_spec (ex m)).2.1, Eqv.trans ?_ b⟩
  exact rows_nil fun m => (Classical.choose_spec (ex m)).2.2
end
section
open Go.RowKit

def ev : List Rat → Rat → Rat
  | [], _ => 0
  | a :: p, y => a + y * ev p y
def padd : List Rat → List Rat → List Rat
  | [], q => q
  | p, [] => p
  | a :: p, b :: q => (a + b) :: padd p q
def pscale (c : Rat) : List Rat → List Rat
  | [] => []
  | a :: p => (c * a) :: pscale c p
def pmul : List Rat → List Rat → List Rat
  | [], _ => []
  | a :: p, q => padd (pscale a q) (0 :: pmul p q)
def pabs : List Rat → Rat
  | [] => 0
  | a :: p => (if a ≤ 0 then -a else a) + pabs p
theorem ev_add (y : Rat) : ∀ p q : List Rat, ev (padd p q) y = ev p y + ev q y
  | [], q => by unfold padd; show ev q y = 0 + ev q y; grind
  | a :: p, [] => by unfold padd; show ev (a :: p) y = ev (a :: p) y + 0; grind
  | a :: p, b :: q => by
    have ih := ev_add y p q
    show (a + b) + y * ev (padd p q) y = (a + y * ev p y) + (b + y * ev q y)
    rw [ih]; grind
theorem ev_scale (c y : Rat) : ∀ p : List Rat, ev (pscale c p) y = c * ev p y
  | [] => by show (0 : Rat) = c * 0; grind
  | a :: p => by
    have ih := ev_scale c y p
    show c * a + y * ev (pscale c p) y = c * (a + y * ev p y)
    rw [ih]; grind
theorem ev_mul (y : Rat) : ∀ p q : List Rat, ev (pmul p q) y = ev p y * ev q y
  | [], q => by show (0 : Rat) = 0 * ev q y; grind
  | a :: p, q => by
    have ih := ev_mul y p q
    show ev (padd (pscale a q) (0 :: pmul p q)) y = (a + y * ev p y) * ev q y
    rw [ev_add, ev_scale]
    show a * ev q y + (0 + y * ev (pmul p q) y) = _
    rw [ih]; grind
theorem ev_abs {y : Rat} (h0 : 0 ≤ y) (h1 : y ≤ 1) : ∀ p : List Rat, -(pabs p) ≤ ev p y ∧ ev p y ≤ pabs p ∧ 0 ≤ pabs p
  | [] => by show -(0 : Rat) ≤ 0 ∧ (0 : Rat) ≤ 0 ∧ (0 : Rat) ≤ 0; refine ⟨?_, ?_, ?_⟩ <;> grind
  | a :: p => by
    obtain ⟨i1, i2, i3⟩ := ev_abs h0 h1 p
    have k1 := Rat.mul_nonneg h0 (by grind : 0 ≤ pabs p - ev p y)
    have k2 := Rat.mul_nonneg h0 (by grind : 0 ≤ pabs p + ev p y)
    have k3 := Rat.mul_nonneg (by grind : 0 ≤ 1 - y) i3
    show -((if a ≤ 0 then -a else a) + pabs p) ≤ a + y * ev p y ∧ a + y * ev p y ≤ (if a ≤ 0 then -a else a) + pabs p ∧ 0 ≤ (if a ≤ 0 then -a else a) + pabs p
    split
    · refine ⟨?_, ?_, ?_⟩ <;> grind
    · refine ⟨?_, ?_, ?_⟩ <;> grind

def kk (k : Nat) : Rat := ((((k : Int) * ((k : Int) + 1)) : Int) : Rat)
def serL (m : Nat) : Nat → List Rat
  | 0 => [1]
  | i + 1 => 1 :: pscale (-(kk (m - 2 - 2 * i))⁻¹) (serL m i)
theorem serL_ev (m i : Nat) (y : Rat) : ev (serL m (i + 1)) y = 1 - y / kk (m - 2 - 2 * i) * ev (serL m i) y := by
  show 1 + y * ev (pscale (-(kk (m - 2 - 2 * i))⁻¹) (serL m i)) y = _
  rw [ev_scale, Rat.div_def]; grind
theorem kk_one {k : Nat} (h : 1 ≤ k) : 1 ≤ kk k := by
  have : (1 : Int) ≤ (k : Int) * ((k : Int) + 1) := by
    have := Int.mul_le_mul (by omega : (1 : Int) ≤ (k : Int)) (by omega : (1 : Int) ≤ (k : Int) + 1) (by omega) (by omega)
    omega
  have h' := Rat.intCast_le_intCast.2 this
  exact h'
end
section
open Go.RowKit

theorem serL_unit2 {m : Nat} {y : Rat} (h0 : 0 ≤ y) (h1 : y ≤ 1) : ∀ i, 2 * i + 1 ≤ m → 0 ≤ ev (serL m i) y ∧ ev (serL m i) y ≤ 1
  | 0, _ => by
    have e : ev (serL m 0) y = 1 := by show 1 + y * 0 = 1; grind
    rw [e]; constructor <;> grind
  | i + 1, hi => by
    obtain ⟨a, b⟩ := serL_unit2 (m := m) h0 h1 i (by omega)
    have k := kk_one (by omega : 1 ≤ m - 2 - 2 * i)
    rw [serL_ev]
    have q := Rat.inv_pos.2 (by grind : 0 < kk (m - 2 - 2 * i))
    have q1 : (kk (m - 2 - 2 * i))⁻¹ ≤ 1 := by
      refine Rat.le_of_mul_le_mul_right (c := kk (m - 2 - 2 * i)) ?_ (by grind)
      have e : (kk (m - 2 - 2 * i))⁻¹ * kk (m - 2 - 2 * i) = 1 := by grind
      rw [e, Rat.one_mul]; exact k
    rw [Rat.div_def]
    generalize (kk (m - 2 - 2 * i))⁻¹ = c at *
    generalize ev (serL m i) y = s at *
    have yc := Rat.mul_nonneg h0 (Rat.le_of_lt q)
    have yc1 : y * c ≤ 1 := by
      have := Rat.mul_nonneg h0 (by grind : 0 ≤ 1 - c)
      grind
    generalize y * c = z at *
    have z1 := Rat.mul_nonneg yc a
    have z2 := Rat.mul_nonneg yc (by grind : 0 ≤ 1 - s)
    constructor <;> grind
theorem serL_half {m : Nat} {y : Rat} (h0 : 0 ≤ y) (h1 : y ≤ 1) (i : Nat) (hi : 2 * i + 3 ≤ m) : 1 / 2 ≤ ev (serL m (i + 1)) y := by
  obtain ⟨a, b⟩ := serL_unit2 (m := m) h0 h1 i (by omega)
  rw [serL_ev]
  have k : 2 ≤ kk (m - 2 - 2 * i) := by
    have : (2 : Int) ≤ ((m - 2 - 2 * i : Nat) : Int) * (((m - 2 - 2 * i : Nat) : Int) + 1) := by
      have := Int.mul_le_mul (by omega : (1 : Int) ≤ ((m - 2 - 2 * i : Nat) : Int)) (by omega : (2 : Int) ≤ ((m - 2 - 2 * i : Nat) : Int) + 1) (by omega) (by omega)
      omega
    exact Rat.intCast_le_intCast.2 this
  have q := Rat.inv_pos.2 (by grind : 0 < kk (m - 2 - 2 * i))
  have q1 : (kk (m - 2 - 2 * i))⁻¹ ≤ 1 / 2 := by
    refine Rat.le_of_mul_le_mul_right (c := kk (m - 2 - 2 * i)) ?_ (by grind)
    have e : (kk (m - 2 - 2 * i))⁻¹ * kk (m - 2 - 2 * i) = 1 := by grind
    rw [e]; grind
  rw [Rat.div_def y]
  generalize (kk (m - 2 - 2 * i))⁻¹ = c at *
  generalize ev (serL m i) y = s at *
  have yc := Rat.mul_nonneg h0 (Rat.le_of_lt q)
  have yc1 : y * c ≤ 1 / 2 := by
    have := Rat.mul_nonneg (Rat.le_of_lt q) (by grind : 0 ≤ 1 - y)
    grind
  generalize y * c = z at *
  have z2 := Rat.mul_nonneg yc (by grind : 0 ≤ 1 - s)
  grind
theorem ev_absT {t : Rat} (h0 : -1 ≤ t) (h1 : t ≤ 1) : ∀ p : List Rat, -(pabs p) ≤ ev p t ∧ ev p t ≤ pabs p ∧ 0 ≤ pabs p
  | [] => by show -(0 : Rat) ≤ 0 ∧ (0 : Rat) ≤ 0 ∧ (0 : Rat) ≤ 0; refine ⟨?_, ?_, ?_⟩ <;> grind
  | a :: p => by
    obtain ⟨i1, i2, i3⟩ := ev_absT h0 h1 p
    have key : -(pabs p) ≤ t * ev p t ∧ t * ev p t ≤ pabs p := by
      generalize ev p t = v at *
      generalize pabs p = P at *
      rcases Rat.le_total (a := 0) (b := t) with g | g
      · have k1 := Rat.mul_nonneg g (by grind : 0 ≤ P - v)
        have k2 := Rat.mul_nonneg g (by grind : 0 ≤ P + v)
        have k3 := Rat.mul_nonneg (by grind : 0 ≤ 1 - t) i3
        constructor <;> grind
      · have k1 := Rat.mul_nonneg (by grind : 0 ≤ -t) (by grind : 0 ≤ P - v)
        have k2 := Rat.mul_nonneg (by grind : 0 ≤ -t) (by grind : 0 ≤ P + v)
        have k3 := Rat.mul_nonneg (by grind : 0 ≤ 1 + t) i3
        constructor <;> grind
    obtain ⟨k1, k2⟩ := key
    show -((if a ≤ 0 then -a else a) + pabs p) ≤ a + t * ev p t ∧ a + t * ev p t ≤ (if a ≤ 0 then -a else a) + pabs p ∧ 0 ≤ (if a ≤ 0 then -a else a) + pabs p
    split
    · refine ⟨?_, ?_, ?_⟩ <;> grind
    · refine ⟨?_, ?_, ?_⟩ <;> grind
def pcomp (l : List Rat) : List Rat → List Rat
  | [] => []
  | a :: p => padd [a] (pmul l (pcomp l p))
def spr : List Rat → List Rat
  | [] => []
  | a :: p => a :: 0 :: spr p
theorem ev_comp (l : List Rat) (t : Rat) : ∀ p : List Rat, ev (pcomp l p) t = ev p (ev l t)
  | [] => rfl
  | a :: p => by
    have ih := ev_comp l t p
    show ev (padd [a] (pmul l (pcomp l p))) t = a + ev l t * ev p (ev l t)
    rw [ev_add, ev_mul, ih]
    show a + t * 0 + _ = _
    grind
theorem ev_spr (t : Rat) : ∀ p : List Rat, ev (spr p) t = ev p (t * t)
  | [] => rfl
  | a :: p => by
    have ih := ev_spr t p
    show a + t * (0 + t * ev (spr p) t) = a + t * t * ev p (t * t)
    rw [ih]; grind
def Hs : List Rat := serL 56 27
def Hc : List Rat := serL 55 27
def hS (t : Rat) : Rat := t * ev Hs (t * t)
def hC (t : Rat) : Rat := ev Hc (t * t)
def hq : Rat := 4591442807048218921384805199743311128454155024418 / 1461501637330902918203684832716283019655932542976
def hE : Rat := 1 / 1329227995784915872903807060280344576
def Hd1 : List Rat := padd (pscale 2 (pcomp [0, 4] Hs)) (pscale (-2) (pmul Hs Hc))
def Hd2 : List Rat := padd (pcomp [0, 4] Hc) (padd (pscale (-1) (pmul Hc Hc)) (0 :: pmul Hs Hs))
def Hl : List Rat := [-(hq / 2), 2]
def He1 : List Rat := padd (pcomp Hl (spr Hc)) (pscale (-2) (0 :: pmul (spr Hs) (spr Hc)))
def He2 : List Rat := padd (pmul Hl (pcomp Hl (spr Hs))) (padd (spr (pmul Hc Hc)) (pscale (-1) (0 :: 0 :: spr (pmul Hs Hs))))
theorem Hd1_ok : pabs Hd1 ≤ hE := by decide +kernel
theorem Hd2_ok : pabs Hd2 ≤ hE := by decide +kernel
theorem He1_ok : pabs He1 ≤ hE := by decide +kernel
theorem He2_ok : pabs He2 ≤ hE := by decide +kernel

def Nigh (a b : Rat) : Prop := ∃ w, 0 ≤ w ∧ (w ≤ a ∨ w ≤ -a) ∧ -w ≤ (a - b) * 36028797018963968 ∧ (a - b) * 36028797018963968 ≤ w
theorem Nigh.neg {a b : Rat} (h : Nigh a b) : Nigh (-a) (-b) := by
  obtain ⟨w, h0, h1, h2, h3⟩ := h
  refine ⟨w, h0, ?_, ?_, ?_⟩
  · rcases h1 with h1 | h1
    · exact Or.inr (by grind)
    · exact Or.inl (by grind)
  · grind
  · grind
theorem Nigh.of {a b e w : Rat} (h1 : w ≤ a ∨ w ≤ -a) (h2 : -e ≤ a - b) (h3 : a - b ≤ e) (h4 : e * 36028797018963968 ≤ w) : Nigh a b := by
  refine ⟨w, ?_, h1, ?_, ?_⟩
  · grind
  · grind
  · grind
theorem sq_unit {t : Rat} (h0 : -1 ≤ t) (h1 : t ≤ 1) : 0 ≤ t * t ∧ t * t ≤ 1 := by
  refine ⟨?_, ?_⟩
  · rcases Rat.le_total (a := 0) (b := t) with g | g
    · exact Rat.mul_nonneg g g
    · have := Rat.mul_nonneg (by grind : 0 ≤ -t) (by grind : 0 ≤ -t)
      grind
  · have := Rat.mul_nonneg (by grind : 0 ≤ 1 - t) (by grind : 0 ≤ 1 + t)
    grind
theorem Hs_facts {t : Rat} (h0 : -1 ≤ t) (h1 : t ≤ 1) : 1 / 2 ≤ ev Hs (t * t) ∧ ev Hs (t * t) ≤ 1 ∧ 1 / 2 ≤ ev Hc (t * t) ∧ ev Hc (t * t) ≤ 1 := by
  obtain ⟨y0, y1⟩ := sq_unit h0 h1
  exact ⟨serL_half y0 y1 26 (by decide), (serL_unit2 y0 y1 27 (by decide)).2, serL_half y0 y1 26 (by decide), (serL_unit2 y0 y1 27 (by decide)).2⟩
theorem hC_even (t : Rat) : hC (-t) = hC t := by
  unfold hC
  have : -t * -t = t * t := by grind
  rw [this]
theorem hS_odd (t : Rat) : hS (-t) = -hS t := by
  unfold hS
  have : -t * -t = t * t := by grind
  rw [this]; grind
theorem twice {t u : Rat} (e : u = 2 * t) (h0 : -1 ≤ u) (h1 : u ≤ 1) : Nigh (hS u) (2 * (hS t * hC t)) ∧ Nigh (hC u) (hC t * hC t - hS t * hS t) := by
  obtain ⟨s1, s2, c1, c2⟩ := Hs_facts h0 h1
  obtain ⟨y0, y1⟩ := sq_unit (by grind : -1 ≤ t) (by grind : t ≤ 1)
  have ey : u * u = ev [0, 4] (t * t) := by
    subst e
    show 2 * t * (2 * t) = 0 + t * t * (4 + t * t * 0)
    grind
  have a1 : ev Hd1 (t * t) = 2 * ev Hs (u * u) - 2 * (ev Hs (t * t) * ev Hc (t * t)) := by
    unfold Hd1
    rw [ev_add, ev_scale, ev_scale, ev_comp, ev_mul, ← ey]; grind
  have a2 : ev Hd2 (t * t) = ev Hc (u * u) - (ev Hc (t * t) * ev Hc (t * t)) + t * t * (ev Hs (t * t) * ev Hs (t * t)) := by
    unfold Hd2
    rw [ev_add, ev_add, ev_scale, ev_comp, ev_mul, ← ey]
    show _ + (_ + (0 + t * t * ev (pmul Hs Hs) (t * t))) = _
    rw [ev_mul]; grind
  obtain ⟨p1, p2, _⟩ := ev_abs y0 y1 Hd1
  obtain ⟨p3, p4, _⟩ := ev_abs y0 y1 Hd2
  have o1 := Hd1_ok
  have o2 := Hd2_ok
  rw [a1] at p1 p2
  rw [a2] at p3 p4
  unfold hS hC
  generalize pabs Hd1 = P at *
  generalize pabs Hd2 = Q at *
  generalize ev Hs (u * u) = S at *
  generalize ev Hc (u * u) = C at *
  generalize ev Hs (t * t) = s at *
  generalize ev Hc (t * t) = c at *
  have hE' : hE = 1 / 1329227995784915872903807060280344576 := rfl
  refine ⟨?_, Nigh.of (w := 1 / 2) (Or.inl (by grind)) (e := hE) (by grind) (by grind) (by rw [hE']; decide +kernel)⟩
  subst e
  rcases Rat.le_total (a := 0) (b := t) with g | g
  · have k1 := Rat.mul_nonneg g (by grind : 0 ≤ hE - (2 * S - 2 * (s * c)))
    have k2 := Rat.mul_nonneg g (by grind : 0 ≤ hE + (2 * S - 2 * (s * c)))
    have k3 := Rat.mul_nonneg g (by grind : 0 ≤ S - 1 / 2)
    refine Nigh.of (w := t) (Or.inl (by grind)) (e := t * hE) (by grind) (by grind) ?_
    have k4 := Rat.mul_nonneg g (by rw [hE']; decide +kernel : 0 ≤ 1 - hE * 36028797018963968)
    grind
  · have k1 := Rat.mul_nonneg (by grind : 0 ≤ -t) (by grind : 0 ≤ hE - (2 * S - 2 * (s * c)))
    have k2 := Rat.mul_nonneg (by grind : 0 ≤ -t) (by grind : 0 ≤ hE + (2 * S - 2 * (s * c)))
    have k3 := Rat.mul_nonneg (by grind : 0 ≤ -t) (by grind : 0 ≤ S - 1 / 2)
    refine Nigh.of (w := -t) (Or.inr (by grind)) (e := -t * hE) (by grind) (by grind) ?_
    have k4 := Rat.mul_nonneg (by grind : 0 ≤ -t) (by rw [hE']; decide +kernel : 0 ≤ 1 - hE * 36028797018963968)
    grind
theorem less_quarter {t u : Rat} (e : u = 2 * t - hq / 2) (t0 : -1 ≤ t) (t1 : t ≤ 1) (h0 : -1 ≤ u) (h1 : u ≤ 1) (g : 1 / 9007199254740992 ≤ u ∨ 1 / 9007199254740992 ≤ -u) :
    Nigh (hC u) (2 * (hS t * hC t)) ∧ Nigh (-hS u) (hC t * hC t - hS t * hS t) := by
  obtain ⟨s1, s2, c1, c2⟩ := Hs_facts h0 h1
  have el : ev Hl t = u := by
    subst e
    show -(hq / 2) + t * (2 + t * 0) = 2 * t - hq / 2
    grind
  have a1 : ev He1 t = ev Hc (u * u) - 2 * (t * ev Hs (t * t) * ev Hc (t * t)) := by
    unfold He1
    rw [ev_add, ev_scale, ev_comp, el, ev_spr]
    show _ + -2 * (0 + t * ev (pmul (spr Hs) (spr Hc)) t) = _
    rw [ev_mul, ev_spr, ev_spr]; grind
  have a2 : ev He2 t = u * ev Hs (u * u) + ev Hc (t * t) * ev Hc (t * t) - t * ev Hs (t * t) * (t * ev Hs (t * t)) := by
    unfold He2
    rw [ev_add, ev_add, ev_scale, ev_mul, ev_comp, el, ev_spr, ev_spr, ev_mul]
    show _ + (_ + -1 * (0 + t * (0 + t * ev (spr (pmul Hs Hs)) t))) = _
    rw [ev_spr, ev_mul]; grind
  obtain ⟨p1, p2, _⟩ := ev_absT t0 t1 He1
  obtain ⟨p3, p4, _⟩ := ev_absT t0 t1 He2
  have o1 := He1_ok
  have o2 := He2_ok
  rw [a1] at p1 p2
  rw [a2] at p3 p4
  unfold hS hC
  generalize pabs He1 = P at *
  generalize pabs He2 = Q at *
  generalize ev Hs (u * u) = S at *
  generalize ev Hc (u * u) = C at *
  generalize ev Hs (t * t) = s at *
  generalize ev Hc (t * t) = c at *
  have hE' : hE = 1 / 1329227995784915872903807060280344576 := rfl
  refine ⟨Nigh.of (w := 1 / 2) (Or.inl (by grind)) (e := hE) (by grind) (by grind) (by rw [hE']; decide +kernel), ?_⟩
  refine Nigh.of (w := 1 / 18014398509481984) ?_ (e := hE) (by grind) (by grind) (by rw [hE']; decide +kernel)
  rcases g with g | g
  · have k := Rat.mul_nonneg (by grind : 0 ≤ u) (by grind : 0 ≤ S - 1 / 2)
    exact Or.inr (by grind)
  · have k := Rat.mul_nonneg (by grind : 0 ≤ -u) (by grind : 0 ≤ S - 1 / 2)
    exact Or.inl (by grind)
theorem more_quarter {t u : Rat} (e : u = 2 * t + hq / 2) (t0 : -1 ≤ t) (t1 : t ≤ 1) (h0 : -1 ≤ u) (h1 : u ≤ 1) (g : 1 / 9007199254740992 ≤ u ∨ 1 / 9007199254740992 ≤ -u) :
    Nigh (hC u) (-(2 * (hS t * hC t))) ∧ Nigh (hS u) (hC t * hC t - hS t * hS t) := by
  obtain ⟨a, b⟩ := less_quarter (t := -t) (u := -u) (by rw [e]; grind) (by grind) (by grind) (by grind) (by grind) (by
    rcases g with g | g
    · exact Or.inr (by grind)
    · exact Or.inl g)
  rw [hC_even, hC_even, hS_odd] at a
  rw [hS_odd, hC_even, hS_odd] at b
  refine ⟨?_, ?_⟩
  · have e1 : 2 * (-hS t * hC t) = -(2 * (hS t * hC t)) := by grind
    rw [← e1]; exact a
  · have e1 : hC t * hC t - -hS t * -hS t = hC t * hC t - hS t * hS t := by grind
    have e2 : - -hS u = hS u := by grind
    rw [e1, e2] at b
    exact b
end
section
open Go.RowKit

theorem nW_val : ∀ k, k < 21 → val (nW k) = ((k : Int) * ((k : Int) + 1)) * SS := by decide +kernel
theorem nW_has {k : Nat} (h : k < 21) : HasQ (oneR (nW k)) (kk k) := HasQ.lit (nW_val k h) rfl
theorem hasQ_one : HasQ (oneR u1) 1 := HasQ.lit (k := 1) (by decide +kernel) rfl
theorem up_one {c : Nat} (lc : c < 18446744073709551616) (rc : rightB c = true) (h : val c * 18014398509481984 ≤ 18014398509481985 * SS) : val c ≤ SS := by
  have e1 : SS = ((steps 4607182418800017408 : Nat) : Int) := by decide +kernel
  have e2 : 18014398509481985 * SS < ((steps 4607182418800017409 : Nat) : Int) * 18014398509481984 := by decide +kernel
  have s0 := SS0
  rcases Int.lt_or_le SS (val c) with g | g
  · exfalso
    have sg : sgnB c = false := by
      cases k : sgnB c
      · rfl
      · have := (val_neg c lc rc).2 k; omega
    rw [val_pos sg] at h g
    rcases Nat.lt_or_ge 4607182418800017408 (rung c) with k | k
    · have := steps_le (by omega : 4607182418800017409 ≤ rung c)
      omega
    · have := steps_le k
      omega
  · exact g
theorem down_one {c : Nat} (lc : c < 18446744073709551616) (rc : rightB c = true) (h : 18014398509481983 * SS ≤ val c * 18014398509481984) : SS ≤ val c := by
  have e1 : SS = ((steps 4607182418800017408 : Nat) : Int) := by decide +kernel
  have e2 : ((steps 4607182418800017407 : Nat) : Int) * 18014398509481984 < 18014398509481983 * SS := by decide +kernel
  have s0 := SS0
  rcases Int.lt_or_le (val c) SS with g | g
  · exfalso
    have sg : sgnB c = false := by
      cases k : sgnB c
      · rfl
      · have := (val_neg c lc rc).2 k; omega
    rw [val_pos sg] at h g
    rcases Nat.lt_or_ge (rung c) 4607182418800017408 with k | k
    · have := steps_le (by omega : rung c ≤ 4607182418800017407)
      omega
    · have := steps_le k
      omega
  · exact g

theorem HasQ.neg {r : Res} {x : Rat} (fr : Fit r) (h : HasQ r x) : HasQ (negR r) (-x) := by
  obtain ⟨_, _, l⟩ := turn_facts r.lo fr.lo fr.rlo
  obtain ⟨_, _, u⟩ := turn_facts r.hi fr.hi fr.rhi
  have e1 : (negR r).lo = turnW r.hi := rfl
  have e2 : (negR r).hi = turnW r.lo := rfl
  have a := h.low
  have b := h.high
  refine ⟨?_, ?_⟩
  · rw [e1, u, Rat.intCast_neg]; grind
  · rw [e2, l, Rat.intCast_neg]; grind
theorem HasQ.hull {a b : Res} {x : Rat} (fa : Fit a) (fb : Fit b) (h : HasQ a x) : HasQ (hullR a b) x := by
  obtain ⟨_, _, l⟩ := min_facts a.lo b.lo fa.lo fb.lo fa.rlo fb.rlo
  obtain ⟨_, _, u⟩ := max_facts a.hi b.hi fa.hi fb.hi fa.rhi fb.rhi
  have e1 : (hullR a b).lo = minW a.lo b.lo := rfl
  have e2 : (hullR a b).hi = maxW a.hi b.hi := rfl
  refine ⟨Rat.le_trans (Rat.intCast_le_intCast.2 ?_) h.low, Rat.le_trans h.high (Rat.intCast_le_intCast.2 ?_)⟩
  · rw [e1, l]; omega
  · rw [e2, u]; omega
theorem m1_val : val m1 = -SS := by decide +kernel
theorem u1_val : val u1 = SS := by decide +kernel
theorem HasQ.bound {r : Res} {x : Rat} (fr : Fit r) (h : HasQ r x) (h1 : -1 ≤ x) (h2 : x ≤ 1) : HasQ (boundR r) x := by
  obtain ⟨_, _, l⟩ := max_facts r.lo m1 fr.lo (by decide) fr.rlo (by decide)
  obtain ⟨_, _, u⟩ := min_facts r.hi u1 fr.hi (by decide) fr.rhi (by decide)
  have S := Rat.le_of_lt ssQ
  have a := h.low
  have b := h.high
  have k1 := Rat.mul_le_mul_of_nonneg_right h1 S
  have k2 := Rat.mul_le_mul_of_nonneg_right h2 S
  rw [Rat.one_mul] at k2
  have k1' : (((-SS : Int)) : Rat) ≤ x * ((SS : Int) : Rat) := by rw [Rat.intCast_neg]; grind
  have x1 : val r.lo ≤ SS := Rat.intCast_le_intCast.1 (Rat.le_trans a k2)
  have x2 : -SS ≤ val r.hi := Rat.intCast_le_intCast.1 (Rat.le_trans k1' b)
  have fl := fr.le
  have s0 := SS0
  have hb : bothB r.lo r.hi m1 u1 = true := by
    show leB (maxW r.lo m1) (minW r.hi u1) = true
    unfold leB
    rw [l, u, m1_val, u1_val]
    exact decide_eq_true (by omega)
  have e1 : (boundR r).lo = if bothB r.lo r.hi m1 u1 then maxW r.lo m1 else 0 := rfl
  have e2 : (boundR r).hi = if bothB r.lo r.hi m1 u1 then minW r.hi u1 else 0 := rfl
  rw [hb, if_pos rfl] at e1 e2
  refine ⟨?_, ?_⟩
  · rw [e1, l, m1_val]
    rcases Int.le_total (val r.lo) (-SS) with g | g
    · rw [Int.max_eq_right g]; exact k1'
    · rw [Int.max_eq_left g]; exact a
  · rw [e2, u, u1_val]
    rcases Int.le_total (val r.hi) SS with g | g
    · rw [Int.min_eq_left g]; exact b
    · rw [Int.min_eq_right g]; exact k2

theorem bigT_unit : -SS ≤ val bigT.lo ∧ val bigT.hi ≤ SS := by decide +kernel
theorem HasQ.end {r : Res} (fr : Fit r) : HasQ r (((val r.lo : Int) : Rat) / ((SS : Int) : Rat)) := by
  have S := ssQ
  have e : ((val r.lo : Int) : Rat) / ((SS : Int) : Rat) * ((SS : Int) : Rat) = ((val r.lo : Int) : Rat) := by grind
  exact ⟨by rw [e]; exact Rat.le_refl, by rw [e]; exact Rat.intCast_le_intCast.2 fr.le⟩
theorem sin_fits' {al ah : Nat} (t1 : Turn al) (t2 : Turn ah) : Fit (sin2 al ah) ∧ Fit (sin3 al ah) ∧ Fit (sinU al ah) ∧ Fit (cos2 al ah) ∧ Fit (cosU al ah) := by
  have f2 := hull_fit (sinR_facts t1).1 (sinR_facts t2).1
  have g2 := hull_fit (cosR_facts t1).1 (cosR_facts t2).1
  have f3 : Fit (sin3 al ah) := by
    unfold sin3
    cases hasB al ah 4598175219545276416
    · exact f2
    · exact hull_fit f2 u1_fit
  refine ⟨f2, f3, ?_, g2, ?_⟩
  · unfold sinU
    cases hasB al ah 4604930618986332160
    · exact f3
    · exact hull_fit f3 m1_fit
  · unfold cosU
    cases hasB al ah 4602678819172646912
    · exact g2
    · exact hull_fit g2 m1_fit
theorem sinU_has {al ah : Nat} (t1 : Turn al) (t2 : Turn ah) {s c : Rat} (h : HasQ (sinR al) s) (k : HasQ (cosR al) c) : HasQ (sinU al ah) s ∧ HasQ (cosU al ah) c := by
  obtain ⟨f2, f3, _, g2, _⟩ := sin_fits' t1 t2
  have h2 : HasQ (sin2 al ah) s := h.hull (sinR_facts t1).1 (sinR_facts t2).1
  have k2 : HasQ (cos2 al ah) c := k.hull (cosR_facts t1).1 (cosR_facts t2).1
  have h3 : HasQ (sin3 al ah) s := by
    unfold sin3
    cases hasB al ah 4598175219545276416
    · exact h2
    · exact h2.hull f2 u1_fit
  refine ⟨?_, ?_⟩
  · unfold sinU
    cases hasB al ah 4604930618986332160
    · exact h3
    · exact h3.hull f3 m1_fit
  · unfold cosU
    cases hasB al ah 4602678819172646912
    · exact k2
    · exact k2.hull g2 m1_fit
def wideR : Res := ⟨0, m1, u1⟩
theorem wide_fits : Fit wideR ∧ Fit (sqrR wideR) ∧ Fit (addR (sqrR wideR) (sqrR wideR)) := ⟨.of (by decide +kernel), .of (by decide +kernel), .of (by decide +kernel)⟩
end
section
open Go.RowKit

theorem ser_has2 {y : Res} {m r : Nat} {Y : Rat} (hm : m = 19 ∨ m = 20) (hr : 1 ≤ r) (h0 : bigOk0 m = true) (hk : ∀ i, i < 9 → bigOk m i = true) (hy : In y bigY) (q : HasQ y Y) (Y0 : 0 ≤ Y) (Y1 : Y ≤ 1) :
    ∀ i, i ≤ 9 → HasQ (serN y m i) (ev (serL (m + 2 * r) (i + r)) Y) := by
  have pos : ∀ k, k < 21 → 1 ≤ k → 0 < val (oneR (nW k)).lo := fun k h1 h2 => by
    have e : val (oneR (nW k)).lo = ((k : Int) * ((k : Int) + 1)) * SS := nW_val k h1
    rw [e]
    exact Int.mul_pos (Int.mul_pos (by omega) (by omega)) SS0
  intro i
  induction i with
  | zero =>
    intro _
    obtain ⟨s1, s2, s3⟩ := start_in h0 hy
    have b0 := h0
    unfold bigOk0 at b0
    simp only [Bool.and_eq_true, decide_eq_true_eq] at b0
    obtain ⟨⟨⟨a, b⟩, c⟩, d⟩ := b0
    have t := HasQ.div hy.fit (.of a) q (nW_has (k := m) (by omega)) (pos m (by omega) (by omega)) s2.fit.e
    have u := HasQ.sub u1_fit s2.fit hasQ_one t s3.fit.e
    obtain ⟨n, rfl⟩ : ∃ n, r = n + 1 := ⟨r - 1, by omega⟩
    have S := ssQ
    have k1 := kk_one (by omega : 1 ≤ m)
    have l := u.low
    have h := hasQ_one.high
    obtain ⟨v1, v2⟩ := serL_unit2 (m := m + 2 * (n + 1)) Y0 Y1 n (by omega)
    have e1 : ev (serL (m + 2 * (n + 1)) (0 + (n + 1))) Y = 1 - Y / kk m * ev (serL (m + 2 * (n + 1)) n) Y := by
      rw [Nat.zero_add, serL_ev, show m + 2 * (n + 1) - 2 - 2 * n = m by omega]
    have t0 : 0 ≤ Y / kk m := by rw [Rat.div_def]; exact Rat.mul_nonneg Y0 (Rat.le_of_lt (Rat.inv_pos.2 (by grind)))
    have z1 := Rat.mul_nonneg t0 v1
    have z2 := Rat.mul_nonneg t0 (by grind : 0 ≤ 1 - ev (serL (m + 2 * (n + 1)) n) Y)
    refine ⟨?_, ?_⟩
    · show ((val (subR (oneR u1) (termR y m)).lo : Int) : Rat) ≤ _
      rw [e1]
      exact Rat.le_trans l (Rat.mul_le_mul_of_nonneg_right (by grind) (Rat.le_of_lt S))
    · rw [e1]
      exact Rat.le_trans (Rat.mul_le_mul_of_nonneg_right (by grind) (Rat.le_of_lt S)) h
  | succ i ih =>
    intro hi
    obtain ⟨f1, f2, f3, f4⟩ := serRound_in h0 hk hy i (by omega)
    obtain ⟨g1, _⟩ := big_parts (hk i (by omega))
    have t := HasQ.div hy.fit g1 q (nW_has (k := m - 2 - 2 * i) (by omega)) (pos _ (by omega) (by omega)) f1.e
    have u := HasQ.mul f1 f3 t (ih (by omega)) f2.e
    have v := HasQ.sub u1_fit f2 hasQ_one u f4.e
    refine v.turn ?_
    rw [show i + 1 + r = (i + r) + 1 by omega, serL_ev, show m + 2 * r - 2 - 2 * (i + r) = m - 2 - 2 * i by omega]
theorem hq_pi : HasQ piR hq := ⟨by decide +kernel, by decide +kernel⟩
theorem quart_val : ∀ j, j ≤ 4 → 4 * val (quartW j) = (j : Int) * SS := by decide +kernel
theorem quart_has {j : Nat} (h : j ≤ 4) : HasQ (oneR (quartW j)) (((j : Int) : Rat) / 4) := by
  have e := congrArg (fun z : Int => (z : Rat)) (quart_val j h)
  rw [Rat.intCast_mul, Rat.intCast_mul] at e
  have S := ssQ
  refine (HasQ.one (quartW j)).turn ?_
  have e4 : (((4 : Int)) : Rat) = 4 := rfl
  rw [e4] at e
  grind
def hX (x : Nat) : Rat := ((val x : Int) : Rat) / ((SS : Int) : Rat)
def hT (x j : Nat) : Rat := 2 * hq * (hX x - ((j : Int) : Rat) / 4)
def sQ (s c : Rat) : Nat → Rat
  | 1 => c | 2 => -s | 3 => -c | _ => s
def cQ (s c : Rat) : Nat → Rat
  | 1 => -s | 2 => -c | 3 => s | _ => c
theorem turn_has {x : Nat} (h : Turn x) : (-1 ≤ hT x (qN x) ∧ hT x (qN x) ≤ 1) ∧ HasQ (sinR x) (sQ (hS (hT x (qN x))) (hC (hT x (qN x))) (qN x)) ∧ HasQ (cosR x) (cQ (hS (hT x (qN x))) (hC (hT x (qN x))) (qN x)) := by
  have ia := angle_in h
  have iy := square_in h
  have S := ssQ
  have ends := ends_ok4 (qN x) (qN_le x)
  simp only [Bool.and_eq_true] at ends
  have fx : Fit (oneR x) := one_fit h.lt h.right
  have b := HasQ.sub fx (.of ends.1.1.1.2) (HasQ.one x) (quart_has (qN_le x)) (beyond_in h).fit.e
  have p := HasQ.add big_fit.1 big_fit.1 hq_pi hq_pi big_fit.2.1.e
  have q : HasQ (angleR x (qN x)) (hT x (qN x)) := (HasQ.mul big_fit.2.1 (beyond_in h).fit p b ia.fit.e).turn (by unfold hT hX; grind)
  generalize hT x (qN x) = t at *
  have t1 : -1 ≤ t ∧ t ≤ 1 := by
    have l := ia.lo
    have u := ia.hi
    obtain ⟨b1, b2⟩ := bigT_unit
    have c1 : ((-SS : Int) : Rat) ≤ t * ((SS : Int) : Rat) := Rat.le_trans (Rat.intCast_le_intCast.2 (by omega)) q.low
    have c2 : t * ((SS : Int) : Rat) ≤ ((SS : Int) : Rat) := Rat.le_trans q.high (Rat.intCast_le_intCast.2 (by omega))
    rw [Rat.intCast_neg] at c1
    refine ⟨Rat.le_of_mul_le_mul_right (c := ((SS : Int) : Rat)) (by grind) S, Rat.le_of_mul_le_mul_right (c := ((SS : Int) : Rat)) (by rw [Rat.one_mul]; exact c2) S⟩
  obtain ⟨y0, y1⟩ := sq_unit t1.1 t1.2
  have qy := HasQ.sqr ia.fit q iy.fit.e
  have a := ser_has2 (r := 18) (Or.inr rfl) (by decide) ok20.1 ok20.2 iy qy y0 y1 9 (by decide)
  have b' := ser_has2 (r := 18) (Or.inl rfl) (by decide) ok19.1 ok19.2 iy qy y0 y1 9 (by decide)
  have sa := HasQ.mul ia.fit (ser_in ok20.1 ok20.2 iy 9 (by decide)).fit q a (sinS_in h).fit.e
  obtain ⟨u1', u2', v1', v2'⟩ := Hs_facts t1.1 t1.2
  have fs : Fit (sinS (angleR x (qN x))) := (sinS_in h).fit
  have fc : Fit (cosS (angleR x (qN x))) := (cosS_in h).fit
  have sb : HasQ (cosS (angleR x (qN x))) (hC t) := b'
  replace sa : HasQ (sinS (angleR x (qN x))) (hS t) := sa
  refine ⟨t1, ?_⟩
  have w : -1 ≤ hS t ∧ hS t ≤ 1 := by
    unfold hS
    have k1 := Rat.mul_nonneg (by grind : 0 ≤ 1 + t) (by grind : 0 ≤ ev Hs (t * t))
    have k2 := Rat.mul_nonneg (by grind : 0 ≤ 1 - t) (by grind : 0 ≤ ev Hs (t * t))
    constructor <;> grind
  have wc : 1 / 2 ≤ hC t ∧ hC t ≤ 1 := ⟨v1', v2'⟩
  generalize hS t = s at *
  generalize hC t = c at *
  have es : sinR x = boundR (sinT (sinS (angleR x (qN x))) (cosS (angleR x (qN x))) (qN x)) := rfl
  have ec : cosR x = boundR (cosT (sinS (angleR x (qN x))) (cosS (angleR x (qN x))) (qN x)) := rfl
  rw [es, ec]
  generalize sinS (angleR x (qN x)) = A at *
  generalize cosS (angleR x (qN x)) = B at *
  have base : HasQ (boundR A) s := sa.bound fs w.1 w.2
  have basc : HasQ (boundR B) c := sb.bound fc (by grind) (by grind)
  have nega : HasQ (boundR (negR A)) (-s) := (sa.neg fs).bound (neg_fit fs) (by grind) (by grind)
  have negc : HasQ (boundR (negR B)) (-c) := (sb.neg fc).bound (neg_fit fc) (by grind) (by grind)
  generalize qN x = j
  match j with
  | 0 => exact ⟨base, basc⟩
  | 1 => exact ⟨basc, nega⟩
  | 2 => exact ⟨nega, negc⟩
  | 3 => exact ⟨negc, base⟩
  | _ + 4 => exact ⟨base, basc⟩

theorem step_part {r s : Nat} (h : r < s) : (steps s : Int) ≤ ((steps s : Int) - (steps r : Int)) * 9007199254740992 := by
  obtain ⟨p, rfl⟩ : ∃ p, s = p + 1 := ⟨s - 1, by omega⟩
  have l := steps_le (by omega : r ≤ p)
  rw [steps_succ]
  have k : steps p + 1 * 2 ^ (p / 4503599627370496 - 1) ≤ 9007199254740992 * 2 ^ (p / 4503599627370496 - 1) := by
    unfold steps
    split
    · rename_i g
      rw [g]; show p + 1 * 1 ≤ 9007199254740992 * 1; omega
    · rw [← Nat.add_mul]
      exact Nat.mul_le_mul_right _ (by omega)
  generalize 2 ^ (p / 4503599627370496 - 1) = G at *
  generalize steps p = P at *
  generalize steps r = R at *
  omega
theorem apart {a b : Nat} (la : a < 18446744073709551616) (lb : b < 18446744073709551616) (ra : rightB a = true) (rb : rightB b = true) (h : val a < val b) :
    val a ≤ (val b - val a) * 9007199254740992 ∧ -val a ≤ (val b - val a) * 9007199254740992 ∧ val b ≤ (val b - val a) * 9007199254740992 ∧ -val b ≤ (val b - val a) * 9007199254740992 := by
  cases sa : sgnB a <;> cases sb : sgnB b
  · rw [val_pos sa, val_pos sb] at *
    have k : rung a < rung b := by
      rcases Nat.lt_or_ge (rung a) (rung b) with g | g
      · exact g
      · have := steps_le g; omega
    have := step_part k
    omega
  · have h1 := (val_neg b lb rb).2 sb
    have h2 : ¬ val a < 0 := fun g => by rw [(val_neg a la ra).1 g] at sa; exact absurd sa (by decide)
    omega
  · have h1 := (val_neg a la ra).2 sa
    have h2 : ¬ val b < 0 := fun g => by rw [(val_neg b lb rb).1 g] at sb; exact absurd sb (by decide)
    omega
  · rw [val_negs sa, val_negs sb] at *
    have k : rung b < rung a := by
      rcases Nat.lt_or_ge (rung b) (rung a) with g | g
      · exact g
      · have := steps_le g; omega
    have := step_part k
    omega
theorem nigh_meet {r s : Res} {a b : Rat} (fr : Fit r) (fs : Fit s) (h : HasQ r a) (k : HasQ s b) (n : Nigh a b) : val r.lo ≤ val s.hi ∧ val s.lo ≤ val r.hi := by
  obtain ⟨w, w0, w1, w2, w3⟩ := n
  have S := ssQ
  have hl := h.low
  have hh := h.high
  have kl := k.low
  have kh := k.high
  have P0 := Rat.le_of_lt S
  have z2 := Rat.mul_nonneg (by grind : 0 ≤ w + (a - b) * 36028797018963968) P0
  have z3 := Rat.mul_nonneg (by grind : 0 ≤ w - (a - b) * 36028797018963968) P0
  have z1 : w * ((SS : Int) : Rat) ≤ a * ((SS : Int) : Rat) ∨ w * ((SS : Int) : Rat) ≤ -(a * ((SS : Int) : Rat)) := by
    rcases w1 with g | g
    · exact Or.inl (Rat.mul_le_mul_of_nonneg_right g P0)
    · refine Or.inr ?_
      have := Rat.mul_le_mul_of_nonneg_right g P0
      grind
  have y2 : -(w * ((SS : Int) : Rat)) ≤ (a * ((SS : Int) : Rat) - b * ((SS : Int) : Rat)) * 36028797018963968 := by grind
  have y3 : (a * ((SS : Int) : Rat) - b * ((SS : Int) : Rat)) * 36028797018963968 ≤ w * ((SS : Int) : Rat) := by grind
  clear z2 z3 w0 w1 w2 w3 h k
  generalize w * ((SS : Int) : Rat) = W at *
  generalize a * ((SS : Int) : Rat) = A at *
  generalize b * ((SS : Int) : Rat) = B at *
  have cast : ∀ {x y : Int}, x ≤ y * 9007199254740992 → (x : Rat) ≤ (y : Rat) * 9007199254740992 := fun {x y} h => by
    have := Rat.intCast_le_intCast.2 h
    rw [Rat.intCast_mul] at this
    exact this
  refine ⟨?_, ?_⟩
  · rcases Int.lt_or_le (val s.hi) (val r.lo) with g | g
    · exfalso
      obtain ⟨_, _, g3, g4⟩ := apart fs.hi fr.lo fs.rhi fr.rlo g
      have p := Rat.intCast_lt_intCast.2 g
      have c3 := cast g3
      have c4 := cast g4
      rw [Rat.intCast_sub] at c3 c4
      rw [Rat.intCast_neg] at c4
      generalize ((val s.hi : Int) : Rat) = H at *
      generalize ((val r.lo : Int) : Rat) = L at *
      rcases z1 with z1 | z1 <;> grind
    · exact g
  · rcases Int.lt_or_le (val r.hi) (val s.lo) with g | g
    · exfalso
      obtain ⟨g1, g2, _, _⟩ := apart fr.hi fs.lo fr.rhi fs.rlo g
      have p := Rat.intCast_lt_intCast.2 g
      have c1 := cast g1
      have c2 := cast g2
      rw [Rat.intCast_sub] at c1 c2
      rw [Rat.intCast_neg] at c2
      generalize ((val r.hi : Int) : Rat) = H at *
      generalize ((val s.lo : Int) : Rat) = L at *
      rcases z1 with z1 | z1 <;> grind
    · exact g

theorem eighth_val : 8 * val (eighth 0) = SS ∧ 8 * val (eighth 1) = 3 * SS ∧ 8 * val (eighth 2) = 5 * SS ∧ 8 * val (eighth 3) = 7 * SS := by decide +kernel
theorem eighth_next : SS ≤ ((steps (eighth 0) : Int) - (steps (eighth 0 - 1) : Int)) * 72057594037927936 ∧ SS ≤ ((steps (eighth 0 + 1) : Int) - (steps (eighth 0) : Int)) * 72057594037927936 ∧
    SS ≤ ((steps (eighth 1) : Int) - (steps (eighth 1 - 1) : Int)) * 72057594037927936 ∧ SS ≤ ((steps (eighth 1 + 1) : Int) - (steps (eighth 1) : Int)) * 72057594037927936 := by decide +kernel
theorem eighth_pos : (sgnB (eighth 0) = false ∧ rung (eighth 0) = eighth 0) ∧ (sgnB (eighth 1) = false ∧ rung (eighth 1) = eighth 1) := by decide
theorem off_eighth {x e : Nat} (h : Turn x) (se : sgnB e = false) (re : rung e = e) (n1 : SS ≤ ((steps e : Int) - (steps (e - 1) : Int)) * 72057594037927936) (n2 : SS ≤ ((steps (e + 1) : Int) - (steps e : Int)) * 72057594037927936) (e0 : 0 < e) (ne : val x ≠ val e) :
    SS ≤ (val e - val x) * 72057594037927936 ∨ SS ≤ (val x - val e) * 72057594037927936 := by
  have sx : sgnB x = false := by
    cases k : sgnB x
    · rfl
    · have := (val_neg x h.lt h.right).2 k
      have := h.lo
      omega
  rw [val_pos sx, val_pos se, re] at *
  rcases Nat.lt_or_ge (rung x) e with g | g
  · have := steps_le (by omega : rung x ≤ e - 1)
    exact Or.inl (by omega)
  · rcases Nat.lt_or_ge e (rung x) with g' | g'
    · have := steps_le (by omega : e + 1 ≤ rung x)
      exact Or.inr (by omega)
    · exact absurd (by rw [show rung x = e by omega]) ne
def hR : Rat := 7071067811865475244 / 10000000000000000000
theorem at_eighth0 : HasQ (sinR (eighth 0)) hR ∧ HasQ (cosR (eighth 0)) hR ∧ HasQ (sinR (quartW 1)) 1 ∧ HasQ (cosR (quartW 1)) 0 := ⟨⟨by decide +kernel, by decide +kernel⟩, ⟨by decide +kernel, by decide +kernel⟩, ⟨by decide +kernel, by decide +kernel⟩, ⟨by decide +kernel, by decide +kernel⟩⟩
theorem at_eighth1 : HasQ (sinR (eighth 1)) hR ∧ HasQ (cosR (eighth 1)) (-hR) ∧ HasQ (sinR (quartW 3)) (-1) ∧ HasQ (cosR (quartW 3)) 0 := ⟨⟨by decide +kernel, by decide +kernel⟩, ⟨by decide +kernel, by decide +kernel⟩, ⟨by decide +kernel, by decide +kernel⟩, ⟨by decide +kernel, by decide +kernel⟩⟩
theorem root_nigh : Nigh 1 (2 * (hR * hR)) := ⟨1, by decide +kernel, Or.inl (by decide +kernel), by decide +kernel, by decide +kernel⟩
theorem nil_nigh {b : Rat} (h : b = 0) : Nigh 0 b := ⟨0, by grind, Or.inl (by grind), by grind, by grind⟩
structure Dbl (x x' : Nat) (s c s' c' : Rat) : Prop where
  hs : HasQ (sinR x) s
  hc : HasQ (cosR x) c
  hs' : HasQ (sinR x') s'
  hc' : HasQ (cosR x') c'
  n : Nigh s' (2 * (s * c))
  m : Nigh c' (c * c - s * s)
theorem Nigh.as {a b a' b' : Rat} (h : Nigh a b) (e : a = a') (k : b = b') : Nigh a' b' := by subst e k; exact h
theorem hX_twice {x x' : Nat} (h : val x' = 2 * val x) : hX x' = 2 * hX x := by
  unfold hX
  rw [h, Rat.intCast_mul]
  have : (((2 : Int)) : Rat) = 2 := rfl
  rw [this]
  have S := ssQ
  grind
theorem hq_big : 3 ≤ hq := by decide +kernel
theorem far_angle {x e : Nat} {E : Rat} (he : ((val e : Int) : Rat) = E * ((SS : Int) : Rat)) (h : SS ≤ (val e - val x) * 72057594037927936 ∨ SS ≤ (val x - val e) * 72057594037927936) :
    1 / 9007199254740992 ≤ 4 * hq * (hX x - E) ∨ 1 / 9007199254740992 ≤ -(4 * hq * (hX x - E)) := by
  have S := ssQ
  have q := hq_big
  have e1 : hX x * ((SS : Int) : Rat) = ((val x : Int) : Rat) := by unfold hX; grind
  have key : 1 / 72057594037927936 ≤ hX x - E ∨ 1 / 72057594037927936 ≤ -(hX x - E) := by
    rcases h with h | h
    · refine Or.inr ?_
      have c := Rat.intCast_le_intCast.2 h
      rw [Rat.intCast_mul, Rat.intCast_sub, he, ← e1, show ((72057594037927936 : Int) : Rat) = 72057594037927936 from rfl] at c
      refine Rat.le_of_mul_le_mul_right (c := ((SS : Int) : Rat)) ?_ S
      grind
    · refine Or.inl ?_
      have c := Rat.intCast_le_intCast.2 h
      rw [Rat.intCast_mul, Rat.intCast_sub, he, ← e1, show ((72057594037927936 : Int) : Rat) = 72057594037927936 from rfl] at c
      refine Rat.le_of_mul_le_mul_right (c := ((SS : Int) : Rat)) ?_ S
      grind
  generalize hX x - E = d at *
  clear he e1 h S
  rcases key with k | k
  · have := Rat.mul_nonneg (by grind : 0 ≤ hq - 3) (by grind : 0 ≤ d)
    exact Or.inl (by grind)
  · have := Rat.mul_nonneg (by grind : 0 ≤ hq - 3) (by grind : 0 ≤ -d)
    exact Or.inr (by grind)
theorem double {x x' : Nat} (h : Turn x) (h' : Turn x') (e : val x' = 2 * val x) : ∃ s c s' c' : Rat, Dbl x x' s c s' c' := by
  obtain ⟨a0, a1, a2, a3⟩ := eighth_val
  obtain ⟨b1, b2, b3, b4⟩ := eighth_next
  obtain ⟨⟨p1, p2⟩, p3, p4⟩ := eighth_pos
  have S := ssQ
  by_cases g0 : val x = val (eighth 0)
  · have ex := val_inj h.lt (by decide) h.right (by decide) g0
    have ex' : x' = quartW 1 := val_inj h'.lt (by decide) h'.right (by decide) (by have := quart_val 1 (by decide); omega)
    subst ex
    subst ex'
    obtain ⟨k1, k2, k3, k4⟩ := at_eighth0
    exact ⟨_, _, _, _, k1, k2, k3, k4, root_nigh, nil_nigh (by grind)⟩
  by_cases g1 : val x = val (eighth 1)
  · have ex := val_inj h.lt (by decide) h.right (by decide) g1
    have ex' : x' = quartW 3 := val_inj h'.lt (by decide) h'.right (by decide) (by have := quart_val 3 (by decide); omega)
    subst ex
    subst ex'
    obtain ⟨k1, k2, k3, k4⟩ := at_eighth1
    exact ⟨_, _, _, _, k1, k2, k3, k4, root_nigh.neg.as rfl (by grind), nil_nigh (by grind)⟩
  have f0 := off_eighth h p1 p2 b1 b2 (by decide) g0
  have f1 := off_eighth h p3 p4 b3 b4 (by decide) g1
  have q0 : ((val (eighth 0) : Int) : Rat) = 1 / 8 * ((SS : Int) : Rat) := by
    have := congrArg (fun z : Int => (z : Rat)) a0
    rw [Rat.intCast_mul, show ((8 : Int) : Rat) = 8 from rfl] at this
    grind
  have q1 : ((val (eighth 1) : Int) : Rat) = 3 / 8 * ((SS : Int) : Rat) := by
    have := congrArg (fun z : Int => (z : Rat)) a1
    rw [Rat.intCast_mul, Rat.intCast_mul, show ((8 : Int) : Rat) = 8 from rfl, show ((3 : Int) : Rat) = 3 from rfl] at this
    grind
  have r0 := far_angle q0 f0
  have r1 := far_angle q1 f1
  have eX := hX_twice e
  obtain ⟨⟨t1, t2⟩, u1', u2'⟩ := turn_has h
  obtain ⟨⟨t3, t4⟩, u3', u4'⟩ := turn_has h'
  have l := h.lo
  have hi' := h'.hi
  rw [u1_val] at hi'
  clear b1 b2 b3 b4 f0 f1 q0 q1 S
  have QX : ∀ j, qN x = j → ((-1 ≤ hT x j ∧ hT x j ≤ 1) ∧ HasQ (sinR x) (sQ (hS (hT x j)) (hC (hT x j)) j) ∧ HasQ (cosR x) (cQ (hS (hT x j)) (hC (hT x j)) j)) := fun j hj => by
    rw [hj] at t1 t2 u1' u2'; exact ⟨⟨t1, t2⟩, u1', u2'⟩
  have QY : ∀ j, qN x' = j → ((-1 ≤ hT x' j ∧ hT x' j ≤ 1) ∧ HasQ (sinR x') (sQ (hS (hT x' j)) (hC (hT x' j)) j) ∧ HasQ (cosR x') (cQ (hS (hT x' j)) (hC (hT x' j)) j)) := fun j hj => by
    rw [hj] at t3 t4 u3' u4'; exact ⟨⟨t3, t4⟩, u3', u4'⟩
  clear t1 t2 t3 t4 u1' u2' u3' u4'
  have i0 : ((((0 : Nat) : Int)) : Rat) = 0 := rfl
  have i1 : ((((1 : Nat) : Int)) : Rat) = 1 := rfl
  have i2 : ((((2 : Nat) : Int)) : Rat) = 2 := rfl
  have i3 : ((((3 : Nat) : Int)) : Rat) = 3 := rfl
  have i4 : ((((4 : Nat) : Int)) : Rat) = 4 := rfl
  rcases Int.lt_or_le (val x') (val (eighth 0)) with c | c
  · obtain ⟨t, u, v⟩ := QX 0 (by unfold qN; rw [if_pos (by omega)])
    obtain ⟨t', u', v'⟩ := QY 0 (by unfold qN; rw [if_pos (by omega)])
    obtain ⟨n, m⟩ := twice (t := hT x 0) (u := hT x' 0) (by unfold hT; rw [eX, i0]; grind) t'.1 t'.2
    exact ⟨_, _, _, _, u, v, u', v', n, m⟩
  rcases Int.lt_or_le (val x) (val (eighth 0)) with d | d
  · obtain ⟨t, u, v⟩ := QX 0 (by unfold qN; rw [if_pos (by omega)])
    obtain ⟨t', u', v'⟩ := QY 1 (by unfold qN; rw [if_neg (by omega), if_pos (by omega)])
    obtain ⟨n, m⟩ := less_quarter (t := hT x 0) (u := hT x' 1) (by unfold hT; rw [eX, i0, i1]; grind) t.1 t.2 t'.1 t'.2 (by
      have k : hT x' 1 = 4 * hq * (hX x - 1 / 8) := by unfold hT; rw [eX, i1]; grind
      rw [k]; exact r0)
    exact ⟨_, _, _, _, u, v, u', v', n, m⟩
  rcases Int.lt_or_le (val x') (val (eighth 1)) with c1 | c1
  · obtain ⟨t, u, v⟩ := QX 1 (by unfold qN; rw [if_neg (by omega), if_pos (by omega)])
    obtain ⟨t', u', v'⟩ := QY 1 (by unfold qN; rw [if_neg (by omega), if_pos (by omega)])
    obtain ⟨n, m⟩ := more_quarter (t := hT x 1) (u := hT x' 1) (by unfold hT; rw [eX, i1]; grind) t.1 t.2 t'.1 t'.2 (by
      have k : hT x' 1 = 4 * hq * (hX x - 1 / 8) := by unfold hT; rw [eX, i1]; grind
      rw [k]; exact r0)
    refine ⟨_, _, _, _, u, v, u', v', n.as rfl ?_, m.neg.as rfl ?_⟩ <;> (simp only [sQ, cQ]; grind)
  rcases Int.lt_or_le (val x') (val (eighth 2)) with c2 | c2
  · obtain ⟨t, u, v⟩ := QX 1 (by unfold qN; rw [if_neg (by omega), if_pos (by omega)])
    obtain ⟨t', u', v'⟩ := QY 2 (by unfold qN; rw [if_neg (by omega), if_neg (by omega), if_pos (by omega)])
    obtain ⟨n, m⟩ := twice (t := hT x 1) (u := hT x' 2) (by unfold hT; rw [eX, i1, i2]; grind) t'.1 t'.2
    refine ⟨_, _, _, _, u, v, u', v', n.neg.as rfl ?_, m.neg.as rfl ?_⟩ <;> (simp only [sQ, cQ]; grind)
  rcases Int.lt_or_le (val x) (val (eighth 1)) with d1 | d1
  · obtain ⟨t, u, v⟩ := QX 1 (by unfold qN; rw [if_neg (by omega), if_pos (by omega)])
    obtain ⟨t', u', v'⟩ := QY 3 (by unfold qN; rw [if_neg (by omega), if_neg (by omega), if_neg (by omega), if_pos (by omega)])
    obtain ⟨n, m⟩ := less_quarter (t := hT x 1) (u := hT x' 3) (by unfold hT; rw [eX, i1, i3]; grind) t.1 t.2 t'.1 t'.2 (by
      have k : hT x' 3 = 4 * hq * (hX x - 3 / 8) := by unfold hT; rw [eX, i3]; grind
      rw [k]; exact r1)
    refine ⟨_, _, _, _, u, v, u', v', n.neg.as rfl ?_, m.neg.as ?_ ?_⟩ <;> (simp only [sQ, cQ]; grind)
  rcases Int.lt_or_le (val x') (val (eighth 3)) with c3 | c3
  · obtain ⟨t, u, v⟩ := QX 2 (by unfold qN; rw [if_neg (by omega), if_neg (by omega), if_pos (by omega)])
    obtain ⟨t', u', v'⟩ := QY 3 (by unfold qN; rw [if_neg (by omega), if_neg (by omega), if_neg (by omega), if_pos (by omega)])
    obtain ⟨n, m⟩ := more_quarter (t := hT x 2) (u := hT x' 3) (by unfold hT; rw [eX, i2, i3]; grind) t.1 t.2 t'.1 t'.2 (by
      have k : hT x' 3 = 4 * hq * (hX x - 3 / 8) := by unfold hT; rw [eX, i3]; grind
      rw [k]; exact r1)
    refine ⟨_, _, _, _, u, v, u', v', n.neg.as rfl ?_, m.as rfl ?_⟩ <;> (simp only [sQ, cQ]; grind)
  · obtain ⟨t, u, v⟩ := QX 2 (by unfold qN; rw [if_neg (by omega), if_neg (by omega), if_pos (by omega)])
    obtain ⟨t', u', v'⟩ := QY 4 (by unfold qN; rw [if_neg (by omega), if_neg (by omega), if_neg (by omega), if_neg (by omega)])
    obtain ⟨n, m⟩ := twice (t := hT x 2) (u := hT x' 4) (by unfold hT; rw [eX, i2, i4]; grind) t'.1 t'.2
    refine ⟨_, _, _, _, u, v, u', v', n.as rfl ?_, m.as rfl ?_⟩ <;> (simp only [sQ, cQ]; grind)

def w2H : Nat := 4611686018427387904
structure Meets2 (S O p q : Res) : Prop where
  m : Fit (mulR S O)
  d : Fit (mulR (oneR w2H) (mulR S O))
  o : Fit (sqrR O)
  s : Fit (sqrR S)
  r : Fit (subR (sqrR O) (sqrR S))
  a : val p.lo ≤ val (mulR (oneR w2H) (mulR S O)).hi ∧ val (mulR (oneR w2H) (mulR S O)).lo ≤ val p.hi
  b : val q.lo ≤ val (subR (sqrR O) (sqrR S)).hi ∧ val (subR (sqrR O) (sqrR S)).lo ≤ val q.hi
end
section
open Go.RowKit

def Hv.a (r : Res) : Res := addR (oneR u1) r
def Hv.b (r : Res) : Res := divR (Hv.a r) (oneR 4611686018427387904)
def Hv.c (r : Res) : Res := maxR (Hv.b r) (oneR 0)
def Hv.d (r : Res) : Res := subR (oneR u1) r
def Hv.e (r : Res) : Res := divR (Hv.d r) (oneR 4611686018427387904)
def Hv.f (r : Res) : Res := maxR (Hv.e r) (oneR 0)
def Hv.s (r : Res) : Res := sqrtR (Hv.f r)
def Hv.o : Nat → Res
  | 0 => oneR m1
  | i + 1 => sqrtR (Hv.c (Hv.o i))
def Hv.x (i : Nat) : Nat := 4602678819172646912 - (i + 1) * 4503599627370496
def Hv.ok (i : Nat) : Bool :=
  fitB (Hv.a (Hv.o i)) && fitB (Hv.b (Hv.o i)) && fitB (Hv.c (Hv.o i)) && fitB (Hv.d (Hv.o i)) && fitB (Hv.e (Hv.o i)) && fitB (Hv.f (Hv.o i)) && fitB (Hv.s (Hv.o i)) && fitB (Hv.o (i + 1)) &&
  bothB (cosU (Hv.x i) (Hv.x i)).lo (cosU (Hv.x i) (Hv.x i)).hi (Hv.o (i + 1)).lo (Hv.o (i + 1)).hi && bothB (sinU (Hv.x i) (Hv.x i)).lo (sinU (Hv.x i) (Hv.x i)).hi (Hv.s (Hv.o i)).lo (Hv.s (Hv.o i)).hi
end
section
open Go.RowKit

theorem HasV.to {r : Res} {P T P' T' : Int} (h : HasV r P T) (hP : 0 < P') (e : T * P' = T' * P) : HasV r P' T' := by
  have p := h.pos
  refine ⟨hP, ?_, ?_⟩
  · refine Int.le_of_mul_le_mul_right ?_ p
    have k := Int.mul_le_mul_of_nonneg_right h.low (Int.le_of_lt hP)
    have e1 : val r.lo * P' * P = val r.lo * P * P' := by grind
    have e2 : T' * SS * P = T * SS * P' := by grind
    rw [e1, e2]; exact k
  · refine Int.le_of_mul_le_mul_right ?_ p
    have k := Int.mul_le_mul_of_nonneg_right h.high (Int.le_of_lt hP)
    have e1 : val r.hi * P' * P = val r.hi * P * P' := by grind
    have e2 : T' * SS * P = T * SS * P' := by grind
    rw [e1, e2]; exact k
def wAdd (r : Res) (wa wb : Int) : Int := wa + wb + 2 * gapP r
def wMul (r A B : Res) (wa wb : Int) : Int := (wa * magn B + magn A * wb) / SS + 2 * gapP r
def wDiv (r A B : Res) (wa wb : Int) : Int := SS * (wa * magn B + magn A * wb) / (val B.lo * val B.lo) + 2 * gapP r
def wSqr (r A : Res) (wa : Int) : Int := wa * (2 * magn A) / SS + 2 * gapP r
def wSqrt (r : Res) (wa : Int) : Int := wa * SS / (2 * val r.lo) + 2 * gapP r

def Di.w2 (_C N : Res) (wn : Int) : Int := wSqr (Di.s2 _C N) N wn
def Di.w3 (C N : Res) (wn : Int) : Int := wAdd (Di.s3 C N) (Di.w2 C N wn) 0
def Di.w5 (C N : Res) (wn : Int) : Int := wAdd (Di.s5 C N) (Di.w3 C N wn) (wSqr (Di.s4 C N) C 0)
def Di.wg (C N : Res) (wn : Int) : Int := wSqrt (Di.g C N) (Di.w5 C N wn)
def Di.wmore (C N : Res) (wn : Int) : Int := wAdd (Di.more C N) (Di.wg C N wn) 0
def Di.wless (C N : Res) (wn : Int) : Int := wAdd (Di.less C N) (Di.wg C N wn) 0
def Di.wpq (C N : Res) (wn : Int) : Int := wDiv (Di.pq C N) (Di.less C N) (Di.more C N) (Di.wless C N wn) (Di.wmore C N wn)
def Di.wp (C N : Res) (wn : Int) : Int := wSqr (Di.p C N) (Di.pq C N) (Di.wpq C N wn)
def Di.w11 (C N : Res) (wn : Int) : Int := wMul (Di.m11 C N) C (Di.more C N) 0 (Di.wmore C N wn)
def Di.wover (C N : Res) (wn : Int) : Int := wAdd (Di.over C N) (Di.w11 C N wn) 0
def Di.w13 (C N : Res) (wn : Int) : Int := wMul (Di.m13 C N) C (Di.less C N) 0 (Di.wless C N wn)
def Di.wunder (C N : Res) (wn : Int) : Int := wAdd (Di.under C N) (Di.w13 C N wn) 0
def Di.wqq (C N : Res) (wn : Int) : Int := wDiv (Di.qq C N) (Di.over C N) (Di.under C N) (Di.wover C N wn) (Di.wunder C N wn)
def Di.wq (C N : Res) (wn : Int) : Int := wSqr (Di.q C N) (Di.qq C N) (Di.wqq C N wn)
def Di.whp (C N : Res) (wn : Int) : Int := wMul (Di.hp C N) (oneR 4602678819172646912) (Di.p C N) 0 (Di.wp C N wn)
def Di.woq (C N : Res) (wn : Int) : Int := wAdd (Di.oq C N) 0 (Di.wq C N wn)
def Di.wf (C N : Res) (wn : Int) : Int := wMul (Di.f C N) (Di.hp C N) (Di.oq C N) (Di.whp C N wn) (Di.woq C N wn)
def kOk (r : Res) : Bool := decide (gapK r ≤ 1899)
def Di.ok (C N : Res) : Bool := kOk (Di.s2 C N) && kOk (Di.s3 C N) && kOk (Di.s4 C N) && kOk (Di.s5 C N) && kOk (Di.g C N) && kOk (Di.more C N) && kOk (Di.less C N) && kOk (Di.pq C N) && kOk (Di.p C N) && kOk (Di.m11 C N) && kOk (Di.over C N) && kOk (Di.m13 C N) && kOk (Di.under C N) && kOk (Di.qq C N) && kOk (Di.q C N) && kOk (Di.hp C N) && kOk (Di.oq C N) && kOk (Di.f C N)
  && decide (0 < val (Di.g C N).lo) && decide (0 < val (Di.more C N).lo) && decide (0 < val (Di.under C N).lo)

end
section
open Go.RowKit

structure BW where
  R : Res
  w : Int
structure Snd (r : Res) (x : BW) : Prop where
  wid : Wid r x.R x.w
  fit : Fit x.R
def bok (x : BW) : Bool := fitB x.R && kOk x.R
def BW.add (x y : BW) : BW := ⟨addR x.R y.R, wAdd (addR x.R y.R) x.w y.w⟩
def BW.sub (x y : BW) : BW := ⟨subR x.R y.R, wAdd (subR x.R y.R) x.w y.w⟩
def BW.mul (x y : BW) : BW := ⟨mulR x.R y.R, wMul (mulR x.R y.R) x.R y.R x.w y.w⟩
def BW.div (x y : BW) : BW := ⟨divR x.R y.R, wDiv (divR x.R y.R) x.R y.R x.w y.w⟩
def BW.sqr (x : BW) : BW := ⟨sqrR x.R, wSqr (sqrR x.R) x.R x.w⟩
def BW.sqrt (x : BW) : BW := ⟨sqrtR x.R, wSqrt (sqrtR x.R) x.w⟩
def BW.one (x : Nat) : BW := ⟨oneR x, 0⟩
theorem bok_parts {x : BW} (h : bok x = true) : Fit x.R ∧ gapK x.R ≤ 1899 := by
  unfold bok kOk at h
  simp only [Bool.and_eq_true, decide_eq_true_eq] at h
  exact ⟨.of h.1, h.2⟩

section
variable {r s : Res} {x y : BW} (h : Snd r x) (g : Snd s y)
include h
theorem Snd.sqr (ok : bok x.sqr = true) : Snd (sqrR r) x.sqr := by
  obtain ⟨f, k⟩ := bok_parts ok
  exact ⟨Wid.sqr h.wid h.fit f.e k, f⟩
theorem Snd.sqrt (ok : bok x.sqrt = true) (l : 0 < val x.sqrt.R.lo) : Snd (sqrtR r) x.sqrt := by
  obtain ⟨f, k⟩ := bok_parts ok
  exact ⟨Wid.sqrt h.wid h.fit l f.e k, f⟩
include g
theorem Snd.add (ok : bok (x.add y) = true) : Snd (addR r s) (x.add y) := by
  obtain ⟨f, k⟩ := bok_parts ok
  exact ⟨Wid.add h.wid h.fit g.wid g.fit f.e k, f⟩
theorem Snd.sub (ok : bok (x.sub y) = true) : Snd (subR r s) (x.sub y) := by
  obtain ⟨f, k⟩ := bok_parts ok
  exact ⟨Wid.sub h.wid h.fit g.wid g.fit f.e k, f⟩
theorem Snd.mul (ok : bok (x.mul y) = true) : Snd (mulR r s) (x.mul y) := by
  obtain ⟨f, k⟩ := bok_parts ok
  exact ⟨Wid.mul h.wid h.fit g.wid g.fit f.e k, f⟩
theorem Snd.div (ok : bok (x.div y) = true) (l : 0 < val y.R.lo) : Snd (divR r s) (x.div y) := by
  obtain ⟨f, k⟩ := bok_parts ok
  exact ⟨Wid.div h.wid h.fit g.wid g.fit l f.e k, f⟩
end
theorem Snd.one {x : Nat} (lx : x < 18446744073709551616) (rx : rightB x = true) : Snd (oneR x) (BW.one x) := ⟨.one (.refl (one_fit lx rx)), one_fit lx rx⟩
theorem Snd.exact {r : Res} (f : Fit r) (h : val r.hi ≤ val r.lo) : Snd r ⟨r, 0⟩ := ⟨⟨.refl f, by show val r.hi - val r.lo ≤ 0; omega⟩, f⟩

end
section
open Go.RowKit

theorem Snd.weak {r : Res} {x y : BW} (h : Snd r x) (i : In x.R y.R) (fy : Fit y.R) (w : x.w ≤ y.w) : Snd r y :=
  ⟨⟨⟨h.wid.has.fit, Int.le_trans i.lo h.wid.has.lo, Int.le_trans h.wid.has.hi i.hi⟩, Int.le_trans h.wid.wide w⟩, fy⟩
namespace Tw
def p : BW := ⟨piR, val piR.hi - val piR.lo⟩
def p2 : BW := p.add p
def b (j : Nat) : BW := (⟨qEnds j, 0⟩ : BW).sub (BW.one (quartW j))
def wb : Int := val 4363988038922010624
def t : BW := p2.mul ⟨bigB, wb⟩
def y : BW := t.sqr
def q (k : Nat) : BW := y.div (BW.one (nW k))
def s (m : Nat) : Nat → BW
  | 0 => ⟨serStart bigY m, SS - val (serStart bigY m).lo⟩
  | i + 1 => (BW.one u1).sub ((q (m - 2 - 2 * i)).mul (s m i))
end Tw
theorem tw_ok : (bok Tw.p2 && bok Tw.t && bok Tw.y && bok (Tw.t.mul (Tw.s 20 9)) && decide ((Tw.t.mul (Tw.s 20 9)).w ≤ val 4391009636686233600) && decide ((Tw.s 19 9).w ≤ val 4391009636686233600)) = true := by decide +kernel
theorem tw_b : ∀ j, j ≤ 4 → (bok (Tw.b j) && leB bigB.lo (Tw.b j).R.lo && leB (Tw.b j).R.hi bigB.hi && decide ((Tw.b j).w ≤ Tw.wb)) = true := by decide +kernel
theorem tw_s : ∀ i, i < 9 → (bok (Tw.q (19 - 2 - 2 * i)) && bok ((Tw.q (19 - 2 - 2 * i)).mul (Tw.s 19 i)) && bok (Tw.s 19 (i + 1))) = true ∧ (bok (Tw.q (20 - 2 - 2 * i)) && bok ((Tw.q (20 - 2 - 2 * i)).mul (Tw.s 20 i)) && bok (Tw.s 20 (i + 1))) = true := by decide +kernel
theorem angle_snd {x : Nat} (h : Turn x) : Snd (angleR x (qN x)) Tw.t := by
  have k := tw_b (qN x) (qN_le x)
  simp only [Bool.and_eq_true, decide_eq_true_eq] at k
  obtain ⟨⟨⟨k1, k2⟩, k3⟩, k4⟩ := k
  unfold leB at k2 k3
  have o := tw_ok
  simp only [Bool.and_eq_true, decide_eq_true_eq] at o
  obtain ⟨⟨⟨⟨⟨o1, o2⟩, o3⟩, _⟩, _⟩, _⟩ := o
  have e := ends_ok4 (qN x) (qN_le x)
  simp only [Bool.and_eq_true] at e
  obtain ⟨⟨⟨⟨e1, e2⟩, _⟩, _⟩, _⟩ := e
  have ix := turn_in h
  have sx : Snd (oneR x) ⟨qEnds (qN x), 0⟩ := ⟨.one ix, .of e1⟩
  have sq : Snd (oneR (quartW (qN x))) (BW.one (quartW (qN x))) := ⟨.one (.refl (.of e2)), .of e2⟩
  have sb : Snd (beyondR x (qN x)) (Tw.b (qN x)) := sx.sub sq k1
  have fb := (bok_parts k1).1
  have sb' : Snd (beyondR x (qN x)) ⟨bigB, Tw.wb⟩ := sb.weak ⟨fb, of_decide_eq_true k2, of_decide_eq_true k3⟩ big_fit.2.2.1 k4
  have sp : Snd piR Tw.p := ⟨⟨.refl big_fit.1, Int.le_refl _⟩, big_fit.1⟩
  exact (sp.add sp o1).mul sb' o2
theorem series_snd {m : Nat} {t : Res} (hm : m = 19 ∨ m = 20) (h0 : bigOk0 m = true) (ht : Snd (sqrR t) Tw.y) (hy : In (sqrR t) bigY) : ∀ i, i ≤ 9 → Snd (serN (sqrR t) m i) (Tw.s m i) := by
  intro i
  induction i with
  | zero =>
    intro _
    have s := (start_in h0 hy).1
    have fb : Fit (serStart bigY m) := by
      rcases hm with rfl | rfl
      · exact .of (by decide +kernel)
      · exact .of (by decide +kernel)
    refine ⟨⟨s, ?_⟩, fb⟩
    have l := s.lo
    have u : val (serStart (sqrR t) m).hi = SS := u1_val
    show val (serStart (sqrR t) m).hi - val (serStart (sqrR t) m).lo ≤ SS - val (serStart bigY m).lo
    omega
  | succ i ih =>
    intro hi
    have k : (bok (Tw.q (m - 2 - 2 * i)) && bok ((Tw.q (m - 2 - 2 * i)).mul (Tw.s m i)) && bok (Tw.s m (i + 1))) = true := by
      rcases hm with rfl | rfl
      · exact (tw_s i (by omega)).1
      · exact (tw_s i (by omega)).2
    simp only [Bool.and_eq_true] at k
    obtain ⟨⟨k1, k2⟩, k3⟩ := k
    have fk : Fit (oneR (nW (m - 2 - 2 * i))) := by
      have b : bigOk m i = true := by
        rcases hm with rfl | rfl
        · exact ok19.2 i (by omega)
        · exact ok20.2 i (by omega)
      exact (big_parts b).1
    have sn : Snd (oneR (nW (m - 2 - 2 * i))) (BW.one (nW (m - 2 - 2 * i))) := ⟨.one (.refl fk), fk⟩
    have pos : 0 < val (BW.one (nW (m - 2 - 2 * i))).R.lo := by
      have e : val (BW.one (nW (m - 2 - 2 * i))).R.lo = (((m - 2 - 2 * i : Nat) : Int) * (((m - 2 - 2 * i : Nat) : Int) + 1)) * SS := nW_val _ (by omega)
      rw [e]
      exact Int.mul_pos (Int.mul_pos (by omega) (by omega)) SS0
    have su : Snd (oneR u1) (BW.one u1) := Snd.one (by decide) (by decide)
    exact su.sub ((ht.div sn k1 pos).mul (ih (by omega)) k2) k3
theorem neg_wide {r : Res} (f : Fit r) : val (negR r).hi - val (negR r).lo = val r.hi - val r.lo := by
  obtain ⟨_, _, l⟩ := turn_facts r.lo f.lo f.rlo
  obtain ⟨_, _, u⟩ := turn_facts r.hi f.hi f.rhi
  have e1 : (negR r).lo = turnW r.hi := rfl
  have e2 : (negR r).hi = turnW r.lo := rfl
  rw [e1, e2, l, u]; omega
theorem bound_wide {r : Res} (f : Fit r) {w : Int} (h : val r.hi - val r.lo ≤ w) : val (boundR r).hi - val (boundR r).lo ≤ w := by
  obtain ⟨_, _, l⟩ := max_facts r.lo m1 f.lo (by decide) f.rlo (by decide)
  obtain ⟨_, _, u⟩ := min_facts r.hi u1 f.hi (by decide) f.rhi (by decide)
  have e1 : (boundR r).lo = if bothB r.lo r.hi m1 u1 then maxW r.lo m1 else 0 := rfl
  have e2 : (boundR r).hi = if bothB r.lo r.hi m1 u1 then minW r.hi u1 else 0 := rfl
  have le := f.le
  cases hb : bothB r.lo r.hi m1 u1
  · rw [hb, if_neg Bool.false_ne_true] at e1 e2
    rw [e1, e2]; omega
  · rw [hb, if_pos rfl] at e1 e2
    rw [e1, e2, l, u]; omega
theorem turn_narrow {x : Nat} (h : Turn x) : val (sinR x).hi - val (sinR x).lo ≤ val 4391009636686233600 ∧ val (cosR x).hi - val (cosR x).lo ≤ val 4391009636686233600 := by
  have st := angle_snd h
  have iy := square_in h
  have o := tw_ok
  simp only [Bool.and_eq_true, decide_eq_true_eq] at o
  obtain ⟨⟨⟨⟨⟨o1, o2⟩, o3⟩, o4⟩, o5⟩, o6⟩ := o
  have sy : Snd (sqrR (angleR x (qN x))) Tw.y := st.sqr o3
  have a := series_snd (Or.inr rfl) ok20.1 sy iy 9 (by decide)
  have b := series_snd (Or.inl rfl) ok19.1 sy iy 9 (by decide)
  have s : Snd (sinS (angleR x (qN x))) (Tw.t.mul (Tw.s 20 9)) := st.mul a o4
  have ws : val (sinS (angleR x (qN x))).hi - val (sinS (angleR x (qN x))).lo ≤ val 4391009636686233600 := Int.le_trans s.wid.wide o5
  have wc : val (cosS (angleR x (qN x))).hi - val (cosS (angleR x (qN x))).lo ≤ val 4391009636686233600 := Int.le_trans b.wid.wide o6
  have fs : Fit (sinS (angleR x (qN x))) := (sinS_in h).fit
  have fc : Fit (cosS (angleR x (qN x))) := (cosS_in h).fit
  have es : sinR x = boundR (sinT (sinS (angleR x (qN x))) (cosS (angleR x (qN x))) (qN x)) := rfl
  have ec : cosR x = boundR (cosT (sinS (angleR x (qN x))) (cosS (angleR x (qN x))) (qN x)) := rfl
  rw [es, ec]
  clear es ec a b s sy st iy o1 o2 o3 o4 o5 o6
  generalize sinS (angleR x (qN x)) = A at *
  generalize cosS (angleR x (qN x)) = B at *
  have w1 := bound_wide fs ws
  have w2 := bound_wide fc wc
  have w3 := bound_wide (neg_fit fs) (by rw [neg_wide fs]; exact ws)
  have w4 := bound_wide (neg_fit fc) (by rw [neg_wide fc]; exact wc)
  generalize qN x = j
  match j with
  | 0 => exact ⟨w1, w2⟩
  | 1 => exact ⟨w2, w3⟩
  | 2 => exact ⟨w3, w4⟩
  | 3 => exact ⟨w4, w1⟩
  | _ + 4 => exact ⟨w1, w2⟩
theorem hull_wide {a b : Res} (ha : In a wideR) (hb : In b wideR) : In (hullR a b) wideR := by
  obtain ⟨_, _, l⟩ := min_facts a.lo b.lo ha.fit.lo hb.fit.lo ha.fit.rlo hb.fit.rlo
  obtain ⟨_, _, u⟩ := max_facts a.hi b.hi ha.fit.hi hb.fit.hi ha.fit.rhi hb.fit.rhi
  have e1 : (hullR a b).lo = minW a.lo b.lo := rfl
  have e2 : (hullR a b).hi = maxW a.hi b.hi := rfl
  have a1 := ha.lo
  have a2 := ha.hi
  have b1 := hb.lo
  have b2 := hb.hi
  exact ⟨hull_fit ha.fit hb.fit, by rw [e1, l]; omega, by rw [e2, u]; omega⟩
theorem sinU_wide {al ah : Nat} (t1 : Turn al) (t2 : Turn ah) : In (sinU al ah) wideR ∧ In (cosU al ah) wideR := by
  have s : ∀ {x : Nat}, Turn x → In (sinR x) wideR := fun h => ⟨(sinR_facts h).1, (sinR_facts h).2.1, (sinR_facts h).2.2⟩
  have c : ∀ {x : Nat}, Turn x → In (cosR x) wideR := fun h => ⟨(cosR_facts h).1, (cosR_facts h).2.1, (cosR_facts h).2.2⟩
  have i1 : In (oneR u1) wideR := ⟨u1_fit, by decide +kernel, by decide +kernel⟩
  have i2 : In (oneR m1) wideR := ⟨m1_fit, by decide +kernel, by decide +kernel⟩
  have s2 : In (sin2 al ah) wideR := hull_wide (s t1) (s t2)
  have c2 : In (cos2 al ah) wideR := hull_wide (c t1) (c t2)
  have s3 : In (sin3 al ah) wideR := by
    unfold sin3
    cases hasB al ah 4598175219545276416
    · exact s2
    · exact hull_wide s2 i1
  refine ⟨?_, ?_⟩
  · unfold sinU
    cases hasB al ah 4604930618986332160
    · exact s3
    · exact hull_wide s3 i2
  · unfold cosU
    cases hasB al ah 4602678819172646912
    · exact c2
    · exact hull_wide c2 i2
end
end Go.Proofs.Ytnaomilkgfkegaa
