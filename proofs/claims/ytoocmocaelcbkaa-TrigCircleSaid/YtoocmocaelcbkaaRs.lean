
/- Sequences of rational numbers, up to what goes to nothing; and which of them an interval has: so roots, and rows without an end, have their place. No program is named here. -/
import Derived.Test.YtoocmocaelcbkaaQM
namespace Go.Proofs.Ytoocmocaelcbkaa
open Go.RowKit

/-- It goes to nothing. -/
def Nul (f : Nat → Rat) : Prop := ∀ e : Rat, 0 < e → ∃ M : Nat, ∀ m, M ≤ m → -e ≤ f m ∧ f m ≤ e
/-- From some place on it stays within bounds. -/
def Bd (f : Nat → Rat) : Prop := ∃ B : Rat, 0 < B ∧ ∃ M : Nat, ∀ m, M ≤ m → -B ≤ f m ∧ f m ≤ B
def Eqv (f g : Nat → Rat) : Prop := Nul fun m => f m - g m
/-- From some place on it is no less than d. -/
def Abv (d : Rat) (f : Nat → Rat) : Prop := ∃ M : Nat, ∀ m, M ≤ m → d ≤ f m

theorem rat_mul {x y B e : Rat} (h1 : -B ≤ x) (h2 : x ≤ B) (h3 : -e ≤ y) (h4 : y ≤ e) : -(B * e) ≤ x * y ∧ x * y ≤ B * e := by
  have a := Rat.mul_nonneg (by grind : 0 ≤ B - x) (by grind : 0 ≤ e + y)
  have b := Rat.mul_nonneg (by grind : 0 ≤ B + x) (by grind : 0 ≤ e - y)
  have c := Rat.mul_nonneg (by grind : 0 ≤ B - x) (by grind : 0 ≤ e - y)
  have d := Rat.mul_nonneg (by grind : 0 ≤ B + x) (by grind : 0 ≤ e + y)
  constructor <;> grind

section
variable {f g f' g' : Nat → Rat}
theorem Nul.add (h : Nul f) (k : Nul g) : Nul fun m => f m + g m := fun e he => by
  obtain ⟨M, hM⟩ := h (e / 2) (by grind)
  obtain ⟨N, hN⟩ := k (e / 2) (by grind)
  refine ⟨M + N, fun m hm => ?_⟩
  have a := hM m (by omega)
  have b := hN m (by omega)
  constructor <;> grind
theorem Nul.neg (h : Nul f) : Nul fun m => -f m := fun e he => by
  obtain ⟨M, hM⟩ := h e he
  refine ⟨M, fun m hm => ?_⟩
  have a := hM m hm
  constructor <;> grind
theorem Nul.zero : Nul fun _ => 0 := fun e he => ⟨0, fun _ _ => by constructor <;> grind⟩
theorem Nul.of (h : Nul f) (e : ∀ m, f m = g m) : Nul g := by
  have : f = g := funext e
  rw [← this]; exact h
theorem Nul.mul (k : Bd f) (h : Nul g) : Nul fun m => f m * g m := fun e he => by
  obtain ⟨B, hB, N, hN⟩ := k
  have hd : 0 < e / B := by
    have := Rat.mul_pos he (Rat.inv_pos.2 hB)
    rw [Rat.div_def]; exact this
  obtain ⟨M, hM⟩ := h (e / B) hd
  refine ⟨M + N, fun m hm => ?_⟩
  have a := hM m (by omega)
  have b := hN m (by omega)
  have c := rat_mul b.1 b.2 a.1 a.2
  have e1 : B * (e / B) = e := by grind
  rw [e1] at c
  exact c
theorem Nul.bd (h : Nul f) : Bd f := by
  obtain ⟨M, hM⟩ := h 1 (by grind)
  exact ⟨1, by grind, M, hM⟩
theorem Bd.add (h : Bd f) (k : Bd g) : Bd fun m => f m + g m := by
  obtain ⟨B, hB, M, hM⟩ := h
  obtain ⟨C, hC, N, hN⟩ := k
  refine ⟨B + C, by grind, M + N, fun m hm => ?_⟩
  have a := hM m (by omega)
  have b := hN m (by omega)
  constructor <;> grind
theorem Bd.neg (h : Bd f) : Bd fun m => -f m := by
  obtain ⟨B, hB, M, hM⟩ := h
  refine ⟨B, hB, M, fun m hm => ?_⟩
  have a := hM m hm
  constructor <;> grind
theorem Bd.sub (h : Bd f) (k : Bd g) : Bd fun m => f m - g m := by
  obtain ⟨B, hB, M, hM⟩ := h.add k.neg
  refine ⟨B, hB, M, fun m hm => ?_⟩
  have a := hM m hm
  constructor <;> grind
theorem Bd.mul (h : Bd f) (k : Bd g) : Bd fun m => f m * g m := by
  obtain ⟨B, hB, M, hM⟩ := h
  obtain ⟨C, hC, N, hN⟩ := k
  refine ⟨B * C, Rat.mul_pos hB hC, M + N, fun m hm => ?_⟩
  have a := hM m (by omega)
  have b := hN m (by omega)
  exact rat_mul a.1 a.2 b.1 b.2
theorem Bd.const (c : Rat) : Bd fun _ => c := by
  rcases Rat.le_total (a := 0) (b := c) with h | h
  · exact ⟨c + 1, by grind, 0, fun _ _ => by constructor <;> grind⟩
  · exact ⟨1 - c, by grind, 0, fun _ _ => by constructor <;> grind⟩
theorem Eqv.rfl : Eqv f f := Nul.zero.of fun m => by grind
theorem Eqv.symm (h : Eqv f g) : Eqv g f := (Nul.neg h).of fun m => by grind
theorem Eqv.trans {k : Nat → Rat} (h : Eqv f g) (h' : Eqv g k) : Eqv f k := (Nul.add h h').of fun m => by grind
theorem Eqv.of (e : ∀ m, f m = g m) : Eqv f g := Nul.zero.of fun m => by rw [e m]; grind
theorem Eqv.bd (h : Eqv f g) (k : Bd f) : Bd g := by
  obtain ⟨B, hB, M, hM⟩ := k.sub (Nul.bd h)
  refine ⟨B, hB, M, fun m hm => ?_⟩
  have a := hM m hm
  constructor <;> grind
theorem Eqv.add (h : Eqv f f') (k : Eqv g g') : Eqv (fun m => f m + g m) fun m => f' m + g' m := (Nul.add h k).of fun m => by grind
theorem Eqv.neg (h : Eqv f f') : Eqv (fun m => -f m) fun m => -f' m := (Nul.neg h).of fun m => by grind
theorem Eqv.sub (h : Eqv f f') (k : Eqv g g') : Eqv (fun m => f m - g m) fun m => f' m - g' m := (Nul.add h (Nul.neg k)).of fun m => by grind
theorem Eqv.mul (h : Eqv f f') (k : Eqv g g') (bf : Bd f) (bg : Bd g) : Eqv (fun m => f m * g m) fun m => f' m * g' m :=
  (Nul.add (Nul.mul (h.bd bf) k) (Nul.mul bg h)).of fun m => by grind
theorem Abv.of_eqv {d d' : Rat} (h : Abv d f) (k : Eqv f g) (hd : d' < d) : Abv d' g := by
  obtain ⟨M, hM⟩ := h
  obtain ⟨N, hN⟩ := k (d - d') (by grind)
  refine ⟨M + N, fun m hm => ?_⟩
  have a := hM m (by omega)
  have b := hN m (by omega)
  grind
theorem Abv.inv {d : Rat} (h0 : 0 < d) (h : Abv d f) : Bd fun m => (f m)⁻¹ := by
  obtain ⟨M, hM⟩ := h
  refine ⟨d⁻¹, Rat.inv_pos.2 h0, M, fun m hm => ?_⟩
  have a := hM m hm
  have p : 0 < f m := by grind
  have i := Rat.inv_pos.2 p
  have j := Rat.inv_pos.2 h0
  constructor
  · grind
  · refine Rat.le_of_mul_le_mul_right (c := f m) ?_ p
    have e1 : (f m)⁻¹ * f m = 1 := by grind
    have e2 := Rat.mul_le_mul_of_nonneg_left a (by grind : 0 ≤ d⁻¹)
    have e3 : d⁻¹ * d = 1 := by grind
    rw [e1]; grind
theorem Eqv.inv {d : Rat} (h0 : 0 < d) (lf : Abv d f) (lg : Abv d g) (h : Eqv f g) : Eqv (fun m => (f m)⁻¹) fun m => (g m)⁻¹ := by
  have k := Nul.mul ((lf.inv h0).mul (lg.inv h0)) (Nul.neg h)
  obtain ⟨M, hM⟩ := lf
  obtain ⟨N, hN⟩ := lg
  intro e he
  obtain ⟨L, hL⟩ := k e he
  refine ⟨L + M + N, fun m hm => ?_⟩
  have a := hL m (by omega)
  have b := hM m (by omega)
  have c := hN m (by omega)
  have e1 : (f m)⁻¹ * (g m)⁻¹ * -(f m - g m) = (f m)⁻¹ - (g m)⁻¹ := by
    have p : f m ≠ 0 := by grind
    have q : g m ≠ 0 := by grind
    grind
  dsimp only at a ⊢
  rw [e1] at a
  exact a
theorem Eqv.div {d : Rat} (h0 : 0 < d) (lg : Abv d g) (lg' : Abv d g') (h : Eqv f f') (k : Eqv g g') (bf : Bd f) : Eqv (fun m => f m / g m) fun m => f' m / g' m := by
  have r := Eqv.mul h (Eqv.inv h0 lg lg' k) bf (lg.inv h0)
  exact r.symm.symm.trans (Eqv.of fun m => (Rat.div_def _ _).symm) |> fun t => (Eqv.of fun m => Rat.div_def _ _).trans t
/-- Of two that are not below d together, whose squares are the same. -/
theorem root_same {d : Rat} (h0 : 0 < d) (l : Abv d fun m => f m + g m) (h : Eqv (fun m => f m * f m) fun m => g m * g m) : Eqv f g := by
  have k := Nul.mul (l.inv h0) h
  obtain ⟨M, hM⟩ := l
  intro e he
  obtain ⟨L, hL⟩ := k e he
  refine ⟨L + M, fun m hm => ?_⟩
  have a := hL m (by omega)
  have b := hM m (by omega)
  dsimp only at b
  have e1 : (f m + g m)⁻¹ * (f m * f m - g m * g m) = f m - g m := by
    have p : f m + g m ≠ 0 := by grind
    grind
  dsimp only at a ⊢
  rw [e1] at a
  exact a
end

/-- An interval has a rational number. -/
structure HasQ (r : Res) (x : Rat) : Prop where
  low : ((val r.lo : Int) : Rat) ≤ x * ((SS : Int) : Rat)
  high : x * ((SS : Int) : Rat) ≤ ((val r.hi : Int) : Rat)
theorem ssQ : (0 : Rat) < ((SS : Int) : Rat) := Rat.intCast_pos.2 SS0
theorem HasQ.ofV {r : Res} {P T : Int} (h : HasV r P T) : HasQ r ((T : Rat) / (P : Rat)) := by
  have p : (0 : Rat) < (P : Rat) := Rat.intCast_pos.2 h.pos
  have a := Rat.intCast_le_intCast.2 h.low
  have b := Rat.intCast_le_intCast.2 h.high
  rw [Rat.intCast_mul, Rat.intCast_mul] at a b
  have e : (T : Rat) / (P : Rat) * ((SS : Int) : Rat) * (P : Rat) = (T : Rat) * ((SS : Int) : Rat) := by grind
  exact ⟨Rat.le_of_mul_le_mul_right (by rw [e]; exact a) p, Rat.le_of_mul_le_mul_right (by rw [e]; exact b) p⟩
theorem num_den (x : Rat) : (x.num : Rat) / (((x.den : Nat) : Int) : Rat) = x := by rw [← Rat.divInt_eq_div]; exact Rat.num_divInt_den x
theorem HasQ.toV {r : Res} {x : Rat} (h : HasQ r x) : HasV r x.den x.num := by
  have d0 : (0 : Int) < ((x.den : Nat) : Int) := Int.natCast_pos.2 x.den_pos
  have p : (0 : Rat) < (((x.den : Nat) : Int) : Rat) := Rat.intCast_pos.2 d0
  have e := num_den x
  have e' : x * (((x.den : Nat) : Int) : Rat) = (x.num : Rat) := by rw [← e]; grind
  refine ⟨d0, ?_, ?_⟩
  · refine Rat.intCast_le_intCast.1 ?_
    rw [Rat.intCast_mul, Rat.intCast_mul, ← e']
    have := Rat.mul_le_mul_of_nonneg_right h.low (Rat.le_of_lt p)
    grind
  · refine Rat.intCast_le_intCast.1 ?_
    rw [Rat.intCast_mul, Rat.intCast_mul, ← e']
    have := Rat.mul_le_mul_of_nonneg_right h.high (Rat.le_of_lt p)
    grind
theorem HasQ.turn {r : Res} {x y : Rat} (h : HasQ r x) (e : x = y) : HasQ r y := e ▸ h
section
variable {r s : Res} {x y : Rat}
theorem den_ne (x : Rat) : (((x.den : Nat) : Int) : Rat) ≠ 0 := by
  have := Rat.intCast_pos.2 (Int.natCast_pos.2 x.den_pos)
  grind
theorem HasQ.add (fr : Fit r) (fs : Fit s) (h : HasQ r x) (k : HasQ s y) (he : (addR r s).e = 0) : HasQ (addR r s) (x + y) := by
  refine (HasQ.ofV (HasV.add fr fs h.toV k.toV he)).turn ?_
  have a := num_den x
  have b := num_den y
  have p := den_ne x
  have q := den_ne y
  rw [Rat.intCast_add, Rat.intCast_mul, Rat.intCast_mul, Rat.intCast_mul]
  generalize (x.num : Rat) = X at *
  generalize (y.num : Rat) = Y at *
  generalize (((x.den : Nat) : Int) : Rat) = P at *
  generalize (((y.den : Nat) : Int) : Rat) = Q at *
  subst a b
  grind
theorem HasQ.sub (fr : Fit r) (fs : Fit s) (h : HasQ r x) (k : HasQ s y) (he : (subR r s).e = 0) : HasQ (subR r s) (x - y) := by
  refine (HasQ.ofV (HasV.sub fr fs h.toV k.toV he)).turn ?_
  have a := num_den x
  have b := num_den y
  have p := den_ne x
  have q := den_ne y
  rw [Rat.intCast_sub, Rat.intCast_mul, Rat.intCast_mul, Rat.intCast_mul]
  generalize (x.num : Rat) = X at *
  generalize (y.num : Rat) = Y at *
  generalize (((x.den : Nat) : Int) : Rat) = P at *
  generalize (((y.den : Nat) : Int) : Rat) = Q at *
  subst a b
  grind
theorem HasQ.mul (fr : Fit r) (fs : Fit s) (h : HasQ r x) (k : HasQ s y) (he : (mulR r s).e = 0) : HasQ (mulR r s) (x * y) := by
  refine (HasQ.ofV (HasV.mul fr fs h.toV k.toV he)).turn ?_
  have a := num_den x
  have b := num_den y
  have p := den_ne x
  have q := den_ne y
  rw [Rat.intCast_mul, Rat.intCast_mul]
  generalize (x.num : Rat) = X at *
  generalize (y.num : Rat) = Y at *
  generalize (((x.den : Nat) : Int) : Rat) = P at *
  generalize (((y.den : Nat) : Int) : Rat) = Q at *
  subst a b
  grind
theorem HasQ.sqr (fr : Fit r) (h : HasQ r x) (he : (sqrR r).e = 0) : HasQ (sqrR r) (x * x) := by
  refine (HasQ.ofV (HasV.sqr fr h.toV he)).turn ?_
  have a := num_den x
  have p := den_ne x
  rw [Rat.intCast_mul, Rat.intCast_mul]
  generalize (x.num : Rat) = X at *
  generalize (((x.den : Nat) : Int) : Rat) = P at *
  subst a
  grind
theorem HasQ.div (fr : Fit r) (fs : Fit s) (h : HasQ r x) (k : HasQ s y) (hs : 0 < val s.lo) (he : (divR r s).e = 0) : HasQ (divR r s) (x / y) := by
  obtain ⟨u, v⟩ := HasV.div fr fs h.toV k.toV hs he
  refine (HasQ.ofV v).turn ?_
  have a := num_den x
  have b := num_den y
  have p := den_ne x
  have q := den_ne y
  have w : (y.num : Rat) ≠ 0 := by have := Rat.intCast_pos.2 u; grind
  rw [Rat.intCast_mul, Rat.intCast_mul]
  generalize (x.num : Rat) = X at *
  generalize (y.num : Rat) = Y at *
  generalize (((x.den : Nat) : Int) : Rat) = P at *
  generalize (((y.den : Nat) : Int) : Rat) = Q at *
  subst a b
  grind
end
theorem HasQ.one (x : Nat) : HasQ (oneR x) (((val x : Int) : Rat) / ((SS : Int) : Rat)) := HasQ.ofV (HasV.one x)
theorem HasQ.lit {x : Nat} {k : Int} {q : Rat} (h : val x = k * SS) (hq : q = (k : Rat)) : HasQ (oneR x) q := by
  have e : ((val x : Int) : Rat) = q * ((SS : Int) : Rat) := by rw [h, Rat.intCast_mul, hq]
  exact ⟨by show ((val x : Int) : Rat) ≤ _; rw [e]; exact Rat.le_refl, by show _ ≤ ((val x : Int) : Rat); rw [e]; exact Rat.le_refl⟩

/-- An interval has a sequence: one that differs by what goes to nothing lies within it. -/
def HasS (r : Res) (f : Nat → Rat) : Prop := ∃ f', (∀ m, HasQ r (f' m)) ∧ Eqv f' f
section
variable {r s : Res} {f g : Nat → Rat}
theorem HasS.turn (h : HasS r f) (e : Eqv f g) : HasS r g := by
  obtain ⟨f', a, b⟩ := h
  exact ⟨f', a, b.trans e⟩
theorem HasS.const {x : Rat} (h : HasQ r x) : HasS r fun _ => x := ⟨fun _ => x, fun _ => h, Eqv.rfl⟩
theorem hasQ_bd {f : Nat → Rat} (h : ∀ m, HasQ r (f m)) : Bd f := by
  have s := ssQ
  obtain ⟨B, hB⟩ : ∃ B : Rat, B = (((max (val r.lo).natAbs (val r.hi).natAbs : Nat) : Int) : Rat) / ((SS : Int) : Rat) := ⟨_, rfl⟩
  have e : B * ((SS : Int) : Rat) = (((max (val r.lo).natAbs (val r.hi).natAbs : Nat) : Int) : Rat) := by rw [hB]; grind
  have l : (((-(max (val r.lo).natAbs (val r.hi).natAbs : Nat) : Int)) : Rat) ≤ ((val r.lo : Int) : Rat) := Rat.intCast_le_intCast.2 (by omega)
  have u : ((val r.hi : Int) : Rat) ≤ (((max (val r.lo).natAbs (val r.hi).natAbs : Nat) : Int) : Rat) := Rat.intCast_le_intCast.2 (by omega)
  have b0 : (0 : Rat) ≤ (((max (val r.lo).natAbs (val r.hi).natAbs : Nat) : Int) : Rat) := Rat.intCast_nonneg.2 (by omega)
  rw [Rat.intCast_neg] at l
  rw [← e] at l u b0
  have B0 : 0 ≤ B := Rat.le_of_mul_le_mul_right (by rw [Rat.zero_mul]; exact b0) s
  refine ⟨B + 1, by grind, 0, fun m _ => ?_⟩
  have k := h m
  have k1 : f m ≤ B := Rat.le_of_mul_le_mul_right (Rat.le_trans k.high u) s
  have k2 : -B ≤ f m := Rat.le_of_mul_le_mul_right (by have := Rat.le_trans l k.low; grind) s
  constructor <;> grind
theorem HasS.bd (h : HasS r f) : Bd f := by
  obtain ⟨f', a, b⟩ := h
  exact b.bd (hasQ_bd a)
theorem HasS.add (fr : Fit r) (fs : Fit s) (h : HasS r f) (k : HasS s g) (he : (addR r s).e = 0) : HasS (addR r s) fun m => f m + g m := by
  obtain ⟨f', a, b⟩ := h
  obtain ⟨g', c, d⟩ := k
  exact ⟨_, fun m => (a m).add fr fs (c m) he, b.add d⟩
theorem HasS.sub (fr : Fit r) (fs : Fit s) (h : HasS r f) (k : HasS s g) (he : (subR r s).e = 0) : HasS (subR r s) fun m => f m - g m := by
  obtain ⟨f', a, b⟩ := h
  obtain ⟨g', c, d⟩ := k
  exact ⟨_, fun m => (a m).sub fr fs (c m) he, b.sub d⟩
theorem HasS.mul (fr : Fit r) (fs : Fit s) (h : HasS r f) (k : HasS s g) (he : (mulR r s).e = 0) : HasS (mulR r s) fun m => f m * g m := by
  obtain ⟨f', a, b⟩ := h
  obtain ⟨g', c, d⟩ := k
  exact ⟨_, fun m => (a m).mul fr fs (c m) he, b.mul d (hasQ_bd a) (hasQ_bd c)⟩
theorem HasS.sqr (fr : Fit r) (h : HasS r f) (he : (sqrR r).e = 0) : HasS (sqrR r) fun m => f m * f m := by
  obtain ⟨f', a, b⟩ := h
  exact ⟨_, fun m => (a m).sqr fr he, b.mul b (hasQ_bd a) (hasQ_bd a)⟩
/-- Half of its least end bounds what an interval above 0 has. -/
theorem HasS.abv (h : HasS r f) (hs : 0 < val r.lo) : ∃ d : Rat, 0 < d ∧ Abv d f := by
  obtain ⟨f', a, b⟩ := h
  have s := ssQ
  have p : (0 : Rat) < ((val r.lo : Int) : Rat) := Rat.intCast_pos.2 hs
  obtain ⟨B, hB⟩ : ∃ B : Rat, B = ((val r.lo : Int) : Rat) / ((SS : Int) : Rat) := ⟨_, rfl⟩
  have e : B * ((SS : Int) : Rat) = ((val r.lo : Int) : Rat) := by rw [hB]; grind
  have B0 : 0 < B := by
    rw [hB, Rat.div_def]
    exact Rat.mul_pos p (Rat.inv_pos.2 s)
  refine ⟨B / 2, by grind, Abv.of_eqv (d := B) ⟨0, fun m _ => ?_⟩ b (by grind)⟩
  exact Rat.le_of_mul_le_mul_right (by rw [e]; exact (a m).low) s
theorem HasS.div (fr : Fit r) (fs : Fit s) (h : HasS r f) (k : HasS s g) (hs : 0 < val s.lo) (he : (divR r s).e = 0) : HasS (divR r s) fun m => f m / g m := by
  obtain ⟨d1, p1, q1⟩ := k.abv hs
  obtain ⟨f', a, b⟩ := h
  obtain ⟨g', c, d⟩ := k
  obtain ⟨d2, p2, q2⟩ := HasS.abv (⟨g', c, Eqv.rfl⟩ : HasS s g') hs
  have low : ∀ {x y : Rat} {k : Nat → Rat}, x ≤ y → Abv y k → Abv x k := fun hxy ⟨M, hM⟩ => ⟨M, fun m hm => Rat.le_trans hxy (hM m hm)⟩
  rcases Rat.le_total (a := d1) (b := d2) with t | t
  · exact ⟨_, fun m => (a m).div fr fs (c m) hs he, b.div p1 (low t q2) q1 d (hasQ_bd a)⟩
  · exact ⟨_, fun m => (a m).div fr fs (c m) hs he, b.div p2 q2 (low t q1) d (hasQ_bd a)⟩
/-- Two that have the same have a number in common. -/
theorem HasS.meet (h : HasS r f) (k : HasS s f) : val r.lo ≤ val s.hi ∧ val s.lo ≤ val r.hi := by
  have key : ∀ {r s : Res}, HasS r f → HasS s f → val r.lo ≤ val s.hi := fun {r s} h k => by
    obtain ⟨f', a, b⟩ := h
    obtain ⟨g', c, d⟩ := k
    have S := ssQ
    obtain ⟨E, hE⟩ : ∃ E : Rat, E = (1 / 2) / ((SS : Int) : Rat) := ⟨_, rfl⟩
    have e : E * ((SS : Int) : Rat) = 1 / 2 := by rw [hE]; grind
    have E0 : 0 < E := by
      rw [hE, Rat.div_def]
      exact Rat.mul_pos (by grind) (Rat.inv_pos.2 S)
    obtain ⟨M, hM⟩ := (b.trans d.symm) E E0
    have m1 := hM M (Nat.le_refl _)
    have l := (a M).low
    have u := (c M).high
    have t := Rat.mul_le_mul_of_nonneg_right (by grind : f' M ≤ g' M + E) (Rat.le_of_lt S)
    rw [Rat.add_mul, e] at t
    clear hE e E0 hM m1
    generalize ((SS : Int) : Rat) = S' at *
    have n : ((val r.lo : Int) : Rat) ≤ ((val s.hi : Int) : Rat) + 1 / 2 := by grind
    have n' : ((val r.lo : Int) : Rat) < (((val s.hi + 1 : Int)) : Rat) := by
      rw [Rat.intCast_add]
      grind
    have := Rat.intCast_lt_intCast.1 n'
    omega
  exact ⟨key h k, key k h⟩
end

/-- A root, but for e. -/
theorem root_near {x e : Rat} (hx : 0 ≤ x) (he : 0 < e) : ∃ y : Rat, 0 ≤ y ∧ y * y ≤ x ∧ x ≤ y * y + e := by
  obtain ⟨h, h0, h1, h2⟩ : ∃ h : Rat, 0 < h ∧ h ≤ 1 ∧ (2 * x + 3) * h ≤ e := by
    have p : 0 < 2 * x + 3 := by grind
    have q : 0 < e / (2 * x + 3) := by rw [Rat.div_def]; exact Rat.mul_pos he (Rat.inv_pos.2 p)
    rcases Rat.le_total (a := e / (2 * x + 3)) (b := 1) with g | g
    · refine ⟨_, q, g, ?_⟩
      have e1 : (2 * x + 3) * (e / (2 * x + 3)) = e := by grind
      rw [e1]; exact Rat.le_refl
    · refine ⟨1, by grind, by grind, ?_⟩
      have t := Rat.mul_le_mul_of_nonneg_right g (Rat.le_of_lt p)
      have e1 : e / (2 * x + 3) * (2 * x + 3) = e := by grind
      rw [e1] at t
      grind
  have step : ∀ K : Nat, x < ((K : Rat) * h) * ((K : Rat) * h) → ∃ k : Nat, ((k : Rat) * h) * ((k : Rat) * h) ≤ x ∧ x < (((k + 1 : Nat) : Rat) * h) * (((k + 1 : Nat) : Rat) * h) := by
    intro K
    induction K with
    | zero => intro hK; have e0 : ((0 : Nat) : Rat) = 0 := rfl; rw [e0] at hK; grind
    | succ K ih =>
      intro hK
      rcases Rat.le_total (a := ((K : Rat) * h) * ((K : Rat) * h)) (b := x) with g | g
      · exact ⟨K, g, hK⟩
      · by_cases g' : ((K : Rat) * h) * ((K : Rat) * h) = x
        · exact ⟨K, by grind, hK⟩
        · exact ih (by grind)
  have big : ∃ K : Nat, x < ((K : Rat) * h) * ((K : Rat) * h) := by
    refine ⟨((x + 1) / h).ceil.toNat, ?_⟩
    have c := Rat.le_ceil (x := (x + 1) / h)
    have q : 0 < (x + 1) / h := by rw [Rat.div_def]; exact Rat.mul_pos (by grind) (Rat.inv_pos.2 h0)
    have c0 : 0 < ((x + 1) / h).ceil := Rat.intCast_pos.1 (by grind)
    have cn : ((((x + 1) / h).ceil.toNat : Nat) : Rat) = ((((x + 1) / h).ceil : Int) : Rat) := by
      rw [← Rat.intCast_natCast, Int.toNat_of_nonneg (Int.le_of_lt c0)]
    rw [cn]
    generalize ((((x + 1) / h).ceil : Int) : Rat) = C at *
    have t := Rat.mul_le_mul_of_nonneg_right c (Rat.le_of_lt h0)
    have t1 : (x + 1) / h * h = x + 1 := by grind
    rw [t1] at t
    have t2 := Rat.mul_nonneg (by grind : 0 ≤ C * h - (x + 1)) (by grind : 0 ≤ C * h + (x + 1))
    have t3 := Rat.mul_nonneg hx hx
    grind
  obtain ⟨K, hK⟩ := big
  obtain ⟨k, k1, k2⟩ := step K hK
  have ek : ((k + 1 : Nat) : Rat) = (k : Rat) + 1 := by rw [Rat.natCast_add]; rfl
  rw [ek] at k2
  have k0 : (0 : Rat) ≤ (k : Rat) := Rat.natCast_nonneg
  generalize (k : Rat) = c at *
  have y0 := Rat.mul_nonneg k0 (Rat.le_of_lt h0)
  refine ⟨c * h, y0, k1, ?_⟩
  have e2 : (c + 1) * h * ((c + 1) * h) = c * h * (c * h) + (2 * (c * h) + h) * h := by grind
  rw [e2] at k2
  generalize c * h = y at *
  have yx : y ≤ x + 1 := by
    rcases Rat.le_total (a := y) (b := x + 1) with g | g
    · exact g
    · have := Rat.mul_nonneg (by grind : 0 ≤ y - (x + 1)) (by grind : 0 ≤ y + (x + 1))
      have := Rat.mul_nonneg hx hx
      grind
  have t := Rat.mul_le_mul_of_nonneg_right (by grind : 2 * y + h ≤ 2 * x + 3) (Rat.le_of_lt h0)
  grind

theorem rows_nil {f : Nat → Rat} (h : ∀ m : Nat, -(((m : Rat) + 1)⁻¹) ≤ f m ∧ f m ≤ ((m : Rat) + 1)⁻¹) : Nul f := fun e he => by
  refine ⟨(e⁻¹).ceil.toNat, fun m hm => ?_⟩
  have i0 := Rat.inv_pos.2 he
  have c := Rat.le_ceil (x := e⁻¹)
  have c0 : 0 < (e⁻¹).ceil := Rat.intCast_pos.1 (by grind)
  have cm : ((e⁻¹).ceil : Int) ≤ (m : Int) := by omega
  have cq : (((e⁻¹).ceil : Int) : Rat) ≤ (m : Rat) := by
    have := Rat.intCast_le_intCast.2 cm
    rw [Rat.intCast_natCast] at this; exact this
  have mp : 0 < (m : Rat) + 1 := by
    have : (0 : Rat) ≤ (m : Rat) := Rat.natCast_nonneg
    grind
  have k := h m
  have key : ((m : Rat) + 1)⁻¹ ≤ e := by
    refine Rat.le_of_mul_le_mul_right (c := (m : Rat) + 1) ?_ mp
    have e1 : ((m : Rat) + 1)⁻¹ * ((m : Rat) + 1) = 1 := by grind
    have e2 := Rat.mul_le_mul_of_nonneg_left (by grind : e⁻¹ ≤ (m : Rat) + 1) (Rat.le_of_lt he)
    have e3 : e * e⁻¹ = 1 := by grind
    rw [e1]; grind
  constructor <;> grind

theorem HasQ.root_fit {r : Res} (fr : Fit r) (he : (sqrtR r).e = 0) : Fit (sqrtR r) := (root_in (.refl fr) fr he).fit
/-- Within the interval of the root of what has x, near a root of x. -/
theorem rootQ_in {r : Res} {x e : Rat} (fr : Fit r) (h : HasQ r x) (he : (sqrtR r).e = 0) (h0 : 0 < e) : ∃ y : Rat, HasQ (sqrtR r) y ∧ 0 ≤ y ∧ -e ≤ y * y - x ∧ y * y - x ≤ e := by
  obtain ⟨p0, ⟨p1, p2, _⟩, q1, q2, _⟩ := sqrt_parts fr he
  have S := ssQ
  have l0 := Rat.intCast_nonneg.2 p0
  have a1 := Rat.intCast_nonneg.2 p1
  have b1 := Rat.intCast_nonneg.2 q1
  have a2 := Rat.intCast_le_intCast.2 p2
  have b2 := Rat.intCast_le_intCast.2 q2
  rw [Rat.intCast_mul, Rat.intCast_mul] at a2 b2
  have fs : val (sqrtR r).lo ≤ val (sqrtR r).hi := (HasQ.root_fit fr he).le
  have fs' := Rat.intCast_le_intCast.2 fs
  have hl := h.low
  have hh := h.high
  have x0 : 0 ≤ x := by
    refine Rat.le_of_mul_le_mul_right (c := ((SS : Int) : Rat)) ?_ S
    rw [Rat.zero_mul]; exact Rat.le_trans l0 hl
  obtain ⟨y, y0, y1, y2⟩ := root_near x0 h0
  generalize hL : ((val (sqrtR r).lo : Int) : Rat) = L at *
  generalize hU : ((val (sqrtR r).hi : Int) : Rat) = U at *
  generalize ((val r.lo : Int) : Rat) = lo at *
  generalize ((val r.hi : Int) : Rat) = hi at *
  generalize hS : ((SS : Int) : Rat) = s at *
  -- the ends' squares lie about x
  have t1 : L * L ≤ x * s * s := Rat.le_trans a2 (Rat.mul_le_mul_of_nonneg_right hl (Rat.le_of_lt S))
  have t2 : x * s * s ≤ U * U := Rat.le_trans (Rat.mul_le_mul_of_nonneg_right hh (Rat.le_of_lt S)) b2
  have div : ∀ T : Rat, T / s * s = T := fun T => by grind
  have le_of : ∀ {A B : Rat}, A * (s * s) ≤ B * (s * s) → A ≤ B := fun h => Rat.le_of_mul_le_mul_right h (Rat.mul_pos S S)
  rcases Rat.le_total (a := y * s) (b := L) with g | g
  · refine ⟨L / s, ⟨by rw [hS, hL, div]; exact Rat.le_refl, by rw [hS, hU, div]; exact fs'⟩, ?_, ?_, ?_⟩
    · refine Rat.le_of_mul_le_mul_right (c := s) ?_ S
      rw [Rat.zero_mul, div]; exact a1
    · have k : y * y ≤ L / s * (L / s) := le_of (by
        have e1 : L / s * (L / s) * (s * s) = L * L := by grind
        rw [e1]
        have := Rat.mul_nonneg (by grind : 0 ≤ L - y * s) (by have := Rat.mul_nonneg y0 (Rat.le_of_lt S); grind : 0 ≤ L + y * s)
        grind)
      grind
    · have k : L / s * (L / s) ≤ x := le_of (by
        have e1 : L / s * (L / s) * (s * s) = L * L := by grind
        rw [e1]; grind)
      grind
  · rcases Rat.le_total (a := y * s) (b := U) with g' | g'
    · exact ⟨y, ⟨by rw [hS, hL]; exact g, by rw [hS, hU]; exact g'⟩, y0, by grind, by grind⟩
    · refine ⟨U / s, ⟨by rw [hS, hL, div]; exact fs', by rw [hS, hU, div]; exact Rat.le_refl⟩, ?_, ?_, ?_⟩
      · refine Rat.le_of_mul_le_mul_right (c := s) ?_ S
        rw [Rat.zero_mul, div]; exact b1
      · have k : x ≤ U / s * (U / s) := le_of (by
          have e1 : U / s * (U / s) * (s * s) = U * U := by grind
          rw [e1]; grind)
        grind
      · have k : U / s * (U / s) ≤ y * y := le_of (by
          have e1 : U / s * (U / s) * (s * s) = U * U := by grind
          rw [e1]
          have := Rat.mul_nonneg (by grind : 0 ≤ y * s - U) (by grind : 0 ≤ y * s + U)
          grind)
        grind
theorem HasS.sqrt {r : Res} {f : Nat → Rat} (fr : Fit r) (h : HasS r f) (he : (sqrtR r).e = 0) : ∃ y : Nat → Rat, HasS (sqrtR r) y ∧ (∀ m, 0 ≤ y m) ∧ Eqv (fun m => y m * y m) f := by
  obtain ⟨f', a, b⟩ := h
  have ex : ∀ m : Nat, ∃ y : Rat, HasQ (sqrtR r) y ∧ 0 ≤ y ∧ -(((m : Rat) + 1)⁻¹) ≤ y * y - f' m ∧ y * y - f' m ≤ ((m : Rat) + 1)⁻¹ := fun m =>
    rootQ_in fr (a m) he (Rat.inv_pos.2 (by have : (0 : Rat) ≤ (m : Rat) := Rat.natCast_nonneg; grind))
  refine ⟨fun m => Classical.choose (ex m), ⟨_, fun m => (Classical.choose_spec (ex m)).1, Eqv.rfl⟩, fun m => (Classical.choose_spec (ex m)).2.1, Eqv.trans ?_ b⟩
  exact rows_nil fun m => (Classical.choose_spec (ex m)).2.2
end Go.Proofs.Ytoocmocaelcbkaa
