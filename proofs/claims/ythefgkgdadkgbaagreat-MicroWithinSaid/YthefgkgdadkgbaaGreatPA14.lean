/- What the claim stands on, part 15: QO2, Btw, MiV. -/
import Derived.Test.YthefgkgdadkgbaaGreatPA13
import Derived.Test.YthefgkgdadkgbaaGreatPA12
import Derived.Deep.RegionHeld3
namespace Go.Proofs.YthefgkgdadkgbaaGreat
open Go.RowKit

theorem HasV.to {r : Res} {P T P' T' : Int} (h : HasV r P T) (hP : 0 < P') (e : T * P' = T' * P) : HasV r P' T' := by
  have p := h.pos
  refine ⟨hP, ?_, ?_⟩
  · refine Int.le_of_mul_le_mul_right ?_ p
    have k := Int.mul_le_mul_of_nonneg_right h.low (Int.le_of_lt hP)
    have e1 : val r.lo * P' * P = val r.lo * P * P' := by grind
    have e2 : T' * SS * P = T * SS * P' := by grind
    rw [e1, e2]; exact k
  · refine Int.le_of_mul_le_mul_right ?_ p
    have k := Int.mul_le_mul_of_nonneg_right h.high (Int.le_of_lt hP)
    have e1 : val r.hi * P' * P = val r.hi * P * P' := by grind
    have e2 : T' * SS * P = T * SS * P' := by grind
    rw [e1, e2]; exact k
def wAdd (r : Res) (wa wb : Int) : Int := wa + wb + 2 * gapP r
def wMul (r A B : Res) (wa wb : Int) : Int := (wa * magn B + magn A * wb) / SS + 2 * gapP r
def wDiv (r A B : Res) (wa wb : Int) : Int := SS * (wa * magn B + magn A * wb) / (val B.lo * val B.lo) + 2 * gapP r
def wSqr (r A : Res) (wa : Int) : Int := wa * (2 * magn A) / SS + 2 * gapP r
def wSqrt (r : Res) (wa : Int) : Int := wa * SS / (2 * val r.lo) + 2 * gapP r

def Di.w2 (_C N : Res) (wn : Int) : Int := wSqr (Di.s2 _C N) N wn
def Di.w3 (C N : Res) (wn : Int) : Int := wAdd (Di.s3 C N) (Di.w2 C N wn) 0
def Di.w5 (C N : Res) (wn : Int) : Int := wAdd (Di.s5 C N) (Di.w3 C N wn) (wSqr (Di.s4 C N) C 0)
def Di.wg (C N : Res) (wn : Int) : Int := wSqrt (Di.g C N) (Di.w5 C N wn)
def Di.wmore (C N : Res) (wn : Int) : Int := wAdd (Di.more C N) (Di.wg C N wn) 0
def Di.wless (C N : Res) (wn : Int) : Int := wAdd (Di.less C N) (Di.wg C N wn) 0
def Di.wpq (C N : Res) (wn : Int) : Int := wDiv (Di.pq C N) (Di.less C N) (Di.more C N) (Di.wless C N wn) (Di.wmore C N wn)
def Di.wp (C N : Res) (wn : Int) : Int := wSqr (Di.p C N) (Di.pq C N) (Di.wpq C N wn)
def Di.w11 (C N : Res) (wn : Int) : Int := wMul (Di.m11 C N) C (Di.more C N) 0 (Di.wmore C N wn)
def Di.wover (C N : Res) (wn : Int) : Int := wAdd (Di.over C N) (Di.w11 C N wn) 0
def Di.w13 (C N : Res) (wn : Int) : Int := wMul (Di.m13 C N) C (Di.less C N) 0 (Di.wless C N wn)
def Di.wunder (C N : Res) (wn : Int) : Int := wAdd (Di.under C N) (Di.w13 C N wn) 0
def Di.wqq (C N : Res) (wn : Int) : Int := wDiv (Di.qq C N) (Di.over C N) (Di.under C N) (Di.wover C N wn) (Di.wunder C N wn)
def Di.wq (C N : Res) (wn : Int) : Int := wSqr (Di.q C N) (Di.qq C N) (Di.wqq C N wn)
def Di.whp (C N : Res) (wn : Int) : Int := wMul (Di.hp C N) (oneR 4602678819172646912) (Di.p C N) 0 (Di.wp C N wn)
def Di.woq (C N : Res) (wn : Int) : Int := wAdd (Di.oq C N) 0 (Di.wq C N wn)
def Di.wf (C N : Res) (wn : Int) : Int := wMul (Di.f C N) (Di.hp C N) (Di.oq C N) (Di.whp C N wn) (Di.woq C N wn)
def kOk (r : Res) : Bool := decide (gapK r ≤ 1899)
def Di.ok (C N : Res) : Bool := kOk (Di.s2 C N) && kOk (Di.s3 C N) && kOk (Di.s4 C N) && kOk (Di.s5 C N) && kOk (Di.g C N) && kOk (Di.more C N) && kOk (Di.less C N) && kOk (Di.pq C N) && kOk (Di.p C N) && kOk (Di.m11 C N) && kOk (Di.over C N) && kOk (Di.m13 C N) && kOk (Di.under C N) && kOk (Di.qq C N) && kOk (Di.q C N) && kOk (Di.hp C N) && kOk (Di.oq C N) && kOk (Di.f C N)
  && decide (0 < val (Di.g C N).lo) && decide (0 < val (Di.more C N).lo) && decide (0 < val (Di.under C N).lo)

end Go.Proofs.YthefgkgdadkgbaaGreat

namespace Go.Proofs.YthefgkgdadkgbaaGreat
open Go.RowKit

structure BW where
  R : Res
  w : Int
structure Snd (r : Res) (x : BW) : Prop where
  wid : Wid r x.R x.w
  fit : Fit x.R
def bok (x : BW) : Bool := fitB x.R && kOk x.R
def BW.add (x y : BW) : BW := ⟨addR x.R y.R, wAdd (addR x.R y.R) x.w y.w⟩
def BW.sub (x y : BW) : BW := ⟨subR x.R y.R, wAdd (subR x.R y.R) x.w y.w⟩
def BW.mul (x y : BW) : BW := ⟨mulR x.R y.R, wMul (mulR x.R y.R) x.R y.R x.w y.w⟩
def BW.div (x y : BW) : BW := ⟨divR x.R y.R, wDiv (divR x.R y.R) x.R y.R x.w y.w⟩
def BW.sqr (x : BW) : BW := ⟨sqrR x.R, wSqr (sqrR x.R) x.R x.w⟩
def BW.sqrt (x : BW) : BW := ⟨sqrtR x.R, wSqrt (sqrtR x.R) x.w⟩
def BW.one (x : Nat) : BW := ⟨oneR x, 0⟩
theorem bok_parts {x : BW} (h : bok x = true) : Fit x.R ∧ gapK x.R ≤ 1899 := by
  unfold bok kOk at h
  simp only [Bool.and_eq_true, decide_eq_true_eq] at h
  exact ⟨.of h.1, h.2⟩

section
variable {r s : Res} {x y : BW} (h : Snd r x) (g : Snd s y)
include h
theorem Snd.sqr (ok : bok x.sqr = true) : Snd (sqrR r) x.sqr := by
  obtain ⟨f, k⟩ := bok_parts ok
  exact ⟨Wid.sqr h.wid h.fit f.e k, f⟩
theorem Snd.sqrt (ok : bok x.sqrt = true) (l : 0 < val x.sqrt.R.lo) : Snd (sqrtR r) x.sqrt := by
  obtain ⟨f, k⟩ := bok_parts ok
  exact ⟨Wid.sqrt h.wid h.fit l f.e k, f⟩
include g
theorem Snd.add (ok : bok (x.add y) = true) : Snd (addR r s) (x.add y) := by
  obtain ⟨f, k⟩ := bok_parts ok
  exact ⟨Wid.add h.wid h.fit g.wid g.fit f.e k, f⟩
theorem Snd.sub (ok : bok (x.sub y) = true) : Snd (subR r s) (x.sub y) := by
  obtain ⟨f, k⟩ := bok_parts ok
  exact ⟨Wid.sub h.wid h.fit g.wid g.fit f.e k, f⟩
theorem Snd.mul (ok : bok (x.mul y) = true) : Snd (mulR r s) (x.mul y) := by
  obtain ⟨f, k⟩ := bok_parts ok
  exact ⟨Wid.mul h.wid h.fit g.wid g.fit f.e k, f⟩
theorem Snd.div (ok : bok (x.div y) = true) (l : 0 < val y.R.lo) : Snd (divR r s) (x.div y) := by
  obtain ⟨f, k⟩ := bok_parts ok
  exact ⟨Wid.div h.wid h.fit g.wid g.fit l f.e k, f⟩
end
theorem Snd.one {x : Nat} (lx : x < 18446744073709551616) (rx : rightB x = true) : Snd (oneR x) (BW.one x) := ⟨.one (.refl (one_fit lx rx)), one_fit lx rx⟩
theorem Snd.box {x a b : Nat} (fB : Fit ⟨0, a, b⟩) (f : Fit (oneR x)) (h1 : val a ≤ val x) (h2 : val x ≤ val b) : Snd (oneR x) ⟨⟨0, a, b⟩, 0⟩ := ⟨.one ⟨f, h1, h2⟩, fB⟩
theorem Snd.exact {r : Res} (f : Fit r) (h : val r.hi ≤ val r.lo) : Snd r ⟨r, 0⟩ := ⟨⟨.refl f, by show val r.hi - val r.lo ≤ 0; omega⟩, f⟩

end Go.Proofs.YthefgkgdadkgbaaGreat

namespace Go.Proofs.YthefgkgdadkgbaaGreat
open Go.RowKit

def Nul (f : Nat → Rat) : Prop := ∀ e : Rat, 0 < e → ∃ M : Nat, ∀ m, M ≤ m → -e ≤ f m ∧ f m ≤ e
def Bd (f : Nat → Rat) : Prop := ∃ B : Rat, 0 < B ∧ ∃ M : Nat, ∀ m, M ≤ m → -B ≤ f m ∧ f m ≤ B
def Eqv (f g : Nat → Rat) : Prop := Nul fun m => f m - g m
def Abv (d : Rat) (f : Nat → Rat) : Prop := ∃ M : Nat, ∀ m, M ≤ m → d ≤ f m

theorem rat_mul {x y B e : Rat} (h1 : -B ≤ x) (h2 : x ≤ B) (h3 : -e ≤ y) (h4 : y ≤ e) : -(B * e) ≤ x * y ∧ x * y ≤ B * e := by
  have a := Rat.mul_nonneg (by grind : 0 ≤ B - x) (by grind : 0 ≤ e + y)
  have b := Rat.mul_nonneg (by grind : 0 ≤ B + x) (by grind : 0 ≤ e - y)
  have c := Rat.mul_nonneg (by grind : 0 ≤ B - x) (by grind : 0 ≤ e - y)
  have d := Rat.mul_nonneg (by grind : 0 ≤ B + x) (by grind : 0 ≤ e + y)
  constructor <;> grind

section
variable {f g f' g' : Nat → Rat}
theorem Nul.add (h : Nul f) (k : Nul g) : Nul fun m => f m + g m := fun e he => by
  obtain ⟨M, hM⟩ := h (e / 2) (by grind)
  obtain ⟨N, hN⟩ := k (e / 2) (by grind)
  refine ⟨M + N, fun m hm => ?_⟩
  have a := hM m (by omega)
  have b := hN m (by omega)
  constructor <;> grind
theorem Nul.neg (h : Nul f) : Nul fun m => -f m := fun e he => by
  obtain ⟨M, hM⟩ := h e he
  refine ⟨M, fun m hm => ?_⟩
  have a := hM m hm
  constructor <;> grind
theorem Nul.zero : Nul fun _ => 0 := fun e he => ⟨0, fun _ _ => by constructor <;> grind⟩
theorem Nul.of (h : Nul f) (e : ∀ m, f m = g m) : Nul g := by
  have : f = g := funext e
  rw [← this]; exact h
theorem Nul.mul (k : Bd f) (h : Nul g) : Nul fun m => f m * g m := fun e he => by
  obtain ⟨B, hB, N, hN⟩ := k
  have hd : 0 < e / B := by
    have := Rat.mul_pos he (Rat.inv_pos.2 hB)
    rw [Rat.div_def]; exact this
  obtain ⟨M, hM⟩ := h (e / B) hd
  refine ⟨M + N, fun m hm => ?_⟩
  have a := hM m (by omega)
  have b := hN m (by omega)
  have c := rat_mul b.1 b.2 a.1 a.2
  have e1 : B * (e / B) = e := by grind
  rw [e1] at c
  exact c
theorem Nul.bd (h : Nul f) : Bd f := by
  obtain ⟨M, hM⟩ := h 1 (by grind)
  exact ⟨1, by grind, M, hM⟩
theorem Bd.add (h : Bd f) (k : Bd g) : Bd fun m => f m + g m := by
  obtain ⟨B, hB, M, hM⟩ := h
  obtain ⟨C, hC, N, hN⟩ := k
  refine ⟨B + C, by grind, M + N, fun m hm => ?_⟩
  have a := hM m (by omega)
  have b := hN m (by omega)
  constructor <;> grind
theorem Bd.neg (h : Bd f) : Bd fun m => -f m := by
  obtain ⟨B, hB, M, hM⟩ := h
  refine ⟨B, hB, M, fun m hm => ?_⟩
  have a := hM m hm
  constructor <;> grind
theorem Bd.sub (h : Bd f) (k : Bd g) : Bd fun m => f m - g m := by
  obtain ⟨B, hB, M, hM⟩ := h.add k.neg
  refine ⟨B, hB, M, fun m hm => ?_⟩
  have a := hM m hm
  constructor <;> grind
theorem Bd.mul (h : Bd f) (k : Bd g) : Bd fun m => f m * g m := by
  obtain ⟨B, hB, M, hM⟩ := h
  obtain ⟨C, hC, N, hN⟩ := k
  refine ⟨B * C, Rat.mul_pos hB hC, M + N, fun m hm => ?_⟩
  have a := hM m (by omega)
  have b := hN m (by omega)
  exact rat_mul a.1 a.2 b.1 b.2
theorem Bd.const (c : Rat) : Bd fun _ => c := by
  rcases Rat.le_total (a := 0) (b := c) with h | h
  · exact ⟨c + 1, by grind, 0, fun _ _ => by constructor <;> grind⟩
  · exact ⟨1 - c, by grind, 0, fun _ _ => by constructor <;> grind⟩
theorem Eqv.rfl : Eqv f f := Nul.zero.of fun m => by grind
theorem Eqv.symm (h : Eqv f g) : Eqv g f := (Nul.neg h).of fun m => by grind
theorem Eqv.trans {k : Nat → Rat} (h : Eqv f g) (h' : Eqv g k) : Eqv f k := (Nul.add h h').of fun m => by grind
theorem Eqv.of (e : ∀ m, f m = g m) : Eqv f g := Nul.zero.of fun m => by rw [e m]; grind
theorem Eqv.bd (h : Eqv f g) (k : Bd f) : Bd g := by
  obtain ⟨B, hB, M, hM⟩ := k.sub (Nul.bd h)
  refine ⟨B, hB, M, fun m hm => ?_⟩
  have a := hM m hm
  constructor <;> grind
theorem Eqv.add (h : Eqv f f') (k : Eqv g g') : Eqv (fun m => f m + g m) fun m => f' m + g' m := (Nul.add h k).of fun m => by grind
theorem Eqv.neg (h : Eqv f f') : Eqv (fun m => -f m) fun m => -f' m := (Nul.neg h).of fun m => by grind
theorem Eqv.sub (h : Eqv f f') (k : Eqv g g') : Eqv (fun m => f m - g m) fun m => f' m - g' m := (Nul.add h (Nul.neg k)).of fun m => by grind
theorem Eqv.mul (h : Eqv f f') (k : Eqv g g') (bf : Bd f) (bg : Bd g) : Eqv (fun m => f m * g m) fun m => f' m * g' m :=
  (Nul.add (Nul.mul (h.bd bf) k) (Nul.mul bg h)).of fun m => by grind
theorem Abv.of_eqv {d d' : Rat} (h : Abv d f) (k : Eqv f g) (hd : d' < d) : Abv d' g := by
  obtain ⟨M, hM⟩ := h
  obtain ⟨N, hN⟩ := k (d - d') (by grind)
  refine ⟨M + N, fun m hm => ?_⟩
  have a := hM m (by omega)
  have b := hN m (by omega)
  grind
theorem Abv.inv {d : Rat} (h0 : 0 < d) (h : Abv d f) : Bd fun m => (f m)⁻¹ := by
  obtain ⟨M, hM⟩ := h
  refine ⟨d⁻¹, Rat.inv_pos.2 h0, M, fun m hm => ?_⟩
  have a := hM m hm
  have p : 0 < f m := by grind
  have i := Rat.inv_pos.2 p
  have j := Rat.inv_pos.2 h0
  constructor
  · grind
  · refine Rat.le_of_mul_le_mul_right (c := f m) ?_ p
    have e1 : (f m)⁻¹ * f m = 1 := by grind
    have e2 := Rat.mul_le_mul_of_nonneg_left a (by grind : 0 ≤ d⁻¹)
    have e3 : d⁻¹ * d = 1 := by grind
    rw [e1]; grind
theorem Eqv.inv {d : Rat} (h0 : 0 < d) (lf : Abv d f) (lg : Abv d g) (h : Eqv f g) : Eqv (fun m => (f m)⁻¹) fun m => (g m)⁻¹ := by
  have k := Nul.mul ((lf.inv h0).mul (lg.inv h0)) (Nul.neg h)
  obtain ⟨M, hM⟩ := lf
  obtain ⟨N, hN⟩ := lg
  intro e he
  obtain ⟨L, hL⟩ := k e he
  refine ⟨L + M + N, fun m hm => ?_⟩
  have a := hL m (by omega)
  have b := hM m (by omega)
  have c := hN m (by omega)
  have e1 : (f m)⁻¹ * (g m)⁻¹ * -(f m - g m) = (f m)⁻¹ - (g m)⁻¹ := by
    have p : f m ≠ 0 := by grind
    have q : g m ≠ 0 := by grind
    grind
  dsimp only at a ⊢
  rw [e1] at a
  exact a
theorem Eqv.div {d : Rat} (h0 : 0 < d) (lg : Abv d g) (lg' : Abv d g') (h : Eqv f f') (k : Eqv g g') (bf : Bd f) : Eqv (fun m => f m / g m) fun m => f' m / g' m := by
  have r := Eqv.mul h (Eqv.inv h0 lg lg' k) bf (lg.inv h0)
  exact r.symm.symm.trans (Eqv.of fun m => (Rat.div_def _ _).symm) |> fun t => (Eqv.of fun m => Rat.div_def _ _).trans t
end

structure HasQ (r : Res) (x : Rat) : Prop where
  low : ((val r.lo : Int) : Rat) ≤ x * ((SS : Int) : Rat)
  high : x * ((SS : Int) : Rat) ≤ ((val r.hi : Int) : Rat)
theorem ssQ : (0 : Rat) < ((SS : Int) : Rat) := Rat.intCast_pos.2 SS0
theorem HasQ.ofV {r : Res} {P T : Int} (h : HasV r P T) : HasQ r ((T : Rat) / (P : Rat)) := by
  have p : (0 : Rat) < (P : Rat) := Rat.intCast_pos.2 h.pos
  have a := Rat.intCast_le_intCast.2 h.low
  have b := Rat.intCast_le_intCast.2 h.high
  rw [Rat.intCast_mul, Rat.intCast_mul] at a b
  have e : (T : Rat) / (P : Rat) * ((SS : Int) : Rat) * (P : Rat) = (T : Rat) * ((SS : Int) : Rat) := by grind
  exact ⟨Rat.le_of_mul_le_mul_right (by rw [e]; exact a) p, Rat.le_of_mul_le_mul_right (by rw [e]; exact b) p⟩
theorem num_den (x : Rat) : (x.num : Rat) / (((x.den : Nat) : Int) : Rat) = x := by rw [← Rat.divInt_eq_div]; exact Rat.num_divInt_den x
theorem HasQ.toV {r : Res} {x : Rat} (h : HasQ r x) : HasV r x.den x.num := by
  have d0 : (0 : Int) < ((x.den : Nat) : Int) := Int.natCast_pos.2 x.den_pos
  have p : (0 : Rat) < (((x.den : Nat) : Int) : Rat) := Rat.intCast_pos.2 d0
  have e := num_den x
  have e' : x * (((x.den : Nat) : Int) : Rat) = (x.num : Rat) := by rw [← e]; grind
  refine ⟨d0, ?_, ?_⟩
  · refine Rat.intCast_le_intCast.1 ?_
    rw [Rat.intCast_mul, Rat.intCast_mul, ← e']
    have := Rat.mul_le_mul_of_nonneg_right h.low (Rat.le_of_lt p)
    grind
  · refine Rat.intCast_le_intCast.1 ?_
    rw [Rat.intCast_mul, Rat.intCast_mul, ← e']
    have := Rat.mul_le_mul_of_nonneg_right h.high (Rat.le_of_lt p)
    grind
theorem HasQ.turn {r : Res} {x y : Rat} (h : HasQ r x) (e : x = y) : HasQ r y := e ▸ h
section
variable {r s : Res} {x y : Rat}
theorem den_ne (x : Rat) : (((x.den : Nat) : Int) : Rat) ≠ 0 := by
  have := Rat.intCast_pos.2 (Int.natCast_pos.2 x.den_pos)
  grind
theorem HasQ.add (fr : Fit r) (fs : Fit s) (h : HasQ r x) (k : HasQ s y) (he : (addR r s).e = 0) : HasQ (addR r s) (x + y) := by
  refine (HasQ.ofV (HasV.add fr fs h.toV k.toV he)).turn ?_
  have a := num_den x
  have b := num_den y
  have p := den_ne x
  have q := den_ne y
  rw [Rat.intCast_add, Rat.intCast_mul, Rat.intCast_mul, Rat.intCast_mul]
  generalize (x.num : Rat) = X at *
  generalize (y.num : Rat) = Y at *
  generalize (((x.den : Nat) : Int) : Rat) = P at *
  generalize (((y.den : Nat) : Int) : Rat) = Q at *
  subst a b
  grind
theorem HasQ.sub (fr : Fit r) (fs : Fit s) (h : HasQ r x) (k : HasQ s y) (he : (subR r s).e = 0) : HasQ (subR r s) (x - y) := by
  refine (HasQ.ofV (HasV.sub fr fs h.toV k.toV he)).turn ?_
  have a := num_den x
  have b := num_den y
  have p := den_ne x
  have q := den_ne y
  rw [Rat.intCast_sub, Rat.intCast_mul, Rat.intCast_mul, Rat.intCast_mul]
  generalize (x.num : Rat) = X at *
  generalize (y.num : Rat) = Y at *
  generalize (((x.den : Nat) : Int) : Rat) = P at *
  generalize (((y.den : Nat) : Int) : Rat) = Q at *
  subst a b
  grind
theorem HasQ.mul (fr : Fit r) (fs : Fit s) (h : HasQ r x) (k : HasQ s y) (he : (mulR r s).e = 0) : HasQ (mulR r s) (x * y) := by
  refine (HasQ.ofV (HasV.mul fr fs h.toV k.toV he)).turn ?_
  have a := num_den x
  have b := num_den y
  have p := den_ne x
  have q := den_ne y
  rw [Rat.intCast_mul, Rat.intCast_mul]
  generalize (x.num : Rat) = X at *
  generalize (y.num : Rat) = Y at *
  generalize (((x.den : Nat) : Int) : Rat) = P at *
  generalize (((y.den : Nat) : Int) : Rat) = Q at *
  subst a b
  grind
theorem HasQ.sqr (fr : Fit r) (h : HasQ r x) (he : (sqrR r).e = 0) : HasQ (sqrR r) (x * x) := by
  refine (HasQ.ofV (HasV.sqr fr h.toV he)).turn ?_
  have a := num_den x
  have p := den_ne x
  rw [Rat.intCast_mul, Rat.intCast_mul]
  generalize (x.num : Rat) = X at *
  generalize (((x.den : Nat) : Int) : Rat) = P at *
  subst a
  grind
theorem HasQ.div (fr : Fit r) (fs : Fit s) (h : HasQ r x) (k : HasQ s y) (hs : 0 < val s.lo) (he : (divR r s).e = 0) : HasQ (divR r s) (x / y) := by
  obtain ⟨u, v⟩ := HasV.div fr fs h.toV k.toV hs he
  refine (HasQ.ofV v).turn ?_
  have a := num_den x
  have b := num_den y
  have p := den_ne x
  have q := den_ne y
  have w : (y.num : Rat) ≠ 0 := by have := Rat.intCast_pos.2 u; grind
  rw [Rat.intCast_mul, Rat.intCast_mul]
  generalize (x.num : Rat) = X at *
  generalize (y.num : Rat) = Y at *
  generalize (((x.den : Nat) : Int) : Rat) = P at *
  generalize (((y.den : Nat) : Int) : Rat) = Q at *
  subst a b
  grind
end
theorem HasQ.one (x : Nat) : HasQ (oneR x) (((val x : Int) : Rat) / ((SS : Int) : Rat)) := HasQ.ofV (HasV.one x)
theorem HasQ.lit {x : Nat} {k : Int} {q : Rat} (h : val x = k * SS) (hq : q = (k : Rat)) : HasQ (oneR x) q := by
  have e : ((val x : Int) : Rat) = q * ((SS : Int) : Rat) := by rw [h, Rat.intCast_mul, hq]
  exact ⟨by show ((val x : Int) : Rat) ≤ _; rw [e]; exact Rat.le_refl, by show _ ≤ ((val x : Int) : Rat); rw [e]; exact Rat.le_refl⟩

def HasS (r : Res) (f : Nat → Rat) : Prop := ∃ f', (∀ m, HasQ r (f' m)) ∧ Eqv f' f
section
variable {r s : Res} {f g : Nat → Rat}
theorem HasS.turn (h : HasS r f) (e : Eqv f g) : HasS r g := by
  obtain ⟨f', a, b⟩ := h
  exact ⟨f', a, b.trans e⟩
theorem HasS.const {x : Rat} (h : HasQ r x) : HasS r fun _ => x := ⟨fun _ => x, fun _ => h, Eqv.rfl⟩
theorem hasQ_bd {f : Nat → Rat} (h : ∀ m, HasQ r (f m)) : Bd f := by
  have s := ssQ
  obtain ⟨B, hB⟩ : ∃ B : Rat, B = (((max (val r.lo).natAbs (val r.hi).natAbs : Nat) : Int) : Rat) / ((SS : Int) : Rat) := ⟨_, rfl⟩
  have e : B * ((SS : Int) : Rat) = (((max (val r.lo).natAbs (val r.hi).natAbs : Nat) : Int) : Rat) := by rw [hB]; grind
  have l : (((-(max (val r.lo).natAbs (val r.hi).natAbs : Nat) : Int)) : Rat) ≤ ((val r.lo : Int) : Rat) := Rat.intCast_le_intCast.2 (by omega)
  have u : ((val r.hi : Int) : Rat) ≤ (((max (val r.lo).natAbs (val r.hi).natAbs : Nat) : Int) : Rat) := Rat.intCast_le_intCast.2 (by omega)
  have b0 : (0 : Rat) ≤ (((max (val r.lo).natAbs (val r.hi).natAbs : Nat) : Int) : Rat) := Rat.intCast_nonneg.2 (by omega)
  rw [Rat.intCast_neg] at l
  rw [← e] at l u b0
  have B0 : 0 ≤ B := Rat.le_of_mul_le_mul_right (by rw [Rat.zero_mul]; exact b0) s
  refine ⟨B + 1, by grind, 0, fun m _ => ?_⟩
  have k := h m
  have k1 : f m ≤ B := Rat.le_of_mul_le_mul_right (Rat.le_trans k.high u) s
  have k2 : -B ≤ f m := Rat.le_of_mul_le_mul_right (by have := Rat.le_trans l k.low; grind) s
  constructor <;> grind
theorem HasS.bd (h : HasS r f) : Bd f := by
  obtain ⟨f', a, b⟩ := h
  exact b.bd (hasQ_bd a)
theorem HasS.add (fr : Fit r) (fs : Fit s) (h : HasS r f) (k : HasS s g) (he : (addR r s).e = 0) : HasS (addR r s) fun m => f m + g m := by
  obtain ⟨f', a, b⟩ := h
  obtain ⟨g', c, d⟩ := k
  exact ⟨_, fun m => (a m).add fr fs (c m) he, b.add d⟩
theorem HasS.sub (fr : Fit r) (fs : Fit s) (h : HasS r f) (k : HasS s g) (he : (subR r s).e = 0) : HasS (subR r s) fun m => f m - g m := by
  obtain ⟨f', a, b⟩ := h
  obtain ⟨g', c, d⟩ := k
  exact ⟨_, fun m => (a m).sub fr fs (c m) he, b.sub d⟩
theorem HasS.mul (fr : Fit r) (fs : Fit s) (h : HasS r f) (k : HasS s g) (he : (mulR r s).e = 0) : HasS (mulR r s) fun m => f m * g m := by
  obtain ⟨f', a, b⟩ := h
  obtain ⟨g', c, d⟩ := k
  exact ⟨_, fun m => (a m).mul fr fs (c m) he, b.mul d (hasQ_bd a) (hasQ_bd c)⟩
theorem HasS.sqr (fr : Fit r) (h : HasS r f) (he : (sqrR r).e = 0) : HasS (sqrR r) fun m => f m * f m := by
  obtain ⟨f', a, b⟩ := h
  exact ⟨_, fun m => (a m).sqr fr he, b.mul b (hasQ_bd a) (hasQ_bd a)⟩
theorem HasS.abv (h : HasS r f) (hs : 0 < val r.lo) : ∃ d : Rat, 0 < d ∧ Abv d f := by
  obtain ⟨f', a, b⟩ := h
  have s := ssQ
  have p : (0 : Rat) < ((val r.lo : Int) : Rat) := Rat.intCast_pos.2 hs
  obtain ⟨B, hB⟩ : ∃ B : Rat, B = ((val r.lo : Int) : Rat) / ((SS : Int) : Rat) := ⟨_, rfl⟩
  have e : B * ((SS : Int) : Rat) = ((val r.lo : Int) : Rat) := by rw [hB]; grind
  have B0 : 0 < B := by
    rw [hB, Rat.div_def]
    exact Rat.mul_pos p (Rat.inv_pos.2 s)
  refine ⟨B / 2, by grind, Abv.of_eqv (d := B) ⟨0, fun m _ => ?_⟩ b (by grind)⟩
  exact Rat.le_of_mul_le_mul_right (by rw [e]; exact (a m).low) s
theorem HasS.div (fr : Fit r) (fs : Fit s) (h : HasS r f) (k : HasS s g) (hs : 0 < val s.lo) (he : (divR r s).e = 0) : HasS (divR r s) fun m => f m / g m := by
  obtain ⟨d1, p1, q1⟩ := k.abv hs
  obtain ⟨f', a, b⟩ := h
  obtain ⟨g', c, d⟩ := k
  obtain ⟨d2, p2, q2⟩ := HasS.abv (⟨g', c, Eqv.rfl⟩ : HasS s g') hs
  have low : ∀ {x y : Rat} {k : Nat → Rat}, x ≤ y → Abv y k → Abv x k := fun hxy ⟨M, hM⟩ => ⟨M, fun m hm => Rat.le_trans hxy (hM m hm)⟩
  rcases Rat.le_total (a := d1) (b := d2) with t | t
  · exact ⟨_, fun m => (a m).div fr fs (c m) hs he, b.div p1 (low t q2) q1 d (hasQ_bd a)⟩
  · exact ⟨_, fun m => (a m).div fr fs (c m) hs he, b.div p2 q2 (low t q1) d (hasQ_bd a)⟩
theorem HasS.meet (h : HasS r f) (k : HasS s f) : val r.lo ≤ val s.hi ∧ val s.lo ≤ val r.hi := by
  have key : ∀ {r s : Res}, HasS r f → HasS s f → val r.lo ≤ val s.hi := fun {r s} h k => by
    obtain ⟨f', a, b⟩ := h
    obtain ⟨g', c, d⟩ := k
    have S := ssQ
    obtain ⟨E, hE⟩ : ∃ E : Rat, E = (1 / 2) / ((SS : Int) : Rat) := ⟨_, rfl⟩
    have e : E * ((SS : Int) : Rat) = 1 / 2 := by rw [hE]; grind
    have E0 : 0 < E := by
      rw [hE, Rat.div_def]
      exact Rat.mul_pos (by grind) (Rat.inv_pos.2 S)
    obtain ⟨M, hM⟩ := (b.trans d.symm) E E0
    have m1 := hM M (Nat.le_refl _)
    have l := (a M).low
    have u := (c M).high
    have t := Rat.mul_le_mul_of_nonneg_right (by grind : f' M ≤ g' M + E) (Rat.le_of_lt S)
    rw [Rat.add_mul, e] at t
    clear hE e E0 hM m1
    generalize ((SS : Int) : Rat) = S' at *
    have n : ((val r.lo : Int) : Rat) ≤ ((val s.hi : Int) : Rat) + 1 / 2 := by grind
    have n' : ((val r.lo : Int) : Rat) < (((val s.hi + 1 : Int)) : Rat) := by
      rw [Rat.intCast_add]
      grind
    have := Rat.intCast_lt_intCast.1 n'
    omega
  exact ⟨key h k, key k h⟩
end

theorem root_near {x e : Rat} (hx : 0 ≤ x) (he : 0 < e) : ∃ y : Rat, 0 ≤ y ∧ y * y ≤ x ∧ x ≤ y * y + e := by
  obtain ⟨h, h0, h1, h2⟩ : ∃ h : Rat, 0 < h ∧ h ≤ 1 ∧ (2 * x + 3) * h ≤ e := by
    have p : 0 < 2 * x + 3 := by grind
    have q : 0 < e / (2 * x + 3) := by rw [Rat.div_def]; exact Rat.mul_pos he (Rat.inv_pos.2 p)
    rcases Rat.le_total (a := e / (2 * x + 3)) (b := 1) with g | g
    · refine ⟨_, q, g, ?_⟩
      have e1 : (2 * x + 3) * (e / (2 * x + 3)) = e := by grind
      rw [e1]; exact Rat.le_refl
    · refine ⟨1, by grind, by grind, ?_⟩
      have t := Rat.mul_le_mul_of_nonneg_right g (Rat.le_of_lt p)
      have e1 : e / (2 * x + 3) * (2 * x + 3) = e := by grind
      rw [e1] at t
      grind
  have step : ∀ K : Nat, x < ((K : Rat) * h) * ((K : Rat) * h) → ∃ k : Nat, ((k : Rat) * h) * ((k : Rat) * h) ≤ x ∧ x < (((k + 1 : Nat) : Rat) * h) * (((k + 1 : Nat) : Rat) * h) := by
    intro K
    induction K with
    | zero => intro hK; have e0 : ((0 : Nat) : Rat) = 0 := rfl; rw [e0] at hK; grind
    | succ K ih =>
      intro hK
      rcases Rat.le_total (a := ((K : Rat) * h) * ((K : Rat) * h)) (b := x) with g | g
      · exact ⟨K, g, hK⟩
      · by_cases g' : ((K : Rat) * h) * ((K : Rat) * h) = x
        · exact ⟨K, by grind, hK⟩
        · exact ih (by grind)
  have big : ∃ K : Nat, x < ((K : Rat) * h) * ((K : Rat) * h) := by
    refine ⟨((x + 1) / h).ceil.toNat, ?_⟩
    have c := Rat.le_ceil (x := (x + 1) / h)
    have q : 0 < (x + 1) / h := by rw [Rat.div_def]; exact Rat.mul_pos (by grind) (Rat.inv_pos.2 h0)
    have c0 : 0 < ((x + 1) / h).ceil := Rat.intCast_pos.1 (by grind)
    have cn : ((((x + 1) / h).ceil.toNat : Nat) : Rat) = ((((x + 1) / h).ceil : Int) : Rat) := by
      rw [← Rat.intCast_natCast, Int.toNat_of_nonneg (Int.le_of_lt c0)]
    rw [cn]
    generalize ((((x + 1) / h).ceil : Int) : Rat) = C at *
    have t := Rat.mul_le_mul_of_nonneg_right c (Rat.le_of_lt h0)
    have t1 : (x + 1) / h * h = x + 1 := by grind
    rw [t1] at t
    have t2 := Rat.mul_nonneg (by grind : 0 ≤ C * h - (x + 1)) (by grind : 0 ≤ C * h + (x + 1))
    have t3 := Rat.mul_nonneg hx hx
    grind
  obtain ⟨K, hK⟩ := big
  obtain ⟨k, k1, k2⟩ := step K hK
  have ek : ((k + 1 : Nat) : Rat) = (k : Rat) + 1 := by rw [Rat.natCast_add]; rfl
  rw [ek] at k2
  have k0 : (0 : Rat) ≤ (k : Rat) := Rat.natCast_nonneg
  generalize (k : Rat) = c at *
  have y0 := Rat.mul_nonneg k0 (Rat.le_of_lt h0)
  refine ⟨c * h, y0, k1, ?_⟩
  have e2 : (c + 1) * h * ((c + 1) * h) = c * h * (c * h) + (2 * (c * h) + h) * h := by grind
  rw [e2] at k2
  generalize c * h = y at *
  have yx : y ≤ x + 1 := by
    rcases Rat.le_total (a := y) (b := x + 1) with g | g
    · exact g
    · have := Rat.mul_nonneg (by grind : 0 ≤ y - (x + 1)) (by grind : 0 ≤ y + (x + 1))
      have := Rat.mul_nonneg hx hx
      grind
  have t := Rat.mul_le_mul_of_nonneg_right (by grind : 2 * y + h ≤ 2 * x + 3) (Rat.le_of_lt h0)
  grind

theorem rows_nil {f : Nat → Rat} (h : ∀ m : Nat, -(((m : Rat) + 1)⁻¹) ≤ f m ∧ f m ≤ ((m : Rat) + 1)⁻¹) : Nul f := fun e he => by
  refine ⟨(e⁻¹).ceil.toNat, fun m hm => ?_⟩
  have i0 := Rat.inv_pos.2 he
  have c := Rat.le_ceil (x := e⁻¹)
  have c0 : 0 < (e⁻¹).ceil := Rat.intCast_pos.1 (by grind)
  have cm : ((e⁻¹).ceil : Int) ≤ (m : Int) := by omega
  have cq : (((e⁻¹).ceil : Int) : Rat) ≤ (m : Rat) := by
    have := Rat.intCast_le_intCast.2 cm
    rw [Rat.intCast_natCast] at this; exact this
  have mp : 0 < (m : Rat) + 1 := by
    have : (0 : Rat) ≤ (m : Rat) := Rat.natCast_nonneg
    grind
  have k := h m
  have key : ((m : Rat) + 1)⁻¹ ≤ e := by
    refine Rat.le_of_mul_le_mul_right (c := (m : Rat) + 1) ?_ mp
    have e1 : ((m : Rat) + 1)⁻¹ * ((m : Rat) + 1) = 1 := by grind
    have e2 := Rat.mul_le_mul_of_nonneg_left (by grind : e⁻¹ ≤ (m : Rat) + 1) (Rat.le_of_lt he)
    have e3 : e * e⁻¹ = 1 := by grind
    rw [e1]; grind
  constructor <;> grind

theorem HasQ.root_fit {r : Res} (fr : Fit r) (he : (sqrtR r).e = 0) : Fit (sqrtR r) := (root_in (.refl fr) fr he).fit
theorem rootQ_in {r : Res} {x e : Rat} (fr : Fit r) (h : HasQ r x) (he : (sqrtR r).e = 0) (h0 : 0 < e) : ∃ y : Rat, HasQ (sqrtR r) y ∧ 0 ≤ y ∧ -e ≤ y * y - x ∧ y * y - x ≤ e := by
  obtain ⟨p0, ⟨p1, p2, _⟩, q1, q2, _⟩ := sqrt_parts fr he
  have S := ssQ
  have l0 := Rat.intCast_nonneg.2 p0
  have a1 := Rat.intCast_nonneg.2 p1
  have b1 := Rat.intCast_nonneg.2 q1
  have a2 := Rat.intCast_le_intCast.2 p2
  have b2 := Rat.intCast_le_intCast.2 q2
  rw [Rat.intCast_mul, Rat.intCast_mul] at a2 b2
  have fs : val (sqrtR r).lo ≤ val (sqrtR r).hi := (HasQ.root_fit fr he).le
  have fs' := Rat.intCast_le_intCast.2 fs
  have hl := h.low
  have hh := h.high
  have x0 : 0 ≤ x := by
    refine Rat.le_of_mul_le_mul_right (c := ((SS : Int) : Rat)) ?_ S
    rw [Rat.zero_mul]; exact Rat.le_trans l0 hl
  obtain ⟨y, y0, y1, y2⟩ := root_near x0 h0
  generalize hL : ((val (sqrtR r).lo : Int) : Rat) = L at *
  generalize hU : ((val (sqrtR r).hi : Int) : Rat) = U at *
  generalize ((val r.lo : Int) : Rat) = lo at *
  generalize ((val r.hi : Int) : Rat) = hi at *
  generalize hS : ((SS : Int) : Rat) = s at *
  -- the ends' squares lie about x
  have t1 : L * L ≤ x * s * s := Rat.le_trans a2 (Rat.mul_le_mul_of_nonneg_right hl (Rat.le_of_lt S))
  have t2 : x * s * s ≤ U * U := Rat.le_trans (Rat.mul_le_mul_of_nonneg_right hh (Rat.le_of_lt S)) b2
  have div : ∀ T : Rat, T / s * s = T := fun T => by grind
  have le_of : ∀ {A B : Rat}, A * (s * s) ≤ B * (s * s) → A ≤ B := fun h => Rat.le_of_mul_le_mul_right h (Rat.mul_pos S S)
  rcases Rat.le_total (a := y * s) (b := L) with g | g
  · refine ⟨L / s, ⟨by rw [hS, hL, div]; exact Rat.le_refl, by rw [hS, hU, div]; exact fs'⟩, ?_, ?_, ?_⟩
    · refine Rat.le_of_mul_le_mul_right (c := s) ?_ S
      rw [Rat.zero_mul, div]; exact a1
    · have k : y * y ≤ L / s * (L / s) := le_of (by
        have e1 : L / s * (L / s) * (s * s) = L * L := by grind
        rw [e1]
        have := Rat.mul_nonneg (by grind : 0 ≤ L - y * s) (by have := Rat.mul_nonneg y0 (Rat.le_of_lt S); grind : 0 ≤ L + y * s)
        grind)
      grind
    · have k : L / s * (L / s) ≤ x := le_of (by
        have e1 : L / s * (L / s) * (s * s) = L * L := by grind
        rw [e1]; grind)
      grind
  · rcases Rat.le_total (a := y * s) (b := U) with g' | g'
    · exact ⟨y, ⟨by rw [hS, hL]; exact g, by rw [hS, hU]; exact g'⟩, y0, by grind, by grind⟩
    · refine ⟨U / s, ⟨by rw [hS, hL, div]; exact fs', by rw [hS, hU, div]; exact Rat.le_refl⟩, ?_, ?_, ?_⟩
      · refine Rat.le_of_mul_le_mul_right (c := s) ?_ S
        rw [Rat.zero_mul, div]; exact b1
      · have k : x ≤ U / s * (U / s) := le_of (by
          have e1 : U / s * (U / s) * (s * s) = U * U := by grind
          rw [e1]; grind)
        grind
      · have k : U / s * (U / s) ≤ y * y := le_of (by
          have e1 : U / s * (U / s) * (s * s) = U * U := by grind
          rw [e1]
          have := Rat.mul_nonneg (by grind : 0 ≤ y * s - U) (by grind : 0 ≤ y * s + U)
          grind)
        grind
theorem HasS.sqrt {r : Res} {f : Nat → Rat} (fr : Fit r) (h : HasS r f) (he : (sqrtR r).e = 0) : ∃ y : Nat → Rat, HasS (sqrtR r) y ∧ (∀ m, 0 ≤ y m) ∧ Eqv (fun m => y m * y m) f := by
  obtain ⟨f', a, b⟩ := h
  have ex : ∀ m : Nat, ∃ y : Rat, HasQ (sqrtR r) y ∧ 0 ≤ y ∧ -(((m : Rat) + 1)⁻¹) ≤ y * y - f' m ∧ y * y - f' m ≤ ((m : Rat) + 1)⁻¹ := fun m =>
    rootQ_in fr (a m) he (Rat.inv_pos.2 (by have : (0 : Rat) ≤ (m : Rat) := Rat.natCast_nonneg; grind))
  refine ⟨fun m => Classical.choose (ex m), ⟨_, fun m => (Classical.choose_spec (ex m)).1, Eqv.rfl⟩, fun m => (Classical.choose_spec (ex m)).2.1, Eqv.trans ?_ b⟩
  exact rows_nil fun m => (Classical.choose_spec (ex m)).2.2
end Go.Proofs.YthefgkgdadkgbaaGreat

namespace Go.Proofs.YthefgkgdadkgbaaGreat
open Go.RowKit

def Sn.a (c : Res) : Res := sqrR c
def Sn.b (c : Res) : Res := subR (oneR 4607182418800017408) (Sn.a c)
def Sn.d (n : Res) : Res := sqrR n
def Sn.g (c n : Res) : Res := divR (Sn.b c) (Sn.d n)
def Sn.i (c n : Res) : Res := subR (oneR 4607182418800017408) (Sn.g c n)
def Sn.s (c n : Res) : Res := sqrtR (Sn.i c n)
def Sn.j (c n : Res) : Res := mulR n (Sn.s c n)
def Sn.k (c n : Res) : Res := subR c (Sn.j c n)
def Sn.l (c n : Res) : Res := addR c (Sn.j c n)
def Sn.m (c n : Res) : Res := divR (Sn.k c n) (Sn.l c n)
def Sn.o (c n : Res) : Res := sqrR (Sn.m c n)
def Sn.q (c n : Res) : Res := mulR n c
def Sn.r (c n : Res) : Res := subR (Sn.q c n) (Sn.s c n)
def Sn.t (c n : Res) : Res := addR (Sn.q c n) (Sn.s c n)
def Sn.u (c n : Res) : Res := divR (Sn.r c n) (Sn.t c n)
def Sn.v (c n : Res) : Res := sqrR (Sn.u c n)
def Sn.x (c n : Res) : Res := addR (Sn.o c n) (Sn.v c n)
def Sn.y (c n : Res) : Res := mulR (oneR 4602678819172646912) (Sn.x c n)
structure Sn.Ins (c n C N : Res) : Prop where
  a' : In (Sn.a c) (Sn.a C)
  b' : In (Sn.b c) (Sn.b C)
  d' : In (Sn.d n) (Sn.d N)
  g' : In (Sn.g c n) (Sn.g C N)
  i' : In (Sn.i c n) (Sn.i C N)
  s' : In (Sn.s c n) (Sn.s C N)
  j' : In (Sn.j c n) (Sn.j C N)
  k' : In (Sn.k c n) (Sn.k C N)
  l' : In (Sn.l c n) (Sn.l C N)
  m' : In (Sn.m c n) (Sn.m C N)
  o' : In (Sn.o c n) (Sn.o C N)
  q' : In (Sn.q c n) (Sn.q C N)
  r' : In (Sn.r c n) (Sn.r C N)
  t' : In (Sn.t c n) (Sn.t C N)
  u' : In (Sn.u c n) (Sn.u C N)
  v' : In (Sn.v c n) (Sn.v C N)
  x' : In (Sn.x c n) (Sn.x C N)
  y' : In (Sn.y c n) (Sn.y C N)
def Sn.ok (C N : Res) : Bool := fitB (Sn.a C) && fitB (Sn.b C) && fitB (Sn.d N) && fitB (Sn.g C N) && fitB (Sn.i C N) && fitB (Sn.s C N) && fitB (Sn.j C N) && fitB (Sn.k C N) && fitB (Sn.l C N) && fitB (Sn.m C N) && fitB (Sn.o C N) && fitB (Sn.q C N) && fitB (Sn.r C N) && fitB (Sn.t C N) && fitB (Sn.u C N) && fitB (Sn.v C N) && fitB (Sn.x C N) && fitB (Sn.y C N)
theorem Bd.of {f g : Nat → Rat} (h : Bd f) (e : ∀ m, f m = g m) : Bd g := by
  have : f = g := funext e
  rw [← this]; exact h
end Go.Proofs.YthefgkgdadkgbaaGreat

namespace Go.Proofs.YthefgkgdadkgbaaGreat
open Go.RowKit

def w2 : Nat := 4611686018427387904
def w3 : Nat := 4613937818241073152
theorem Or.v0 : val 0 = 0 := by decide +kernel
theorem Or.z_fit : Fit (oneR 0) := one_fit (by decide) (by decide)

def Or.x : Res := divR piR (oneR w2)
def Or.t : Res := divR (oneR w2) (oneR w3)
def Or.g : Res := subR Or.x Or.t
def Or.m (s : Res) : Res := mulR Or.g s
def Or.q (s : Res) : Res := addR piR (Or.m s)
def Or.a (s : Res) : Res := divR (oneR u1) (Or.q s)
def Or.b (s : Res) : Res := mulR s (Or.a s)
def ouI : Res := ⟨0, 0, u1⟩
def oeI : Res := ⟨0, m1, u1⟩
theorem ou_fit : Fit ouI := .of (by decide +kernel)
theorem Or.bigs : Fit (Or.m ouI) ∧ Fit (Or.q ouI) ∧ Fit (Or.a ouI) ∧ Fit (Or.b ouI) ∧ 0 < val (Or.q ouI).lo ∧ 0 ≤ val (Or.b ouI).lo := ⟨.of (by decide +kernel), .of (by decide +kernel), .of (by decide +kernel), .of (by decide +kernel), by decide +kernel, by decide +kernel⟩
structure PairIn (s S : Res) : Prop where
  m : In (Or.m s) (Or.m S)
  q : In (Or.q s) (Or.q S)
  a : In (Or.a s) (Or.a S)
  b : In (Or.b s) (Or.b S)
def Or.p (i o : Res) : Res := mulR i o
def Or.s (i o d : Res) : Res := subR d (Or.p i o)
def Or.top (i o : Res) : Res := maxR i o
def posR (r : Res) : Res := ⟨0, maxW r.lo 0, r.hi⟩
def Or.r (i o d : Res) : Res := divR (posR (Or.s i o d)) (Or.top i o)
def midR (s r : Res) : Res := ⟨0, minW s.lo r.lo, maxW 0 r.hi⟩
def Or.st (i o d : Res) : Res :=
  if 0 < val (Or.s i o d).hi then (if (Or.r i o d).e = 0 then (if 0 ≤ val (Or.s i o d).lo then Or.r i o d else midR (Or.s i o d) (Or.r i o d)) else Or.r i o d) else Or.s i o d
def edgeW (x : Nat) : Nat := minW (maxW x m1) u1
def edgeR (r : Res) : Res := ⟨r.e, edgeW r.lo, edgeW r.hi⟩
def Or.slope (i o d : Res) : Res := edgeR (Or.st i o d)
structure Dirs (i o d : Res) : Prop where
  i : In i ouI
  o : In o ouI
  d : In d oeI
structure SlopeIn (i o d I O D : Res) : Prop where
  p : In (Or.p i o) (Or.p I O)
  s : In (Or.s i o d) (Or.s I O D)
  top : In (Or.top i o) (Or.top I O)
theorem Dirs.part {i o d I O D : Res} (h : Dirs I O D) (hi : In i I) (ho : In o O) (hd : In d D) : Dirs i o d :=
  ⟨⟨hi.fit, Int.le_trans h.i.lo hi.lo, Int.le_trans hi.hi h.i.hi⟩, ⟨ho.fit, Int.le_trans h.o.lo ho.lo, Int.le_trans ho.hi h.o.hi⟩, ⟨hd.fit, Int.le_trans h.d.lo hd.lo, Int.le_trans hd.hi h.d.hi⟩⟩
def Or.n (s t : Res) : Res := mulR (Or.b s) t
def Or.k (s t : Res) : Res := addR (Or.a s) (Or.n s t)
def Or.l (r s t : Res) : Res := mulR r (Or.k s t)
def Or.val (r s t : Res) : Res := clampR (Or.l r s t)
theorem Or.bigV : Fit (Or.n ouI oeI) ∧ Fit (Or.k ouI oeI) ∧ Fit (Or.l ouI ouI oeI) := ⟨.of (by decide +kernel), .of (by decide +kernel), .of (by decide +kernel)⟩
structure ValIn (r s t R S T : Res) : Prop where
  n : In (Or.n s t) (Or.n S T)
  k : In (Or.k s t) (Or.k S T)
  l : In (Or.l r s t) (Or.l R S T)
end Go.Proofs.YthefgkgdadkgbaaGreat

namespace Go.Proofs.YthefgkgdadkgbaaGreat
open Go.RowKit

def rv (x : Nat) : Rat := ((val x : Int) : Rat) / ((SS : Int) : Rat)
def Qp : Rat := rv piR.lo
theorem qp_3 : 3 ≤ Qp := by
  have S := ssQ
  have e : 3 * SS ≤ val piR.lo := by decide +kernel
  have k : (((3 * SS : Int)) : Rat) ≤ ((val piR.lo : Int) : Rat) := Rat.intCast_le_intCast.2 e
  rw [Rat.intCast_mul] at k
  refine Rat.le_of_mul_le_mul_right (c := ((SS : Int) : Rat)) ?_ S
  have e2 : Qp * ((SS : Int) : Rat) = ((val piR.lo : Int) : Rat) := by unfold Qp rv; grind
  rw [e2]; exact k
def gQ : Rat := Qp / 2 - 2 / 3
theorem g_pos : 0 < gQ := by have := qp_3; unfold gQ; grind
theorem den_pos {s : Rat} (h : 0 ≤ s) : 0 < Qp + gQ * s := by
  have := qp_3
  have := Rat.mul_nonneg (Rat.le_of_lt g_pos) h
  grind
def BW.self (r : Res) : BW := ⟨r, val r.hi - val r.lo⟩
theorem Snd.self {r : Res} (f : Fit r) : Snd r (BW.self r) := ⟨⟨.refl f, Int.le_refl _⟩, f⟩
def Ow.m : BW := (BW.self Or.g).mul ⟨ouI, 0⟩
def Ow.q : BW := (BW.self piR).add Ow.m
def Ow.a : BW := (BW.one u1).div Ow.q
def Ow.b : BW := (BW.mk ouI 0).mul Ow.a
def Ow.one : BW := ((BW.self piR).mul Ow.a).add ((BW.self Or.g).mul Ow.b)
def c8I : Res := ⟨0, 4571153621781053440, u1⟩
def Ow.p : BW := (BW.mk c8I 0).mul ⟨c8I, 0⟩
def Ow.s : BW := (BW.mk oeI 0).sub Ow.p
def Ow.pos : BW := ⟨⟨0, 0, Ow.s.R.hi⟩, Ow.s.w⟩
def half (k : Nat) : Nat := 4607182418800017408 - k * 4503599627370496
def Ow.r (k : Nat) : BW := Ow.pos.div ⟨⟨0, half (k + 1), half k⟩, 0⟩
def Ow.t (k : Nat) : BW := ⟨oeI, (Ow.r k).w + Ow.s.w⟩
def Ow.n (k : Nat) : BW := Ow.b.mul (Ow.t k)
def Ow.k (k : Nat) : BW := Ow.a.add (Ow.n k)
def Ow.l (k : Nat) : BW := (BW.mk ouI 0).mul (Ow.k k)
def Ow.ok (k : Nat) : Bool := fitB ⟨0, half (k + 1), half k⟩ && bok (Ow.r k) && bok (Ow.n k) && bok (Ow.k k) && bok (Ow.l k) && decide (0 ≤ (Ow.r k).w) && decide (0 ≤ val (Ow.r k).R.lo) && decide ((Ow.l k).w ≤ val 4427038433705197568) && decide (0 < val (half (k + 1)))
end Go.Proofs.YthefgkgdadkgbaaGreat

/- Law file 8: its small functions, of what is drawn; numbers between any two. -/
namespace Go.Proofs.YthefgkgdadkgbaaGreat
open Go.RowKit

theorem kc2 {f : FuncId} {al ah bl bh rl rh pb : Nat} (h : Calc2 f pb al ah bl bh rl rh) : ∀ v, Has1 v (pb, #[.int .i64 0]) → Calls Tryz.prog f #[.pointer (some ⟨pb, 0, none⟩), .agg #[.float .f64 al, .float .f64 ah], .agg #[.float .f64 bl, .float .f64 bh]] v fun r w' => r = .returned (.agg #[.float .f64 rl, .float .f64 rh]) ∧ Below v.heap.size v w' :=
  fun v hv => kb_of hv (h v hv)
end Go.Proofs.YthefgkgdadkgbaaGreat

namespace Go.Proofs.YthefgkgdadkgbaaGreat
open Go.RowKit
attribute [local go_sem] run_store_float

end Go.Proofs.YthefgkgdadkgbaaGreat

namespace Go.Proofs.YthefgkgdadkgbaaGreat
open Go.RowKit
attribute [local go_sem] run_store_float

end Go.Proofs.YthefgkgdadkgbaaGreat

namespace Go.Proofs.YthefgkgdadkgbaaGreat
open Go.RowKit
attribute [local go_sem] run_store_float

theorem word_neg {r : Nat} (h : val r ≠ 0) (hr : rung r < 9218868437227405312) : rightB r = true := by
  have hn : r ≠ 9223372036854775808 := by
    intro e
    subst e
    exact h (by decide +kernel)
  unfold rightB
  unfold rung at hr
  rw [decide_eq_true hr, decide_eq_false hn]; rfl
theorem sub_all {a b y0 : Nat} (ha : a < 18446744073709551616) (hb : b < 18446744073709551616) (ra : rightB a = true) (rb : rightB b = true) (hab : val b ≤ val a) (ly : y0 < 18446744073709551616) (ry : rightB y0 = true) (hy : val a - val b ≤ val y0) :
    ∃ r, floatBits .sub .f64 a b = some r ∧ r < 18446744073709551616 ∧ rightB r = true ∧ 0 ≤ val r ∧ val r ≤ val y0 := by
  have hst : (sgnB a && !sgnB b) = false := by
    cases sa : sgnB a
    · rfl
    · have n := (val_neg a ha ra).2 sa
      have m := (val_neg b hb rb).1 (by omega)
      rw [m]; rfl
  obtain ⟨r, h1, h2⟩ := sub_beside a b ha hb ra rb
  obtain ⟨n1, n2, n3, n4⟩ := near_between (x0 := 0) (y0 := y0) (by decide) (sub_down a b ra rb) (sub_up a b ra rb) h2 (by decide) (by decide) (by rw [show val 0 = 0 from by decide +kernel]; omega) ly ry (by omega)
  rw [show val 0 = 0 from by decide +kernel] at n3
  have h3 : ((Ieee.double.read a).sum (Ieee.double.read b).opposite).map Ieee.double.write = some r := h1
  rw [read_num a ha (right_rung a ra), read_num b hb (right_rung b rb)] at h3
  exact ⟨r, h1, n1, word_right (sum_plain (sgnB a) (!sgnB b) a b (expo_in a ra).1 (expo_in b rb).1 hst (by rw [neg_sg, ← val_sg, ← val_sg]; omega) r h3) n2, n3, n4⟩
theorem add_all {a b y0 : Nat} (ha : a < 18446744073709551616) (hb : b < 18446744073709551616) (ra : rightB a = true) (rb : rightB b = true) (pb : 0 ≤ val b) (ly : y0 < 18446744073709551616) (ry : rightB y0 = true) (hy : val a + val b ≤ val y0) :
    ∃ r, floatBits .add .f64 a b = some r ∧ r < 18446744073709551616 ∧ rightB r = true ∧ val a ≤ val r ∧ val r ≤ val y0 := by
  have sb := plain_sgn hb rb pb
  obtain ⟨r, h1, h2⟩ := add_beside a b ha hb ra rb
  obtain ⟨n1, n2, n3, n4⟩ := near_between (x0 := a) (y0 := y0) (by decide) (add_down a b ra rb) (add_up a b ra rb) h2 ha ra (by omega) ly ry (by omega)
  by_cases g : 0 ≤ val a + val b
  · have h3 : ((Ieee.double.read a).sum (Ieee.double.read b)).map Ieee.double.write = some r := h1
    rw [read_num a ha (right_rung a ra), read_num b hb (right_rung b rb)] at h3
    exact ⟨r, h1, n1, word_right (sum_plain _ _ a b (expo_in a ra).1 (expo_in b rb).1 (by rw [sb, Bool.and_false]) (by rw [← val_sg, ← val_sg]; omega) r h3) n2, n3, n4⟩
  · have e1 : val 9223372036854775809 = -1 := by decide +kernel
    obtain ⟨_, _, _, k4⟩ := near_between (x0 := a) (y0 := 9223372036854775809) (by decide) (add_down a b ra rb) (add_up a b ra rb) h2 ha ra (by omega) (by decide) (by decide) (by rw [e1]; omega)
    exact ⟨r, h1, n1, word_neg (by rw [e1] at k4; omega) n2, n3, n4⟩
theorem add_self0 {x : Nat} (lx : x < 18446744073709551616) (rx : rightB x = true) : floatBits .add .f64 x 0 = some x := by
  have z0 : val 0 = 0 := by decide +kernel
  obtain ⟨r, h1, h2, h3, h4, h5⟩ := add_all lx (by decide : (0 : Nat) < 18446744073709551616) rx (by decide) (by rw [z0]; exact Int.le_refl _) (y0 := x) lx rx (by rw [z0]; omega)
  rw [h1, val_inj h2 lx h3 rx (Int.le_antisymm h5 h4)]

theorem between8_any (lo hi n : Nat) (hl : lo < 18446744073709551616) (hh : hi < 18446744073709551616) (rl : rightB lo = true) (rh : rightB hi = true) (h0 : -SS ≤ val lo) (hle : val lo ≤ val hi) (hs : val hi ≤ SS) (hn : n < 4294967296) :
    ∃ x, Amid lo hi x ∧ ∀ w, Calls Tryz.prog 14 #[.float .f64 lo, .float .f64 hi, .int .u32 n] w fun r w' => r = .returned (.float .f64 x) ∧ w = w' := by
  have v2 : val w2 = 2 * SS := by decide +kernel
  have v3 : val w3 = 3 * SS := by decide +kernel
  obtain ⟨f, f1, f2, f3, f4, f5⟩ := frac_word n hn
  obtain ⟨d, d1, d2, d3, d4, d5⟩ := sub_all hh hl rh rl hle (y0 := w2) (by decide) (by decide) (by rw [v2]; omega)
  have eU : val u1 = ((2 ^ sq : Nat) : Int) := by decide +kernel
  obtain ⟨m, m1', m2, m3, m4, m5⟩ := mul_near d2 f2 d3 f3 d4 f4 d2 d3 (by rw [← eU]; exact Int.mul_le_mul_of_nonneg_left f5 d4)
  obtain ⟨x, x1, x2, x3, x4, x5⟩ := add_all hl m2 rl m3 m4 (y0 := w3) (by decide) (by decide) (by rw [v3]; rw [v2] at d5; omega)
  have o1 : (FloatKind.f64.format.order x lo == some Ordering.lt) = false := by
    rw [order_lt x lo x2 hl x3 rl]; exact decide_eq_false (by omega)
  have cw := fun w => between6_walk lo hi n f d m x _ w (Lib.hid fun w => frac_walk n f w (fun w => run_float_arith w .quo 25 .f64 _ _ _ f1)) (fun w => run_float_arith w .sub 25 .f64 _ _ _ d1) (fun w => run_float_arith w .mul 25 .f64 _ _ _ m1') (fun w => run_float_arith w .add 25 .f64 _ _ _ x1) o1 rfl
  refine ⟨_, ?_, cw⟩
  rw [order_gt x hi x2 hh x3 rh]
  by_cases g : val hi < val x
  · rw [decide_eq_true g, if_pos rfl]; exact ⟨hh, rh, hle, Int.le_refl _⟩
  · rw [decide_eq_false g, if_neg Bool.false_ne_true]; exact ⟨x2, x3, x4, by omega⟩
theorem span8_any (lo hi p q : Nat) (hl : lo < 18446744073709551616) (hh : hi < 18446744073709551616) (rl : rightB lo = true) (rh : rightB hi = true) (h0 : -SS ≤ val lo) (hle : val lo ≤ val hi) (hs : val hi ≤ SS) (hp : p < 4294967296) (hq : q < 4294967296) :
    ∃ a : Res, In a ⟨0, lo, hi⟩ ∧ ∀ w, Calls Tryz.prog 6 #[.float .f64 lo, .float .f64 hi, .int .u32 p, .int .u32 q] w fun r w' => r = .returned (.agg #[.float .f64 a.lo, .float .f64 a.hi]) ∧ Below w.heap.size w w' := by
  obtain ⟨a, a1, a2⟩ := between8_any lo hi p hl hh rl rh h0 hle hs hp
  obtain ⟨b, b1, b2⟩ := between8_any lo hi q hl hh rl rh h0 hle hs hq
  refine ⟨⟨0, if (FloatKind.f64.format.order a b == some Ordering.gt) = true then b else a, if (FloatKind.f64.format.order a b == some Ordering.gt) = true then a else b⟩, ?_, fun w => span_walk lo hi p q a b _ w (Lib.hid a2) (Lib.hid b2) rfl⟩
  have key : ∀ x y, Amid lo hi x → Amid lo hi y → val x ≤ val y → In ⟨0, x, y⟩ ⟨0, lo, hi⟩ := fun x y hx hy hxy =>
    ⟨⟨rfl, hx.lt, hy.lt, by show ivR x y = true; unfold ivR leB; rw [hx.right, hy.right, decide_eq_true hxy]; rfl⟩, hx.lo, hy.hi⟩
  rw [order_gt a b a1.lt b1.lt a1.right b1.right]
  by_cases g : val b < val a
  · rw [decide_eq_true g, if_pos rfl, if_pos rfl]; exact key b a b1 a1 (by omega)
  · rw [decide_eq_false g, if_neg Bool.false_ne_true, if_neg Bool.false_ne_true]; exact key a b a1 b1 (by omega)
theorem unit_ends : val u1 = SS ∧ val m1 = -SS ∧ 0 < SS := ⟨by decide +kernel, by decide +kernel, SS0⟩
theorem span_in {A : Res} (fA : Fit A) (h1 : val m1 ≤ val A.lo) (h2 : val A.hi ≤ val u1) (p q : Nat) (hp : p < 4294967296) (hq : q < 4294967296) :
    ∃ a : Res, In a A ∧ ∀ w, Calls Tryz.prog 6 #[.float .f64 A.lo, .float .f64 A.hi, .int .u32 p, .int .u32 q] w fun r w' => r = .returned (.agg #[.float .f64 a.lo, .float .f64 a.hi]) ∧ Below w.heap.size w w' := by
  obtain ⟨e1, e2, _⟩ := unit_ends
  obtain ⟨a, i, c⟩ := span8_any A.lo A.hi p q fA.lo fA.hi fA.rlo fA.rhi (by omega) fA.le (by omega) hp hq
  exact ⟨a, ⟨i.fit, i.lo, i.hi⟩, c⟩

theorem lIn8_any (al ah bl bh : Nat) (w : World) (o1 : ((FloatKind.f64.format.order bl al == some Ordering.lt) || (FloatKind.f64.format.order bl al == some Ordering.eq)) = true) (o2 : ((FloatKind.f64.format.order ah bh == some Ordering.lt) || (FloatKind.f64.format.order ah bh == some Ordering.eq)) = true) :
    Calls Tryz.prog 10 #[.agg #[.float .f64 al, .float .f64 ah], .agg #[.float .f64 bl, .float .f64 bh]] w fun r w' => r = .returned (.bool true) ∧ Below w.heap.size w w' := by
  have M := Lib.hid (((Own.nil w).made #[.float .f64 al, .float .f64 ah] 27).made #[.float .f64 bl, .float .f64 bh] 27)
  simp only [World.size_alloc] at M
  obtain ⟨k1, k2⟩ := (M.out.nth 1 rfl).two
  obtain ⟨k3, k4⟩ := (M.out.nth 0 rfl).two
  go_enter Tryz.func10, Tryz.ntmps10
  go_wp2
  go_ret
  exact ⟨by rw [← o2]; rfl, M.out.base⟩
theorem in8 {a A : Res} (i : In a A) (fA : Fit A) (w : World) : Calls Tryz.prog 10 #[.agg #[.float .f64 a.lo, .float .f64 a.hi], .agg #[.float .f64 A.lo, .float .f64 A.hi]] w fun r w' => r = .returned (.bool true) ∧ Below w.heap.size w w' :=
  lIn8_any a.lo a.hi A.lo A.hi w ((order_le A.lo a.lo fA.lo i.fit.lo fA.rlo i.fit.rlo).trans (decide_eq_true i.lo)) ((order_le a.hi A.hi i.fit.hi fA.hi i.fit.rhi fA.rhi).trans (decide_eq_true i.hi))
end Go.Proofs.YthefgkgdadkgbaaGreat

namespace Go.Proofs.YthefgkgdadkgbaaGreat
open Go.RowKit
attribute [local go_sem] run_store_float

set_option maxRecDepth 100000 in
set_option maxHeartbeats 16000000 in
theorem widen_00 {al ah f ls r s zr zs : Nat} (w : World)
    (q_r : (∀ w, (binOp .sub 25 (.float .f64 al) (.float .f64 f)).run Tryz.prog w = .ok (.float .f64 r) w))
    (q_s : (∀ w, (binOp .add 25 (.float .f64 ah) (.float .f64 f)).run Tryz.prog w = .ok (.float .f64 s) w))
    (o_lssr_ls : ((FloatKind.f64.format.order r ls == some Ordering.lt) = false))
    (o_gtrs_418800017408 : ((FloatKind.f64.format.order s 4607182418800017408 == some Ordering.gt) = false))
    (q_zr : (∀ w, (binOp .add 25 (.float .f64 r) (.float .f64 0)).run Tryz.prog w = .ok (.float .f64 zr) w))
    (q_zs : (∀ w, (binOp .add 25 (.float .f64 s) (.float .f64 0)).run Tryz.prog w = .ok (.float .f64 zs) w)) :
    Calls Tryz.prog 13 #[.agg #[.float .f64 al, .float .f64 ah], .float .f64 f, .float .f64 ls] w fun r w' => r = .returned (.agg #[.float .f64 zr, .float .f64 zs]) ∧ Below w.heap.size w w' := by
  have M := Lib.hid (((Own.nil w).made #[.float .f64 al, .float .f64 ah] 27).made #[.float .f64 0, .float .f64 0] 27)
  simp only [World.size_alloc] at M
  have eqF := eq_floats
  go_enter Tryz.func13, Tryz.ntmps13
  go_upto_region 1 with fail
  replace M := Lib.hid M.out.drew
  revert M
  generalize ((w.alloc (.cells #[.float .f64 al, .float .f64 ah] 27)).alloc (.cells #[.float .f64 0, .float .f64 0] 27)) = W0_
  intro M
  refine wp_region_noPanic ?_
  refine tails_region (S := fun w' => (w'.cell? ⟨w.heap.size, 0, none⟩ = some (.float .f64 al) ∧ w'.cell? ⟨w.heap.size, 1, none⟩ = some (.float .f64 ah))) [] (by kernel_rfl) ?_ (fun hS => ?_)
  · exact (M.out.nth 1 rfl).two
  revert hS M
  generalize W0_.drew = V_
  intro M hS
  refine tk (x := ?_) 0 rfl (by kernel_rfl) ⟨by kernel_rfl, ?_⟩ (fun _ _ _ h => h) hS ?_
  rotate_left; focus (intro w hSw; (try dsimp only at hSw); go_simp; try with_reducible rfl)
  refine tk (x := ?_) 1 rfl (by kernel_rfl) ⟨by kernel_rfl, ?_⟩ (fun _ _ _ h => h) hS ?_
  rotate_left; focus (intro w hSw; (try dsimp only at hSw); go_simp; try with_reducible rfl)
  refine tk (x := ?_) 2 rfl (by kernel_rfl) ⟨by kernel_rfl, ?_⟩ (fun _ _ _ h => h) hS ?_
  rotate_left; focus (intro w hSw; (try dsimp only at hSw); go_simp; try with_reducible rfl)
  refine tk (x := ?_) 3 rfl (by kernel_rfl) ⟨by kernel_rfl, ?_⟩ (fun _ _ _ h => h) hS ?_
  rotate_left; focus (intro w hSw; (try dsimp only at hSw); go_simp; try with_reducible rfl)
  refine tk (x := ?_) 4 rfl (by kernel_rfl) ⟨by kernel_rfl, ?_⟩ (fun _ _ _ h => h) hS ?_
  rotate_left; focus (intro w hSw; (try dsimp only at hSw); go_simp; try with_reducible rfl)
  refine tk (x := ?_) 5 rfl (by kernel_rfl) ⟨by kernel_rfl, ?_⟩ (fun _ _ _ h => h) hS ?_
  rotate_left; focus (intro w hSw; (try dsimp only at hSw); go_simp; try with_reducible rfl)
  refine tk (x := ?_) 6 rfl (by kernel_rfl) ⟨by kernel_rfl, ?_⟩ (fun _ _ _ h => h) hS ?_
  rotate_left; focus (intro w hSw; (try dsimp only at hSw); go_simp; try with_reducible rfl)
  refine tk (x := ?_) 7 rfl (by kernel_rfl) ⟨by kernel_rfl, ?_⟩ (fun _ _ _ h => h) hS ?_
  rotate_left; focus (intro w hSw; (try dsimp only at hSw); go_simp; try with_reducible rfl)
  conv => arg 9; simp only [Act.put, go_sem]
  refine tails_one (T := []) (i := 8) (o := _) rfl (by kernel_rfl) (fun K hK => ?_)
  go_simp
  refine hK.out _ _ (Or.inr (M.out.nth 1 rfl).two) (fun hHeld => ?_)
  clear hK K hHeld
  refine tails_one (T := []) (i := 9) (o := _) rfl (by kernel_rfl) (fun K hK => ?_)
  go_simp
  refine hK.out _ _ (Or.inr (M.out.nth 1 rfl).two) (fun hHeld => ?_)
  clear hK K hHeld
  refine tails_done (by kernel_rfl) ?_ _
  refine NoPanic.normal ?_
  clear hS
  have kc := (M.out.nth 0 rfl).2.1
  have kf := (M.out.nth 0 rfl).2.2
  replace M : Hid (Own w [((w.heap.size + 1), #[.float .f64 zr, .float .f64 zs]), (w.heap.size, #[.float .f64 al, .float .f64 ah])] _) := Lib.hid (M.out.set2 0 rfl (.float .f64 zr) (.float .f64 zs))
  go_wp2
  obtain ⟨f1, f2⟩ := (M.out.nth 0 rfl).two
  exact bodyPost_ret (v := .agg #[.float .f64 zr, .float .f64 zs]) (by simp [results, Tryz.results13, go_sem, f1, f2]) rfl ⟨rfl, M.out.base⟩

set_option maxRecDepth 100000 in
set_option maxHeartbeats 16000000 in
theorem widen_01 {al ah f ls r s zr zs : Nat} (w : World)
    (q_r : (∀ w, (binOp .sub 25 (.float .f64 al) (.float .f64 f)).run Tryz.prog w = .ok (.float .f64 r) w))
    (q_s : (∀ w, (binOp .add 25 (.float .f64 ah) (.float .f64 f)).run Tryz.prog w = .ok (.float .f64 s) w))
    (o_lssr_ls : ((FloatKind.f64.format.order r ls == some Ordering.lt) = false))
    (o_gtrs_418800017408 : ((FloatKind.f64.format.order s 4607182418800017408 == some Ordering.gt) = true))
    (q_zr : (∀ w, (binOp .add 25 (.float .f64 r) (.float .f64 0)).run Tryz.prog w = .ok (.float .f64 zr) w))
    (q_zs : (∀ w, (binOp .add 25 (.float .f64 4607182418800017408) (.float .f64 0)).run Tryz.prog w = .ok (.float .f64 zs) w)) :
    Calls Tryz.prog 13 #[.agg #[.float .f64 al, .float .f64 ah], .float .f64 f, .float .f64 ls] w fun r w' => r = .returned (.agg #[.float .f64 zr, .float .f64 zs]) ∧ Below w.heap.size w w' := by
  have M := Lib.hid (((Own.nil w).made #[.float .f64 al, .float .f64 ah] 27).made #[.float .f64 0, .float .f64 0] 27)
  simp only [World.size_alloc] at M
  have eqF := eq_floats
  go_enter Tryz.func13, Tryz.ntmps13
  go_upto_region 1 with fail
  replace M := Lib.hid M.out.drew
  revert M
  generalize ((w.alloc (.cells #[.float .f64 al, .float .f64 ah] 27)).alloc (.cells #[.float .f64 0, .float .f64 0] 27)) = W0_
  intro M
  refine wp_region_noPanic ?_
  refine tails_region (S := fun w' => (w'.cell? ⟨w.heap.size, 0, none⟩ = some (.float .f64 al) ∧ w'.cell? ⟨w.heap.size, 1, none⟩ = some (.float .f64 ah))) [] (by kernel_rfl) ?_ (fun hS => ?_)
  · exact (M.out.nth 1 rfl).two
  revert hS M
  generalize W0_.drew = V_
  intro M hS
  refine tk (x := ?_) 0 rfl (by kernel_rfl) ⟨by kernel_rfl, ?_⟩ (fun _ _ _ h => h) hS ?_
  rotate_left; focus (intro w hSw; (try dsimp only at hSw); go_simp; try with_reducible rfl)
  refine tk (x := ?_) 1 rfl (by kernel_rfl) ⟨by kernel_rfl, ?_⟩ (fun _ _ _ h => h) hS ?_
  rotate_left; focus (intro w hSw; (try dsimp only at hSw); go_simp; try with_reducible rfl)
  refine tk (x := ?_) 2 rfl (by kernel_rfl) ⟨by kernel_rfl, ?_⟩ (fun _ _ _ h => h) hS ?_
  rotate_left; focus (intro w hSw; (try dsimp only at hSw); go_simp; try with_reducible rfl)
  refine tk (x := ?_) 3 rfl (by kernel_rfl) ⟨by kernel_rfl, ?_⟩ (fun _ _ _ h => h) hS ?_
  rotate_left; focus (intro w hSw; (try dsimp only at hSw); go_simp; try with_reducible rfl)
  refine tk (x := ?_) 4 rfl (by kernel_rfl) ⟨by kernel_rfl, ?_⟩ (fun _ _ _ h => h) hS ?_
  rotate_left; focus (intro w hSw; (try dsimp only at hSw); go_simp; try with_reducible rfl)
  refine tk (x := ?_) 5 rfl (by kernel_rfl) ⟨by kernel_rfl, ?_⟩ (fun _ _ _ h => h) hS ?_
  rotate_left; focus (intro w hSw; (try dsimp only at hSw); go_simp; try with_reducible rfl)
  refine tk (x := ?_) 6 rfl (by kernel_rfl) ⟨by kernel_rfl, ?_⟩ (fun _ _ _ h => h) hS ?_
  rotate_left; focus (intro w hSw; (try dsimp only at hSw); go_simp; try with_reducible rfl)
  refine tk (x := ?_) 7 rfl (by kernel_rfl) ⟨by kernel_rfl, ?_⟩ (fun _ _ _ h => h) hS ?_
  rotate_left; focus (intro w hSw; (try dsimp only at hSw); go_simp; try with_reducible rfl)
  conv => arg 9; simp only [Act.put, go_sem]
  refine tails_one (T := []) (i := 8) (o := _) rfl (by kernel_rfl) (fun K hK => ?_)
  go_simp
  refine hK.out _ _ (Or.inr (M.out.nth 1 rfl).two) (fun hHeld => ?_)
  clear hK K hHeld
  refine tails_one (T := []) (i := 9) (o := _) rfl (by kernel_rfl) (fun K hK => ?_)
  go_simp
  refine hK.out _ _ (Or.inr (M.out.nth 1 rfl).two) (fun hHeld => ?_)
  clear hK K hHeld
  refine tails_done (by kernel_rfl) ?_ _
  refine NoPanic.normal ?_
  clear hS
  have kc := (M.out.nth 0 rfl).2.1
  have kf := (M.out.nth 0 rfl).2.2
  replace M : Hid (Own w [((w.heap.size + 1), #[.float .f64 zr, .float .f64 zs]), (w.heap.size, #[.float .f64 al, .float .f64 ah])] _) := Lib.hid (M.out.set2 0 rfl (.float .f64 zr) (.float .f64 zs))
  go_wp2
  obtain ⟨f1, f2⟩ := (M.out.nth 0 rfl).two
  exact bodyPost_ret (v := .agg #[.float .f64 zr, .float .f64 zs]) (by simp [results, Tryz.results13, go_sem, f1, f2]) rfl ⟨rfl, M.out.base⟩

set_option maxRecDepth 100000 in
set_option maxHeartbeats 16000000 in
theorem widen_10 {al ah f ls r s zr zs : Nat} (w : World)
    (q_r : (∀ w, (binOp .sub 25 (.float .f64 al) (.float .f64 f)).run Tryz.prog w = .ok (.float .f64 r) w))
    (q_s : (∀ w, (binOp .add 25 (.float .f64 ah) (.float .f64 f)).run Tryz.prog w = .ok (.float .f64 s) w))
    (o_lssr_ls : ((FloatKind.f64.format.order r ls == some Ordering.lt) = true))
    (o_gtrs_418800017408 : ((FloatKind.f64.format.order s 4607182418800017408 == some Ordering.gt) = false))
    (q_zr : (∀ w, (binOp .add 25 (.float .f64 ls) (.float .f64 0)).run Tryz.prog w = .ok (.float .f64 zr) w))
    (q_zs : (∀ w, (binOp .add 25 (.float .f64 s) (.float .f64 0)).run Tryz.prog w = .ok (.float .f64 zs) w)) :
    Calls Tryz.prog 13 #[.agg #[.float .f64 al, .float .f64 ah], .float .f64 f, .float .f64 ls] w fun r w' => r = .returned (.agg #[.float .f64 zr, .float .f64 zs]) ∧ Below w.heap.size w w' := by
  have M := Lib.hid (((Own.nil w).made #[.float .f64 al, .float .f64 ah] 27).made #[.float .f64 0, .float .f64 0] 27)
  simp only [World.size_alloc] at M
  have eqF := eq_floats
  go_enter Tryz.func13, Tryz.ntmps13
  go_upto_region 1 with fail
  replace M := Lib.hid M.out.drew
  revert M
  generalize ((w.alloc (.cells #[.float .f64 al, .float .f64 ah] 27)).alloc (.cells #[.float .f64 0, .float .f64 0] 27)) = W0_
  intro M
  refine wp_region_noPanic ?_
  refine tails_region (S := fun w' => (w'.cell? ⟨w.heap.size, 0, none⟩ = some (.float .f64 al) ∧ w'.cell? ⟨w.heap.size, 1, none⟩ = some (.float .f64 ah))) [] (by kernel_rfl) ?_ (fun hS => ?_)
  · exact (M.out.nth 1 rfl).two
  revert hS M
  generalize W0_.drew = V_
  intro M hS
  refine tk (x := ?_) 0 rfl (by kernel_rfl) ⟨by kernel_rfl, ?_⟩ (fun _ _ _ h => h) hS ?_
  rotate_left; focus (intro w hSw; (try dsimp only at hSw); go_simp; try with_reducible rfl)
  refine tk (x := ?_) 1 rfl (by kernel_rfl) ⟨by kernel_rfl, ?_⟩ (fun _ _ _ h => h) hS ?_
  rotate_left; focus (intro w hSw; (try dsimp only at hSw); go_simp; try with_reducible rfl)
  refine tk (x := ?_) 2 rfl (by kernel_rfl) ⟨by kernel_rfl, ?_⟩ (fun _ _ _ h => h) hS ?_
  rotate_left; focus (intro w hSw; (try dsimp only at hSw); go_simp; try with_reducible rfl)
  refine tk (x := ?_) 3 rfl (by kernel_rfl) ⟨by kernel_rfl, ?_⟩ (fun _ _ _ h => h) hS ?_
  rotate_left; focus (intro w hSw; (try dsimp only at hSw); go_simp; try with_reducible rfl)
  refine tk (x := ?_) 4 rfl (by kernel_rfl) ⟨by kernel_rfl, ?_⟩ (fun _ _ _ h => h) hS ?_
  rotate_left; focus (intro w hSw; (try dsimp only at hSw); go_simp; try with_reducible rfl)
  refine tk (x := ?_) 5 rfl (by kernel_rfl) ⟨by kernel_rfl, ?_⟩ (fun _ _ _ h => h) hS ?_
  rotate_left; focus (intro w hSw; (try dsimp only at hSw); go_simp; try with_reducible rfl)
  refine tk (x := ?_) 6 rfl (by kernel_rfl) ⟨by kernel_rfl, ?_⟩ (fun _ _ _ h => h) hS ?_
  rotate_left; focus (intro w hSw; (try dsimp only at hSw); go_simp; try with_reducible rfl)
  refine tk (x := ?_) 7 rfl (by kernel_rfl) ⟨by kernel_rfl, ?_⟩ (fun _ _ _ h => h) hS ?_
  rotate_left; focus (intro w hSw; (try dsimp only at hSw); go_simp; try with_reducible rfl)
  conv => arg 9; simp only [Act.put, go_sem]
  refine tails_one (T := []) (i := 8) (o := _) rfl (by kernel_rfl) (fun K hK => ?_)
  go_simp
  refine hK.out _ _ (Or.inr (M.out.nth 1 rfl).two) (fun hHeld => ?_)
  clear hK K hHeld
  refine tails_one (T := []) (i := 9) (o := _) rfl (by kernel_rfl) (fun K hK => ?_)
  go_simp
  refine hK.out _ _ (Or.inr (M.out.nth 1 rfl).two) (fun hHeld => ?_)
  clear hK K hHeld
  refine tails_done (by kernel_rfl) ?_ _
  refine NoPanic.normal ?_
  clear hS
  have kc := (M.out.nth 0 rfl).2.1
  have kf := (M.out.nth 0 rfl).2.2
  replace M : Hid (Own w [((w.heap.size + 1), #[.float .f64 zr, .float .f64 zs]), (w.heap.size, #[.float .f64 al, .float .f64 ah])] _) := Lib.hid (M.out.set2 0 rfl (.float .f64 zr) (.float .f64 zs))
  go_wp2
  obtain ⟨f1, f2⟩ := (M.out.nth 0 rfl).two
  exact bodyPost_ret (v := .agg #[.float .f64 zr, .float .f64 zs]) (by simp [results, Tryz.results13, go_sem, f1, f2]) rfl ⟨rfl, M.out.base⟩

set_option maxRecDepth 100000 in
set_option maxHeartbeats 16000000 in
theorem widen_11 {al ah f ls r s zr zs : Nat} (w : World)
    (q_r : (∀ w, (binOp .sub 25 (.float .f64 al) (.float .f64 f)).run Tryz.prog w = .ok (.float .f64 r) w))
    (q_s : (∀ w, (binOp .add 25 (.float .f64 ah) (.float .f64 f)).run Tryz.prog w = .ok (.float .f64 s) w))
    (o_lssr_ls : ((FloatKind.f64.format.order r ls == some Ordering.lt) = true))
    (o_gtrs_418800017408 : ((FloatKind.f64.format.order s 4607182418800017408 == some Ordering.gt) = true))
    (q_zr : (∀ w, (binOp .add 25 (.float .f64 ls) (.float .f64 0)).run Tryz.prog w = .ok (.float .f64 zr) w))
    (q_zs : (∀ w, (binOp .add 25 (.float .f64 4607182418800017408) (.float .f64 0)).run Tryz.prog w = .ok (.float .f64 zs) w)) :
    Calls Tryz.prog 13 #[.agg #[.float .f64 al, .float .f64 ah], .float .f64 f, .float .f64 ls] w fun r w' => r = .returned (.agg #[.float .f64 zr, .float .f64 zs]) ∧ Below w.heap.size w w' := by
  have M := Lib.hid (((Own.nil w).made #[.float .f64 al, .float .f64 ah] 27).made #[.float .f64 0, .float .f64 0] 27)
  simp only [World.size_alloc] at M
  have eqF := eq_floats
  go_enter Tryz.func13, Tryz.ntmps13
  go_upto_region 1 with fail
  replace M := Lib.hid M.out.drew
  revert M
  generalize ((w.alloc (.cells #[.float .f64 al, .float .f64 ah] 27)).alloc (.cells #[.float .f64 0, .float .f64 0] 27)) = W0_
  intro M
  refine wp_region_noPanic ?_
  refine tails_region (S := fun w' => (w'.cell? ⟨w.heap.size, 0, none⟩ = some (.float .f64 al) ∧ w'.cell? ⟨w.heap.size, 1, none⟩ = some (.float .f64 ah))) [] (by kernel_rfl) ?_ (fun hS => ?_)
  · exact (M.out.nth 1 rfl).two
  revert hS M
  generalize W0_.drew = V_
  intro M hS
  refine tk (x := ?_) 0 rfl (by kernel_rfl) ⟨by kernel_rfl, ?_⟩ (fun _ _ _ h => h) hS ?_
  rotate_left; focus (intro w hSw; (try dsimp only at hSw); go_simp; try with_reducible rfl)
  refine tk (x := ?_) 1 rfl (by kernel_rfl) ⟨by kernel_rfl, ?_⟩ (fun _ _ _ h => h) hS ?_
  rotate_left; focus (intro w hSw; (try dsimp only at hSw); go_simp; try with_reducible rfl)
  refine tk (x := ?_) 2 rfl (by kernel_rfl) ⟨by kernel_rfl, ?_⟩ (fun _ _ _ h => h) hS ?_
  rotate_left; focus (intro w hSw; (try dsimp only at hSw); go_simp; try with_reducible rfl)
  refine tk (x := ?_) 3 rfl (by kernel_rfl) ⟨by kernel_rfl, ?_⟩ (fun _ _ _ h => h) hS ?_
  rotate_left; focus (intro w hSw; (try dsimp only at hSw); go_simp; try with_reducible rfl)
  refine tk (x := ?_) 4 rfl (by kernel_rfl) ⟨by kernel_rfl, ?_⟩ (fun _ _ _ h => h) hS ?_
  rotate_left; focus (intro w hSw; (try dsimp only at hSw); go_simp; try with_reducible rfl)
  refine tk (x := ?_) 5 rfl (by kernel_rfl) ⟨by kernel_rfl, ?_⟩ (fun _ _ _ h => h) hS ?_
  rotate_left; focus (intro w hSw; (try dsimp only at hSw); go_simp; try with_reducible rfl)
  refine tk (x := ?_) 6 rfl (by kernel_rfl) ⟨by kernel_rfl, ?_⟩ (fun _ _ _ h => h) hS ?_
  rotate_left; focus (intro w hSw; (try dsimp only at hSw); go_simp; try with_reducible rfl)
  refine tk (x := ?_) 7 rfl (by kernel_rfl) ⟨by kernel_rfl, ?_⟩ (fun _ _ _ h => h) hS ?_
  rotate_left; focus (intro w hSw; (try dsimp only at hSw); go_simp; try with_reducible rfl)
  conv => arg 9; simp only [Act.put, go_sem]
  refine tails_one (T := []) (i := 8) (o := _) rfl (by kernel_rfl) (fun K hK => ?_)
  go_simp
  refine hK.out _ _ (Or.inr (M.out.nth 1 rfl).two) (fun hHeld => ?_)
  clear hK K hHeld
  refine tails_one (T := []) (i := 9) (o := _) rfl (by kernel_rfl) (fun K hK => ?_)
  go_simp
  refine hK.out _ _ (Or.inr (M.out.nth 1 rfl).two) (fun hHeld => ?_)
  clear hK K hHeld
  refine tails_done (by kernel_rfl) ?_ _
  refine NoPanic.normal ?_
  clear hS
  have kc := (M.out.nth 0 rfl).2.1
  have kf := (M.out.nth 0 rfl).2.2
  replace M : Hid (Own w [((w.heap.size + 1), #[.float .f64 zr, .float .f64 zs]), (w.heap.size, #[.float .f64 al, .float .f64 ah])] _) := Lib.hid (M.out.set2 0 rfl (.float .f64 zr) (.float .f64 zs))
  go_wp2
  obtain ⟨f1, f2⟩ := (M.out.nth 0 rfl).two
  exact bodyPost_ret (v := .agg #[.float .f64 zr, .float .f64 zs]) (by simp [results, Tryz.results13, go_sem, f1, f2]) rfl ⟨rfl, M.out.base⟩

set_option maxRecDepth 100000 in
set_option maxHeartbeats 16000000 in
theorem wide_walk {a0 a1 a2 a3 a4 a5 f xl xh yl yh zl zh : Nat} (w : World)
    (c1 : Hid (∀ w, Calls Tryz.prog 13 #[.agg #[.float .f64 a0, .float .f64 a1], .float .f64 f, .float .f64 13830554455654793216] w fun r w' => r = .returned (.agg #[.float .f64 xl, .float .f64 xh]) ∧ Below w.heap.size w w'))
    (c2 : Hid (∀ w, Calls Tryz.prog 13 #[.agg #[.float .f64 a2, .float .f64 a3], .float .f64 f, .float .f64 13830554455654793216] w fun r w' => r = .returned (.agg #[.float .f64 yl, .float .f64 yh]) ∧ Below w.heap.size w w'))
    (c3 : Hid (∀ w, Calls Tryz.prog 13 #[.agg #[.float .f64 a4, .float .f64 a5], .float .f64 f, .float .f64 0] w fun r w' => r = .returned (.agg #[.float .f64 zl, .float .f64 zh]) ∧ Below w.heap.size w w')) :
    Calls Tryz.prog 5 #[.agg #[.float .f64 a0, .float .f64 a1, .float .f64 a2, .float .f64 a3, .float .f64 a4, .float .f64 a5], .float .f64 f] w fun r w' => r = .returned (.agg #[.float .f64 xl, .float .f64 xh, .float .f64 yl, .float .f64 yh, .float .f64 zl, .float .f64 zh]) ∧ Below w.heap.size w w' := by
  have M := Lib.hid (((Own.nil w).made #[.float .f64 a0, .float .f64 a1, .float .f64 a2, .float .f64 a3, .float .f64 a4, .float .f64 a5] 29).made #[.float .f64 0, .float .f64 0, .float .f64 0, .float .f64 0, .float .f64 0, .float .f64 0] 29)
  simp only [World.size_alloc] at M
  have eqF := eq_floats
  go_enter Tryz.func5, Tryz.ntmps5
  go_upto_region 1 with fail
  replace M := Lib.hid M.out.drew
  revert M
  generalize ((w.alloc (.cells #[.float .f64 a0, .float .f64 a1, .float .f64 a2, .float .f64 a3, .float .f64 a4, .float .f64 a5] 29)).alloc (.cells #[.float .f64 0, .float .f64 0, .float .f64 0, .float .f64 0, .float .f64 0, .float .f64 0] 29)) = W0_
  intro M
  refine wp_region_noPanic ?_
  refine tails_region (S := fun w' => (w'.cell? ⟨w.heap.size, 0, none⟩ = some (.float .f64 a0) ∧ w'.cell? ⟨w.heap.size, 1, none⟩ = some (.float .f64 a1) ∧ w'.cell? ⟨w.heap.size, 2, none⟩ = some (.float .f64 a2) ∧ w'.cell? ⟨w.heap.size, 3, none⟩ = some (.float .f64 a3) ∧ w'.cell? ⟨w.heap.size, 4, none⟩ = some (.float .f64 a4) ∧ w'.cell? ⟨w.heap.size, 5, none⟩ = some (.float .f64 a5))) [] (by kernel_rfl) ?_ (fun hS => ?_)
  · exact (M.out.nth 1 rfl).six
  refine tk (x := ?_) 0 rfl (by kernel_rfl) ⟨by kernel_rfl, ?_⟩ (fun _ _ _ h => h) hS ?_
  rotate_left; focus (intro w hSw; (try dsimp only at hSw); go_simp; try with_reducible rfl)
  refine tk (x := ?_) 1 rfl (by kernel_rfl) ⟨by kernel_rfl, ?_⟩ (fun _ _ _ h => h) hS ?_
  rotate_left; focus (intro w hSw; (try dsimp only at hSw); go_simp; try with_reducible rfl)
  refine tk (x := ?_) 2 rfl (by kernel_rfl) ⟨by kernel_rfl, ?_⟩ (fun _ _ _ h => h) hS ?_
  rotate_left; focus (intro w hSw; (try dsimp only at hSw); go_simp; try with_reducible rfl)
  refine tk (x := ?_) 4 rfl (by kernel_rfl) ⟨by kernel_rfl, ?_⟩ (fun _ _ _ h => h) hS ?_
  rotate_left; focus (intro w hSw; (try dsimp only at hSw); go_simp; try with_reducible rfl)
  refine tk (x := ?_) 5 rfl (by kernel_rfl) ⟨by kernel_rfl, ?_⟩ (fun _ _ _ h => h) hS ?_
  rotate_left; focus (intro w hSw; (try dsimp only at hSw); go_simp; try with_reducible rfl)
  refine tk (x := ?_) 6 rfl (by kernel_rfl) ⟨by kernel_rfl, ?_⟩ (fun _ _ _ h => h) hS ?_
  rotate_left; focus (intro w hSw; (try dsimp only at hSw); go_simp; try with_reducible rfl)
  refine tk (x := ?_) 8 rfl (by kernel_rfl) ⟨by kernel_rfl, ?_⟩ (fun _ _ _ h => h) hS ?_
  rotate_left; focus (intro w hSw; (try dsimp only at hSw); go_simp; try with_reducible rfl)
  refine tk (x := ?_) 9 rfl (by kernel_rfl) ⟨by kernel_rfl, ?_⟩ (fun _ _ _ h => h) hS ?_
  rotate_left; focus (intro w hSw; (try dsimp only at hSw); go_simp; try with_reducible rfl)
  refine tk (x := ?_) 10 rfl (by kernel_rfl) ⟨by kernel_rfl, ?_⟩ (fun _ _ _ h => h) hS ?_
  rotate_left; focus (intro w hSw; (try dsimp only at hSw); go_simp; try with_reducible rfl)
  conv => arg 9; simp only [Act.put, go_sem]
  refine tails_one (T := []) (i := 3) (o := _) rfl (by kernel_rfl) (fun K hK => ?_)
  go_simp
  refine (c1.out _).mono ?_
  rintro rr w1_ ⟨rfl, hb⟩
  replace M := Lib.hid (M.out.below hb)
  clear hb
  try go_wp2_with fail
  refine hK.out _ _ (Or.inr (M.out.nth 1 rfl).six) (fun hHeld => ?_)
  clear hK K hHeld
  replace hS := (M.out.nth 1 rfl).six
  refine tails_one (T := []) (i := 7) (o := _) rfl (by kernel_rfl) (fun K hK => ?_)
  go_simp
  refine (c2.out _).mono ?_
  rintro rr w2_ ⟨rfl, hb⟩
  replace M := Lib.hid (M.out.below hb)
  clear hb
  try go_wp2_with fail
  refine hK.out _ _ (Or.inr (M.out.nth 1 rfl).six) (fun hHeld => ?_)
  clear hK K hHeld
  replace hS := (M.out.nth 1 rfl).six
  refine tails_one (T := []) (i := 11) (o := _) rfl (by kernel_rfl) (fun K hK => ?_)
  go_simp
  refine (c3.out _).mono ?_
  rintro rr w3_ ⟨rfl, hb⟩
  replace M := Lib.hid (M.out.below hb)
  clear hb
  try go_wp2_with fail
  refine hK.out _ _ (Or.inr (M.out.nth 1 rfl).six) (fun hHeld => ?_)
  clear hK K hHeld
  replace hS := (M.out.nth 1 rfl).six
  refine tk (x := ?_) 12 rfl (by kernel_rfl) ⟨by kernel_rfl, ?_⟩ (fun _ _ _ h => h) hS ?_
  rotate_left; focus (intro w hSw; (try dsimp only at hSw); go_simp; try with_reducible rfl)
  refine tails_one (T := []) (i := 13) (o := _) rfl (by kernel_rfl) (fun K hK => ?_)
  have kc := (M.out.nth 0 rfl).2.1
  have kf := (M.out.nth 0 rfl).2.2
  replace M : Hid (Own w [((w.heap.size + 1), #[.float .f64 xl, .float .f64 xh, .float .f64 yl, .float .f64 yh, .float .f64 zl, .float .f64 zh]), (w.heap.size, #[.float .f64 a0, .float .f64 a1, .float .f64 a2, .float .f64 a3, .float .f64 a4, .float .f64 a5])] _) := Lib.hid (M.out.set6 0 rfl (.float .f64 xl) (.float .f64 xh) (.float .f64 yl) (.float .f64 yh) (.float .f64 zl) (.float .f64 zh))
  go_simp
  refine hK.out _ _ (Or.inr (M.out.nth 1 rfl).six) (fun hHeld => ?_)
  clear hK K hHeld kc kf
  refine tails_done (by kernel_rfl) ?_ _
  refine NoPanic.normal ?_
  clear hS
  revert M
  generalize ((((((w3_.setCell ⟨(w.heap.size + 1), 0, none⟩ (.float .f64 xl)).setCell ⟨(w.heap.size + 1), 1, none⟩ (.float .f64 xh)).setCell ⟨(w.heap.size + 1), 2, none⟩ (.float .f64 yl)).setCell ⟨(w.heap.size + 1), 3, none⟩ (.float .f64 yh)).setCell ⟨(w.heap.size + 1), 4, none⟩ (.float .f64 zl)).setCell ⟨(w.heap.size + 1), 5, none⟩ (.float .f64 zh)) = W4_
  intro M
  go_wp2
  obtain ⟨f1, f2, f3, f4, f5, f6⟩ := (M.out.nth 0 rfl).six
  exact bodyPost_ret (v := .agg #[.float .f64 xl, .float .f64 xh, .float .f64 yl, .float .f64 yh, .float .f64 zl, .float .f64 zh]) (by simp [results, Tryz.results5, go_sem, f1, f2, f3, f4, f5, f6]) rfl ⟨rfl, M.out.base⟩

set_option maxRecDepth 100000 in
set_option maxHeartbeats 16000000 in
theorem inner_walk {a0 a1 a2 a3 a4 a5 u0 u1 u2 u3 u4 u5 xl xh yl yh zl zh : Nat} (w : World)
    (c1 : Hid (∀ w, Calls Tryz.prog 6 #[.float .f64 a0, .float .f64 a1, .int .u32 u0, .int .u32 u1] w fun r w' => r = .returned (.agg #[.float .f64 xl, .float .f64 xh]) ∧ Below w.heap.size w w'))
    (c2 : Hid (∀ w, Calls Tryz.prog 6 #[.float .f64 a2, .float .f64 a3, .int .u32 u2, .int .u32 u3] w fun r w' => r = .returned (.agg #[.float .f64 yl, .float .f64 yh]) ∧ Below w.heap.size w w'))
    (c3 : Hid (∀ w, Calls Tryz.prog 6 #[.float .f64 a4, .float .f64 a5, .int .u32 u4, .int .u32 u5] w fun r w' => r = .returned (.agg #[.float .f64 zl, .float .f64 zh]) ∧ Below w.heap.size w w')) :
    Calls Tryz.prog 8 #[.agg #[.float .f64 a0, .float .f64 a1, .float .f64 a2, .float .f64 a3, .float .f64 a4, .float .f64 a5], .agg #[.int .u32 u0, .int .u32 u1, .int .u32 u2, .int .u32 u3, .int .u32 u4, .int .u32 u5]] w fun r w' => r = .returned (.agg #[.float .f64 xl, .float .f64 xh, .float .f64 yl, .float .f64 yh, .float .f64 zl, .float .f64 zh]) ∧ Below w.heap.size w w' := by
  have M := Lib.hid ((((Own.nil w).made #[.float .f64 a0, .float .f64 a1, .float .f64 a2, .float .f64 a3, .float .f64 a4, .float .f64 a5] 29).made #[.int .u32 u0, .int .u32 u1, .int .u32 u2, .int .u32 u3, .int .u32 u4, .int .u32 u5] 23).made #[.float .f64 0, .float .f64 0, .float .f64 0, .float .f64 0, .float .f64 0, .float .f64 0] 29)
  simp only [World.size_alloc] at M
  have eqF := eq_floats
  go_enter Tryz.func8, Tryz.ntmps8
  go_upto_region 1 with fail
  replace M := Lib.hid M.out.drew
  revert M
  generalize (((w.alloc (.cells #[.float .f64 a0, .float .f64 a1, .float .f64 a2, .float .f64 a3, .float .f64 a4, .float .f64 a5] 29)).alloc (.cells #[.int .u32 u0, .int .u32 u1, .int .u32 u2, .int .u32 u3, .int .u32 u4, .int .u32 u5] 23)).alloc (.cells #[.float .f64 0, .float .f64 0, .float .f64 0, .float .f64 0, .float .f64 0, .float .f64 0] 29)) = W0_
  intro M
  refine wp_region_noPanic ?_
  refine tails_region (S := fun w' => (w'.cell? ⟨w.heap.size, 0, none⟩ = some (.float .f64 a0) ∧ w'.cell? ⟨w.heap.size, 1, none⟩ = some (.float .f64 a1) ∧ w'.cell? ⟨w.heap.size, 2, none⟩ = some (.float .f64 a2) ∧ w'.cell? ⟨w.heap.size, 3, none⟩ = some (.float .f64 a3) ∧ w'.cell? ⟨w.heap.size, 4, none⟩ = some (.float .f64 a4) ∧ w'.cell? ⟨w.heap.size, 5, none⟩ = some (.float .f64 a5)) ∧ (w'.cell? ⟨(w.heap.size + 1), 0, none⟩ = some (.int .u32 u0) ∧ w'.cell? ⟨(w.heap.size + 1), 1, none⟩ = some (.int .u32 u1) ∧ w'.cell? ⟨(w.heap.size + 1), 2, none⟩ = some (.int .u32 u2) ∧ w'.cell? ⟨(w.heap.size + 1), 3, none⟩ = some (.int .u32 u3) ∧ w'.cell? ⟨(w.heap.size + 1), 4, none⟩ = some (.int .u32 u4) ∧ w'.cell? ⟨(w.heap.size + 1), 5, none⟩ = some (.int .u32 u5))) [] (by kernel_rfl) ?_ (fun hS => ?_)
  · exact ⟨(M.out.nth 2 rfl).six, (M.out.nth 1 rfl).six⟩
  refine tk (x := ?_) 0 rfl (by kernel_rfl) ⟨by kernel_rfl, ?_⟩ (fun _ _ _ h => h) hS ?_
  rotate_left; focus (intro w hSw; (try dsimp only at hSw); go_simp; try with_reducible rfl)
  refine tk (x := ?_) 1 rfl (by kernel_rfl) ⟨by kernel_rfl, ?_⟩ (fun _ _ _ h => h) hS ?_
  rotate_left; focus (intro w hSw; (try dsimp only at hSw); go_simp; try with_reducible rfl)
  refine tk (x := ?_) 2 rfl (by kernel_rfl) ⟨by kernel_rfl, ?_⟩ (fun _ _ _ h => h) hS ?_
  rotate_left; focus (intro w hSw; (try dsimp only at hSw); go_simp; try with_reducible rfl)
  refine tk (x := ?_) 3 rfl (by kernel_rfl) ⟨by kernel_rfl, ?_⟩ (fun _ _ _ h => h) hS ?_
  rotate_left; focus (intro w hSw; (try dsimp only at hSw); go_simp; try with_reducible rfl)
  refine tk (x := ?_) 4 rfl (by kernel_rfl) ⟨by kernel_rfl, ?_⟩ (fun _ _ _ h => h) hS ?_
  rotate_left; focus (intro w hSw; (try dsimp only at hSw); go_simp; try with_reducible rfl)
  refine tk (x := ?_) 5 rfl (by kernel_rfl) ⟨by kernel_rfl, ?_⟩ (fun _ _ _ h => h) hS ?_
  rotate_left; focus (intro w hSw; (try dsimp only at hSw); go_simp; try with_reducible rfl)
  refine tk (x := ?_) 6 rfl (by kernel_rfl) ⟨by kernel_rfl, ?_⟩ (fun _ _ _ h => h) hS ?_
  rotate_left; focus (intro w hSw; (try dsimp only at hSw); go_simp; try with_reducible rfl)
  refine tk (x := ?_) 7 rfl (by kernel_rfl) ⟨by kernel_rfl, ?_⟩ (fun _ _ _ h => h) hS ?_
  rotate_left; focus (intro w hSw; (try dsimp only at hSw); go_simp; try with_reducible rfl)
  refine tk (x := ?_) 8 rfl (by kernel_rfl) ⟨by kernel_rfl, ?_⟩ (fun _ _ _ h => h) hS ?_
  rotate_left; focus (intro w hSw; (try dsimp only at hSw); go_simp; try with_reducible rfl)
  refine tk (x := ?_) 9 rfl (by kernel_rfl) ⟨by kernel_rfl, ?_⟩ (fun _ _ _ h => h) hS ?_
  rotate_left; focus (intro w hSw; (try dsimp only at hSw); go_simp; try with_reducible rfl)
  refine tk (x := ?_) 11 rfl (by kernel_rfl) ⟨by kernel_rfl, ?_⟩ (fun _ _ _ h => h) hS ?_
  rotate_left; focus (intro w hSw; (try dsimp only at hSw); go_simp; try with_reducible rfl)
  refine tk (x := ?_) 12 rfl (by kernel_rfl) ⟨by kernel_rfl, ?_⟩ (fun _ _ _ h => h) hS ?_
  rotate_left; focus (intro w hSw; (try dsimp only at hSw); go_simp; try with_reducible rfl)
  refine tk (x := ?_) 13 rfl (by kernel_rfl) ⟨by kernel_rfl, ?_⟩ (fun _ _ _ h => h) hS ?_
  rotate_left; focus (intro w hSw; (try dsimp only at hSw); go_simp; try with_reducible rfl)
  refine tk (x := ?_) 14 rfl (by kernel_rfl) ⟨by kernel_rfl, ?_⟩ (fun _ _ _ h => h) hS ?_
  rotate_left; focus (intro w hSw; (try dsimp only at hSw); go_simp; try with_reducible rfl)
  refine tk (x := ?_) 15 rfl (by kernel_rfl) ⟨by kernel_rfl, ?_⟩ (fun _ _ _ h => h) hS ?_
  rotate_left; focus (intro w hSw; (try dsimp only at hSw); go_simp; try with_reducible rfl)
  refine tk (x := ?_) 16 rfl (by kernel_rfl) ⟨by kernel_rfl, ?_⟩ (fun _ _ _ h => h) hS ?_
  rotate_left; focus (intro w hSw; (try dsimp only at hSw); go_simp; try with_reducible rfl)
  refine tk (x := ?_) 17 rfl (by kernel_rfl) ⟨by kernel_rfl, ?_⟩ (fun _ _ _ h => h) hS ?_
  rotate_left; focus (intro w hSw; (try dsimp only at hSw); go_simp; try with_reducible rfl)
  refine tk (x := ?_) 18 rfl (by kernel_rfl) ⟨by kernel_rfl, ?_⟩ (fun _ _ _ h => h) hS ?_
  rotate_left; focus (intro w hSw; (try dsimp only at hSw); go_simp; try with_reducible rfl)
  refine tk (x := ?_) 19 rfl (by kernel_rfl) ⟨by kernel_rfl, ?_⟩ (fun _ _ _ h => h) hS ?_
  rotate_left; focus (intro w hSw; (try dsimp only at hSw); go_simp; try with_reducible rfl)
  refine tk (x := ?_) 20 rfl (by kernel_rfl) ⟨by kernel_rfl, ?_⟩ (fun _ _ _ h => h) hS ?_
  rotate_left; focus (intro w hSw; (try dsimp only at hSw); go_simp; try with_reducible rfl)
  refine tk (x := ?_) 22 rfl (by kernel_rfl) ⟨by kernel_rfl, ?_⟩ (fun _ _ _ h => h) hS ?_
  rotate_left; focus (intro w hSw; (try dsimp only at hSw); go_simp; try with_reducible rfl)
  refine tk (x := ?_) 23 rfl (by kernel_rfl) ⟨by kernel_rfl, ?_⟩ (fun _ _ _ h => h) hS ?_
  rotate_left; focus (intro w hSw; (try dsimp only at hSw); go_simp; try with_reducible rfl)
  refine tk (x := ?_) 24 rfl (by kernel_rfl) ⟨by kernel_rfl, ?_⟩ (fun _ _ _ h => h) hS ?_
  rotate_left; focus (intro w hSw; (try dsimp only at hSw); go_simp; try with_reducible rfl)
  refine tk (x := ?_) 25 rfl (by kernel_rfl) ⟨by kernel_rfl, ?_⟩ (fun _ _ _ h => h) hS ?_
  rotate_left; focus (intro w hSw; (try dsimp only at hSw); go_simp; try with_reducible rfl)
  refine tk (x := ?_) 26 rfl (by kernel_rfl) ⟨by kernel_rfl, ?_⟩ (fun _ _ _ h => h) hS ?_
  rotate_left; focus (intro w hSw; (try dsimp only at hSw); go_simp; try with_reducible rfl)
  refine tk (x := ?_) 27 rfl (by kernel_rfl) ⟨by kernel_rfl, ?_⟩ (fun _ _ _ h => h) hS ?_
  rotate_left; focus (intro w hSw; (try dsimp only at hSw); go_simp; try with_reducible rfl)
  refine tk (x := ?_) 28 rfl (by kernel_rfl) ⟨by kernel_rfl, ?_⟩ (fun _ _ _ h => h) hS ?_
  rotate_left; focus (intro w hSw; (try dsimp only at hSw); go_simp; try with_reducible rfl)
  refine tk (x := ?_) 29 rfl (by kernel_rfl) ⟨by kernel_rfl, ?_⟩ (fun _ _ _ h => h) hS ?_
  rotate_left; focus (intro w hSw; (try dsimp only at hSw); go_simp; try with_reducible rfl)
  refine tk (x := ?_) 30 rfl (by kernel_rfl) ⟨by kernel_rfl, ?_⟩ (fun _ _ _ h => h) hS ?_
  rotate_left; focus (intro w hSw; (try dsimp only at hSw); go_simp; try with_reducible rfl)
  refine tk (x := ?_) 31 rfl (by kernel_rfl) ⟨by kernel_rfl, ?_⟩ (fun _ _ _ h => h) hS ?_
  rotate_left; focus (intro w hSw; (try dsimp only at hSw); go_simp; try with_reducible rfl)
  conv => arg 9; simp only [Act.put, go_sem]
  refine tails_one (T := []) (i := 10) (o := _) rfl (by kernel_rfl) (fun K hK => ?_)
  go_simp
  refine (c1.out _).mono ?_
  rintro rr w1_ ⟨rfl, hb⟩
  replace M := Lib.hid (M.out.below hb)
  clear hb
  try go_wp2_with fail
  refine hK.out _ _ (Or.inr ⟨(M.out.nth 2 rfl).six, (M.out.nth 1 rfl).six⟩) (fun hHeld => ?_)
  clear hK K hHeld
  replace hS := (And.intro (M.out.nth 2 rfl).six (M.out.nth 1 rfl).six)
  refine tails_one (T := []) (i := 21) (o := _) rfl (by kernel_rfl) (fun K hK => ?_)
  go_simp
  refine (c2.out _).mono ?_
  rintro rr w2_ ⟨rfl, hb⟩
  replace M := Lib.hid (M.out.below hb)
  clear hb
  try go_wp2_with fail
  refine hK.out _ _ (Or.inr ⟨(M.out.nth 2 rfl).six, (M.out.nth 1 rfl).six⟩) (fun hHeld => ?_)
  clear hK K hHeld
  replace hS := (And.intro (M.out.nth 2 rfl).six (M.out.nth 1 rfl).six)
  refine tails_one (T := []) (i := 32) (o := _) rfl (by kernel_rfl) (fun K hK => ?_)
  go_simp
  refine (c3.out _).mono ?_
  rintro rr w3_ ⟨rfl, hb⟩
  replace M := Lib.hid (M.out.below hb)
  clear hb
  try go_wp2_with fail
  refine hK.out _ _ (Or.inr ⟨(M.out.nth 2 rfl).six, (M.out.nth 1 rfl).six⟩) (fun hHeld => ?_)
  clear hK K hHeld
  replace hS := (And.intro (M.out.nth 2 rfl).six (M.out.nth 1 rfl).six)
  refine tk (x := ?_) 33 rfl (by kernel_rfl) ⟨by kernel_rfl, ?_⟩ (fun _ _ _ h => h) hS ?_
  rotate_left; focus (intro w hSw; (try dsimp only at hSw); go_simp; try with_reducible rfl)
  refine tails_one (T := []) (i := 34) (o := _) rfl (by kernel_rfl) (fun K hK => ?_)
  have kc := (M.out.nth 0 rfl).2.1
  have kf := (M.out.nth 0 rfl).2.2
  replace M : Hid (Own w [((w.heap.size + 1 + 1), #[.float .f64 xl, .float .f64 xh, .float .f64 yl, .float .f64 yh, .float .f64 zl, .float .f64 zh]), ((w.heap.size + 1), #[.int .u32 u0, .int .u32 u1, .int .u32 u2, .int .u32 u3, .int .u32 u4, .int .u32 u5]), (w.heap.size, #[.float .f64 a0, .float .f64 a1, .float .f64 a2, .float .f64 a3, .float .f64 a4, .float .f64 a5])] _) := Lib.hid (M.out.set6 0 rfl (.float .f64 xl) (.float .f64 xh) (.float .f64 yl) (.float .f64 yh) (.float .f64 zl) (.float .f64 zh))
  go_simp
  refine hK.out _ _ (Or.inr ⟨(M.out.nth 2 rfl).six, (M.out.nth 1 rfl).six⟩) (fun hHeld => ?_)
  clear hK K hHeld kc kf
  refine tails_done (by kernel_rfl) ?_ _
  refine NoPanic.normal ?_
  clear hS
  revert M
  generalize ((((((w3_.setCell ⟨(w.heap.size + 1 + 1), 0, none⟩ (.float .f64 xl)).setCell ⟨(w.heap.size + 1 + 1), 1, none⟩ (.float .f64 xh)).setCell ⟨(w.heap.size + 1 + 1), 2, none⟩ (.float .f64 yl)).setCell ⟨(w.heap.size + 1 + 1), 3, none⟩ (.float .f64 yh)).setCell ⟨(w.heap.size + 1 + 1), 4, none⟩ (.float .f64 zl)).setCell ⟨(w.heap.size + 1 + 1), 5, none⟩ (.float .f64 zh)) = W4_
  intro M
  go_wp2
  obtain ⟨f1, f2, f3, f4, f5, f6⟩ := (M.out.nth 0 rfl).six
  exact bodyPost_ret (v := .agg #[.float .f64 xl, .float .f64 xh, .float .f64 yl, .float .f64 yh, .float .f64 zl, .float .f64 zh]) (by simp [results, Tryz.results8, go_sem, f1, f2, f3, f4, f5, f6]) rfl ⟨rfl, M.out.base⟩

end Go.Proofs.YthefgkgdadkgbaaGreat
