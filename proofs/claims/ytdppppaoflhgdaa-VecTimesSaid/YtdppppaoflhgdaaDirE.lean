
/- What Add, Sub, Mul and Next of package dir answer, for all words: the error 13 where an operand is no number, else what is rounded. -/
import Derived.Test.YtdppppaoflhgdaaDirDb
namespace Go.Proofs.Ytdppppaoflhgdaa
open Go.RowKit

theorem mant_lt (a : Nat) : mant a < 9007199254740992 := by
  unfold mant
  split <;> omega
theorem expo_in (a : Nat) (h : rightB a = true) : -1074 ≤ expo a ∧ expo a ≤ 971 := by
  unfold rightB at h
  simp at h
  have : rung a < 9218868437227405312 := h.1
  unfold expo
  split <;> omega
theorem mant_norm (a : Nat) (h : -1074 < expo a) : 4503599627370496 ≤ mant a := by
  unfold expo at h
  unfold mant
  split
  · rename_i g; rw [if_pos g] at h; omega
  · omega

/-- What Add answers: the word, and the error. -/
def addW (a b : Nat) (up : Bool) : Nat := if rightB a && rightB b then roundW (plusN (sgnB a) (sgnB b) (mant a) (mant b) (expo a) (expo b)) (plusW (sgnB a) (sgnB b) (mant a) (mant b) (expo a) (expo b)) (plusX (mant a) (mant b) (expo a) (expo b)) up else 0
def addE (a b : Nat) (up : Bool) : Int := if rightB a && rightB b then roundE (plusN (sgnB a) (sgnB b) (mant a) (mant b) (expo a) (expo b)) (plusW (sgnB a) (sgnB b) (mant a) (mant b) (expo a) (expo b)) (plusX (mant a) (mant b) (expo a) (expo b)) up else 13

set_option maxHeartbeats 1000000 in
theorem add_any (a b : Nat) (up : Bool) (w : World) (ha : a < 18446744073709551616) (hb : b < 18446744073709551616) :
    Calls Try.prog 87 #[.float .f64 a, .float .f64 b, .bool up] w fun r w' => r = .returned (.tuple #[.float .f64 (addW a b up), .int .i64 (addE a b up)]) ∧ Below w.heap.size w w' := by
  have cRa := Lib.hid (fun w => right_any a w ha)
  have cRb := Lib.hid (fun w => right_any b w hb)
  have cSa := Lib.hid (fun w => split_any a w ha)
  have cSb := Lib.hid (fun w => split_any b w hb)
  cases ra : rightB a
  · have e1 : addW a b up = 0 := if_neg (by rw [ra]; exact Bool.false_ne_true)
    have e2 : addE a b up = 13 := if_neg (by rw [ra]; exact Bool.false_ne_true)
    have E := Lib.hid (And.intro e1 e2)
    have RA := Lib.hid ra
    clear ha hb e1 e2 ra
    go_enter Try.func87, Try.ntmps87
    go_wp2_with fail
    refine (cRa.out _).mono ?_
    rintro r w1 ⟨rfl, rfl⟩
    rw [RA.out]
    go_wp2
    go_ret2
    exact ⟨ret_pair ⟨E.out.1.symm, E.out.2.symm⟩, Below.refl _ _⟩
  · cases rb : rightB b
    · have e1 : addW a b up = 0 := if_neg (by rw [ra, rb]; decide)
      have e2 : addE a b up = 13 := if_neg (by rw [ra, rb]; decide)
      have E := Lib.hid (And.intro e1 e2)
      have RA := Lib.hid ra
      have RB := Lib.hid rb
      clear ha hb e1 e2 ra rb
      go_enter Try.func87, Try.ntmps87
      go_wp2_with fail
      refine (cRa.out _).mono ?_
      rintro r w1 ⟨rfl, rfl⟩
      rw [RA.out]
      go_wp2_with fail
      refine (cRb.out _).mono ?_
      rintro r w1 ⟨rfl, rfl⟩
      rw [RB.out]
      go_wp2
      go_ret2
      exact ⟨ret_pair ⟨E.out.1.symm, E.out.2.symm⟩, Below.refl _ _⟩
    · have xa := expo_in a ra
      have xb := expo_in b rb
      have hx := plusX_in (mant a) (mant b) (expo a) (expo b) xa.1 (by omega) xb.1 (by omega)
      have cS := Lib.hid (fun w => sum_any (sgnB a) (sgnB b) (mant a) (mant b) (expo a) (expo b) w (mant_lt a) (mant_lt b) xa.1 (by omega) xb.1 (by omega) (mant_norm a) (mant_norm b))
      have cR := Lib.hid (fun w => round_any (plusN (sgnB a) (sgnB b) (mant a) (mant b) (expo a) (expo b)) (plusW (sgnB a) (sgnB b) (mant a) (mant b) (expo a) (expo b)) (plusX (mant a) (mant b) (expo a) (expo b)) up w (plusW_lt _ _ _ _ _ _ (mant_lt a) (mant_lt b) (mant_norm a) (mant_norm b) xa.1 xb.1) (by omega) (by omega))
      have e1 : addW a b up = roundW (plusN (sgnB a) (sgnB b) (mant a) (mant b) (expo a) (expo b)) (plusW (sgnB a) (sgnB b) (mant a) (mant b) (expo a) (expo b)) (plusX (mant a) (mant b) (expo a) (expo b)) up := if_pos (by rw [ra, rb]; decide)
      have e2 : addE a b up = roundE (plusN (sgnB a) (sgnB b) (mant a) (mant b) (expo a) (expo b)) (plusW (sgnB a) (sgnB b) (mant a) (mant b) (expo a) (expo b)) (plusX (mant a) (mant b) (expo a) (expo b)) up := if_pos (by rw [ra, rb]; decide)
      have E := Lib.hid (And.intro e1 e2)
      have RA := Lib.hid ra
      have RB := Lib.hid rb
      clear ha hb e1 e2 ra rb xa xb hx
      go_enter Try.func87, Try.ntmps87
      go_wp2_with fail
      refine (cRa.out _).mono ?_
      rintro r w1 ⟨rfl, rfl⟩
      rw [RA.out]
      go_wp2_with fail
      refine (cRb.out _).mono ?_
      rintro r w1 ⟨rfl, rfl⟩
      rw [RB.out]
      go_wp2_with fail
      refine (cSa.out _).mono ?_
      rintro r w1 ⟨rfl, h1⟩
      go_wp2_with fail
      refine (cSb.out _).mono ?_
      rintro r w2 ⟨rfl, h2⟩
      go_wp2_with fail
      refine (cS.out _).mono ?_
      rintro r w3 ⟨rfl, h3⟩
      go_wp2_with fail
      refine (cR.out _).mono ?_
      rintro r w4 ⟨rfl, h4⟩
      have HH := Lib.hid (((h1.trans (h2.mono h1.size)).trans (h3.mono (Nat.le_trans h1.size h2.size))).trans (h4.mono (Nat.le_trans h1.size (Nat.le_trans h2.size h3.size))))
      clear h1 h2 h3 h4
      go_wp2
      go_ret2
      exact ⟨ret_pair ⟨E.out.1.symm, E.out.2.symm⟩, HH.out⟩

/-- What Sub answers: the word, and the error. -/
def subW (a b : Nat) (up : Bool) : Nat := if rightB a && rightB b then roundW (plusN (sgnB a) (!sgnB b) (mant a) (mant b) (expo a) (expo b)) (plusW (sgnB a) (!sgnB b) (mant a) (mant b) (expo a) (expo b)) (plusX (mant a) (mant b) (expo a) (expo b)) up else 0
def subE (a b : Nat) (up : Bool) : Int := if rightB a && rightB b then roundE (plusN (sgnB a) (!sgnB b) (mant a) (mant b) (expo a) (expo b)) (plusW (sgnB a) (!sgnB b) (mant a) (mant b) (expo a) (expo b)) (plusX (mant a) (mant b) (expo a) (expo b)) up else 13

set_option maxHeartbeats 1000000 in
theorem sub_any (a b : Nat) (up : Bool) (w : World) (ha : a < 18446744073709551616) (hb : b < 18446744073709551616) :
    Calls Try.prog 86 #[.float .f64 a, .float .f64 b, .bool up] w fun r w' => r = .returned (.tuple #[.float .f64 (subW a b up), .int .i64 (subE a b up)]) ∧ Below w.heap.size w w' := by
  have cRa := Lib.hid (fun w => right_any a w ha)
  have cRb := Lib.hid (fun w => right_any b w hb)
  have cSa := Lib.hid (fun w => split_any a w ha)
  have cSb := Lib.hid (fun w => split_any b w hb)
  cases ra : rightB a
  · have e1 : subW a b up = 0 := if_neg (by rw [ra]; exact Bool.false_ne_true)
    have e2 : subE a b up = 13 := if_neg (by rw [ra]; exact Bool.false_ne_true)
    have E := Lib.hid (And.intro e1 e2)
    have RA := Lib.hid ra
    clear ha hb e1 e2 ra
    go_enter Try.func86, Try.ntmps86
    go_wp2_with fail
    refine (cRa.out _).mono ?_
    rintro r w1 ⟨rfl, rfl⟩
    rw [RA.out]
    go_wp2
    go_ret2
    exact ⟨ret_pair ⟨E.out.1.symm, E.out.2.symm⟩, Below.refl _ _⟩
  · cases rb : rightB b
    · have e1 : subW a b up = 0 := if_neg (by rw [ra, rb]; decide)
      have e2 : subE a b up = 13 := if_neg (by rw [ra, rb]; decide)
      have E := Lib.hid (And.intro e1 e2)
      have RA := Lib.hid ra
      have RB := Lib.hid rb
      clear ha hb e1 e2 ra rb
      go_enter Try.func86, Try.ntmps86
      go_wp2_with fail
      refine (cRa.out _).mono ?_
      rintro r w1 ⟨rfl, rfl⟩
      rw [RA.out]
      go_wp2_with fail
      refine (cRb.out _).mono ?_
      rintro r w1 ⟨rfl, rfl⟩
      rw [RB.out]
      go_wp2
      go_ret2
      exact ⟨ret_pair ⟨E.out.1.symm, E.out.2.symm⟩, Below.refl _ _⟩
    · have xa := expo_in a ra
      have xb := expo_in b rb
      have hx := plusX_in (mant a) (mant b) (expo a) (expo b) xa.1 (by omega) xb.1 (by omega)
      have cN := Lib.hid (fun w => negative_any (sgnB b) (mant b) (expo b) w)
      have cS := Lib.hid (fun w => sum_any (sgnB a) (!sgnB b) (mant a) (mant b) (expo a) (expo b) w (mant_lt a) (mant_lt b) xa.1 (by omega) xb.1 (by omega) (mant_norm a) (mant_norm b))
      have cR := Lib.hid (fun w => round_any (plusN (sgnB a) (!sgnB b) (mant a) (mant b) (expo a) (expo b)) (plusW (sgnB a) (!sgnB b) (mant a) (mant b) (expo a) (expo b)) (plusX (mant a) (mant b) (expo a) (expo b)) up w (plusW_lt _ _ _ _ _ _ (mant_lt a) (mant_lt b) (mant_norm a) (mant_norm b) xa.1 xb.1) (by omega) (by omega))
      have e1 : subW a b up = roundW (plusN (sgnB a) (!sgnB b) (mant a) (mant b) (expo a) (expo b)) (plusW (sgnB a) (!sgnB b) (mant a) (mant b) (expo a) (expo b)) (plusX (mant a) (mant b) (expo a) (expo b)) up := if_pos (by rw [ra, rb]; decide)
      have e2 : subE a b up = roundE (plusN (sgnB a) (!sgnB b) (mant a) (mant b) (expo a) (expo b)) (plusW (sgnB a) (!sgnB b) (mant a) (mant b) (expo a) (expo b)) (plusX (mant a) (mant b) (expo a) (expo b)) up := if_pos (by rw [ra, rb]; decide)
      have E := Lib.hid (And.intro e1 e2)
      have RA := Lib.hid ra
      have RB := Lib.hid rb
      clear ha hb e1 e2 ra rb xa xb hx
      go_enter Try.func86, Try.ntmps86
      go_wp2_with fail
      refine (cRa.out _).mono ?_
      rintro r w1 ⟨rfl, rfl⟩
      rw [RA.out]
      go_wp2_with fail
      refine (cRb.out _).mono ?_
      rintro r w1 ⟨rfl, rfl⟩
      rw [RB.out]
      go_wp2_with fail
      refine (cSa.out _).mono ?_
      rintro r w1 ⟨rfl, h1⟩
      go_wp2_with fail
      refine (cSb.out _).mono ?_
      rintro r w2 ⟨rfl, h2⟩
      go_wp2_with fail
      refine (cN.out _).mono ?_
      rintro r w0 ⟨rfl, h0⟩
      go_wp2_with fail
      refine (cS.out _).mono ?_
      rintro r w3 ⟨rfl, h3⟩
      go_wp2_with fail
      refine (cR.out _).mono ?_
      rintro r w4 ⟨rfl, h4⟩
      have HH := Lib.hid ((((h1.trans (h2.mono h1.size)).trans (h0.mono (Nat.le_trans h1.size h2.size))).trans (h3.mono (Nat.le_trans h1.size (Nat.le_trans h2.size h0.size)))).trans (h4.mono (Nat.le_trans h1.size (Nat.le_trans h2.size (Nat.le_trans h0.size h3.size)))))
      clear h0
      clear h1 h2 h3 h4
      go_wp2
      go_ret2
      exact ⟨ret_pair ⟨E.out.1.symm, E.out.2.symm⟩, HH.out⟩

/-- What Mul answers: the word, and the error. -/
def mulW (a b : Nat) (up : Bool) : Nat := if rightB a && rightB b then roundW (!(sgnB a == sgnB b)) (mant a * mant b) (expo a + expo b) up else 0
def mulE (a b : Nat) (up : Bool) : Int := if rightB a && rightB b then roundE (!(sgnB a == sgnB b)) (mant a * mant b) (expo a + expo b) up else 13

set_option maxHeartbeats 1000000 in
theorem mul_any (a b : Nat) (up : Bool) (w : World) (ha : a < 18446744073709551616) (hb : b < 18446744073709551616) :
    Calls Try.prog 84 #[.float .f64 a, .float .f64 b, .bool up] w fun r w' => r = .returned (.tuple #[.float .f64 (mulW a b up), .int .i64 (mulE a b up)]) ∧ Below w.heap.size w w' := by
  have cRa := Lib.hid (fun w => right_any a w ha)
  have cRb := Lib.hid (fun w => right_any b w hb)
  have cSa := Lib.hid (fun w => split_any a w ha)
  have cSb := Lib.hid (fun w => split_any b w hb)
  cases ra : rightB a
  · have e1 : mulW a b up = 0 := if_neg (by rw [ra]; exact Bool.false_ne_true)
    have e2 : mulE a b up = 13 := if_neg (by rw [ra]; exact Bool.false_ne_true)
    have E := Lib.hid (And.intro e1 e2)
    have RA := Lib.hid ra
    clear ha hb e1 e2 ra
    go_enter Try.func84, Try.ntmps84
    go_wp2_with fail
    refine (cRa.out _).mono ?_
    rintro r w1 ⟨rfl, rfl⟩
    rw [RA.out]
    go_wp2
    go_ret2
    exact ⟨ret_pair ⟨E.out.1.symm, E.out.2.symm⟩, Below.refl _ _⟩
  · cases rb : rightB b
    · have e1 : mulW a b up = 0 := if_neg (by rw [ra, rb]; decide)
      have e2 : mulE a b up = 13 := if_neg (by rw [ra, rb]; decide)
      have E := Lib.hid (And.intro e1 e2)
      have RA := Lib.hid ra
      have RB := Lib.hid rb
      clear ha hb e1 e2 ra rb
      go_enter Try.func84, Try.ntmps84
      go_wp2_with fail
      refine (cRa.out _).mono ?_
      rintro r w1 ⟨rfl, rfl⟩
      rw [RA.out]
      go_wp2_with fail
      refine (cRb.out _).mono ?_
      rintro r w1 ⟨rfl, rfl⟩
      rw [RB.out]
      go_wp2
      go_ret2
      exact ⟨ret_pair ⟨E.out.1.symm, E.out.2.symm⟩, Below.refl _ _⟩
    · have xa := expo_in a ra
      have xb := expo_in b rb
      have hmul : mant a * mant b < 340282366920938463463374607431768211456 := Nat.lt_of_le_of_lt (Nat.mul_le_mul (Nat.le_of_lt (mant_lt a)) (Nat.le_of_lt (mant_lt b))) (by decide)
      have ma := mant_lt a
      have mb := mant_lt b
      have cS := Lib.hid (fun w => product_any (sgnB a) (sgnB b) (mant a) (mant b) (expo a) (expo b) w (by omega) (by omega) (by omega) (by omega) (by omega) (by omega))
      have cR := Lib.hid (fun w => round_any (!(sgnB a == sgnB b)) (mant a * mant b) (expo a + expo b) up w hmul (by omega) (by omega))
      clear ma mb hmul
      have e1 : mulW a b up = roundW (!(sgnB a == sgnB b)) (mant a * mant b) (expo a + expo b) up := if_pos (by rw [ra, rb]; decide)
      have e2 : mulE a b up = roundE (!(sgnB a == sgnB b)) (mant a * mant b) (expo a + expo b) up := if_pos (by rw [ra, rb]; decide)
      have E := Lib.hid (And.intro e1 e2)
      have RA := Lib.hid ra
      have RB := Lib.hid rb
      clear ha hb e1 e2 ra rb xa xb
      go_enter Try.func84, Try.ntmps84
      go_wp2_with fail
      refine (cRa.out _).mono ?_
      rintro r w1 ⟨rfl, rfl⟩
      rw [RA.out]
      go_wp2_with fail
      refine (cRb.out _).mono ?_
      rintro r w1 ⟨rfl, rfl⟩
      rw [RB.out]
      go_wp2_with fail
      refine (cSa.out _).mono ?_
      rintro r w1 ⟨rfl, h1⟩
      go_wp2_with fail
      refine (cSb.out _).mono ?_
      rintro r w2 ⟨rfl, h2⟩
      go_wp2_with fail
      refine (cS.out _).mono ?_
      rintro r w3 ⟨rfl, h3⟩
      go_wp2_with fail
      refine (cR.out _).mono ?_
      rintro r w4 ⟨rfl, h4⟩
      have HH := Lib.hid (((h1.trans (h2.mono h1.size)).trans (h3.mono (Nat.le_trans h1.size h2.size))).trans (h4.mono (Nat.le_trans h1.size (Nat.le_trans h2.size h3.size))))
      clear h1 h2 h3 h4
      go_wp2
      go_ret2
      exact ⟨ret_pair ⟨E.out.1.symm, E.out.2.symm⟩, HH.out⟩

/-- What Next answers: the sum with the least step. -/
def tinyW (up : Bool) : Nat := if up then 1 else 9223372036854775809

theorem neg_one : Op.unary .neg (.float .f64 1) = pure (.float .f64 9223372036854775809) := by
  have h : Op.negFloat .f64 1 = 9223372036854775809 := by decide +kernel
  show pure (Value.float .f64 (Op.negFloat .f64 1)) = _
  rw [h]

end Go.Proofs.Ytdppppaoflhgdaa
