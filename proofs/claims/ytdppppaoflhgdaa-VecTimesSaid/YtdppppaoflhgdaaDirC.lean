
/- What the function round of package dir answers. -/
import Derived.Test.YtdppppaoflhgdaaDirB
import Derived.Laws.StructEq
namespace Go.Proofs.Ytdppppaoflhgdaa
open Go.RowKit

/-- A word, moved to the right; moved to the left. -/
def shrN (x y : Nat) : Nat := x / 2 ^ y
def shlN (x y : Nat) : Nat := x * 2 ^ y % 18446744073709551616

theorem shift_shr_any (x y : Nat) (hx : x < 18446744073709551616) : Op.shift .shr .u64 (x : Int) .u64 (y : Int) = pure (.int .u64 (shrN x y)) := by
  by_cases h : y ≤ 64
  · rw [shift_shr .u64 .u64 x y (by omega) (by show (y : Int) ≤ 64; omega), Int.toNat_natCast]
    unfold shrN
    rw [Int.natCast_ediv]; simp
  · have hm : min (y : Int).toNat IntKind.u64.bits = 64 := by show min _ 64 = 64; omega
    have e : shrN x y = 0 := by
      unfold shrN
      refine Nat.div_eq_of_lt (Nat.lt_of_lt_of_le hx ?_)
      rw [show (18446744073709551616 : Nat) = 2 ^ 64 by decide]
      exact Nat.pow_le_pow_right (by decide) (by omega)
    have n : ¬ (y : Int) < 0 := by omega
    unfold Op.shift
    rw [if_neg n]
    show pure (Value.int IntKind.u64 ((x : Int).fdiv (2 ^ (min (y : Int).toNat IntKind.u64.bits)))) = _
    rw [hm, e, Int.fdiv_eq_ediv_of_nonneg _ (by decide)]
    rw [show ((x : Int) / 2 ^ 64) = ((0 : Nat) : Int) by omega]

theorem shift_shl_any (x y : Nat) : Op.shift .shl .u64 (x : Int) .u64 (y : Int) = pure (.int .u64 (shlN x y)) := by
  by_cases h : y ≤ 64
  · rw [shift_shl .u64 .u64 x y (by omega) (by show (y : Int) ≤ 64; omega), Int.toNat_natCast, IntKind.wrap_u64]
    unfold shlN
    rw [Int.natCast_emod, Int.natCast_mul]; simp
  · have hm : min (y : Int).toNat IntKind.u64.bits = 64 := by show min _ 64 = 64; omega
    have e : shlN x y = 0 := by
      unfold shlN
      rw [show y = 64 + (y - 64) by omega, Nat.pow_add, show x * (2 ^ 64 * 2 ^ (y - 64)) = 2 ^ 64 * (x * 2 ^ (y - 64)) by rw [Nat.mul_left_comm]]
      exact Nat.mul_mod_right _ _
    have n : ¬ (y : Int) < 0 := by omega
    unfold Op.shift
    rw [if_neg n]
    show pure (Value.int IntKind.u64 (IntKind.u64.wrap ((x : Int) * (2 ^ (min (y : Int).toNat IntKind.u64.bits))))) = _
    rw [hm, e, IntKind.wrap_u64]
    rw [show ((x : Int) * 2 ^ 64 % 18446744073709551616) = ((0 : Nat) : Int) by omega]

/-- Two arrays of two words are compared word by word. -/
theorem run_eq_words (a b c d : Int) (w : World) : (Op.equalIn 10000 106 (.agg #[.int .u64 a, .int .u64 b]) (.agg #[.int .u64 c, .int .u64 d])).run Try.prog w = .ok (a == c && b == d) w := by
  have hu := run_underlying Try.underlying106 (w := w)
  show (Op.equalIn (9999 + 1) 106 _ _).run Try.prog w = _
  rw [Op.equalIn]
  simp only [Sem.run_bind, hu, Result.andThen]
  have e : ∀ (x y : Int), (Op.equalIn 9999 73 (.int .u64 x) (.int .u64 y)).run Try.prog w = .ok (x == y) w := fun x y => run_equalIn_int w 9998 73 .u64 .u64 x y Try.underlying73
  have s40 : Sem.run Try.prog (sizeOf 73) w = .ok 1 w := by simp [go_sem, Try.sizeOf73]
  simp [s40, Result.andThen, Std.Legacy.Range.forIn_eq_forIn_range', List.range', go_sem, e, part]
  by_cases h1 : a = c
  · subst h1
    by_cases h2 : b = d
    · subst h2; simp [Result.andThen, go_sem, e]
    · have : (b == d) = false := by simpa using h2
      simp [Result.andThen, go_sem, e, h2]
  · simp [h1]

set_option maxRecDepth 100000 in
set_option maxHeartbeats 400000 in
theorem round_zero (neg : Bool) (e : Int) (up : Bool) (w : World) :
    Calls Try.prog 100 #[.agg #[.bool neg, .int .u64 0, .int .u64 0, .int .i64 e], .bool up] w fun r w' => r = .returned (.tuple #[.float .f64 0, .int .i64 0]) ∧ Below w.heap.size w w' := by
  have hq := run_eq_words
  go_enter Try.func100, Try.ntmps100
  go_wp2
  go_ret2
  exact ⟨rfl, bel1 _ _⟩

theorem words_ne (W : Nat) (h0 : W ≠ 0) : (((hiW W : Int) == 0) && ((loW W : Int) == 0)) = false := by
  rw [Bool.and_eq_false_iff, beq_eq_false_iff_ne, beq_eq_false_iff_ne]
  have := hi_lo W; omega

/-- The place of the last digit that is kept, above the least one; how many bits of the upper word are cut off; the digits that are kept, rounded away from 0 if asked. -/
def keptK (W : Nat) (x : Int) : Nat := (max (x - (lzW W : Int) + 64 + 64 - 53) (-1074) + 1074).toNat
def keptC (W : Nat) (x : Int) : Nat := (max (x - (lzW W : Int) + 64 + 64 - 53) (-1074) - (x - (lzW W : Int) + 64)).toNat
def keptM (W : Nat) (x : Int) : Nat := shrN (hiW (W * 2 ^ lzW W)) (keptC W x)
def keptAll (W : Nat) (x : Int) : Bool := decide (hiW (W * 2 ^ lzW W) = shlN (keptM W x) (keptC W x) ∧ loW (W * 2 ^ lzW W) = 0)
def rungOf (W : Nat) (x : Int) (away : Bool) : Nat := keptK W x * 4503599627370496 + if away && !keptAll W x then keptM W x + 1 else keptM W x
def roundW (neg : Bool) (W : Nat) (x : Int) (up : Bool) : Nat := if W = 0 then 0 else packW neg (rungOf W x (up != neg)) (up != neg)
def roundE (neg : Bool) (W : Nat) (x : Int) (up : Bool) : Int := if W = 0 then 0 else packE (rungOf W x (up != neg)) (up != neg)

theorem keptC_ge (W : Nat) (x : Int) : 11 ≤ keptC W x := by unfold keptC; omega

theorem keptM_le (W : Nat) (x : Int) (h : hiW (W * 2 ^ lzW W) < 18446744073709551616) : keptM W x ≤ 9007199254740991 := by
  unfold keptM shrN
  have hc := keptC_ge W x
  have h1 : 2 ^ 11 ≤ 2 ^ keptC W x := Nat.pow_le_pow_right (by decide) hc
  have h2 : hiW (W * 2 ^ lzW W) / 2 ^ keptC W x ≤ hiW (W * 2 ^ lzW W) / 2 ^ 11 := Nat.div_le_div_left h1 (by decide)
  have h3 : hiW (W * 2 ^ lzW W) / 2 ^ 11 ≤ 9007199254740991 := by omega
  omega

theorem ahead_lt (W : Nat) (h0 : W ≠ 0) (hW : W < 340282366920938463463374607431768211456) : W * 2 ^ lzW W < 340282366920938463463374607431768211456 ∧ 170141183460469231731687303715884105728 ≤ W * 2 ^ lzW W := by
  unfold lzW
  have hl : W.log2 < 128 := (Nat.log2_lt h0).2 hW
  have a1 : 2 ^ W.log2 ≤ W := Nat.log2_self_le h0
  have a2 : W < 2 ^ (W.log2 + 1) := Nat.lt_log2_self
  have e1 : 2 ^ W.log2 * 2 ^ (127 - W.log2) = 170141183460469231731687303715884105728 := by rw [← Nat.pow_add, show W.log2 + (127 - W.log2) = 127 by omega]
  have e2 : 2 ^ (W.log2 + 1) * 2 ^ (127 - W.log2) = 340282366920938463463374607431768211456 := by rw [← Nat.pow_add, show W.log2 + 1 + (127 - W.log2) = 128 by omega]
  have p : 0 < 2 ^ (127 - W.log2) := Nat.two_pow_pos _
  exact ⟨by rw [← e2]; exact Nat.mul_lt_mul_of_pos_right a2 p, by rw [← e1]; exact Nat.mul_le_mul_right _ a1⟩

set_option maxRecDepth 100000 in
set_option maxHeartbeats 1000000 in
theorem round_in (neg up : Bool) (h l L V M C K : Nat) (x : Int) (w : World) (hx0 : -5000 ≤ x) (hx1 : x ≤ 2500) (hl : (L : Int) ≤ 127)
    (hn : (((h : Int) == 0) && ((l : Int) == 0)) = false)
    (cA : Hid (∀ w, Calls Try.prog 107 #[.agg #[.int .u64 h, .int .u64 l]] w fun r w' => r = .returned (.tuple #[.agg #[.int .u64 (hiW V), .int .u64 (loW V)], .int .i64 L]) ∧ Below w.heap.size w w'))
    (hM : M ≤ 9007199254740991) (hK : K < 3999)
    (hk : max (x - (L : Int) + 64 + 64 - 53) (-1074) = (K : Int) - 1074) (hc : (K : Int) - 1074 - (x - (L : Int) + 64) = (C : Int))
    (hs1 : Op.shift .shr .u64 (hiW V : Int) .u64 (C : Int) = pure (.int .u64 M))
    (haw : (up != neg) = false) :
    Calls Try.prog 100 #[.agg #[.bool neg, .int .u64 h, .int .u64 l, .int .i64 x], .bool up] w fun r w' => r = .returned (.tuple #[.float .f64 (packW neg (K * 4503599627370496 + M) false), .int .i64 (packE (K * 4503599627370496 + M) false)]) ∧ Below w.heap.size w w' := by
  have hq := run_eq_words
  have hm0 : (M : Int) ≤ 9007199254740991 := by omega
  have cP := Lib.hid (fun w => pack_any neg M K false w (by omega) (by omega))
  cases neg <;> cases up <;> first | (cases haw; done) | skip
  all_goals
    go_enter Try.func100, Try.ntmps100
    go_wp2_with fail
    refine (cA.out _).mono ?_
    rintro e w1 ⟨rfl, hb⟩
    obtain ⟨hz, hcl, hfr, HB⟩ := after1 hb
    clear hb
    go_wp2_with fail
    refine (cP.out _).mono ?_
    rintro e w2 ⟨rfl, rfl⟩
    go_wp2
    go_ret2
    exact ⟨rfl, HB.alloc (Nat.le_of_lt hz) _⟩

set_option maxRecDepth 100000 in
set_option maxHeartbeats 1000000 in
theorem round_all (neg up : Bool) (h l L V M C K S : Nat) (x : Int) (w : World) (hx0 : -5000 ≤ x) (hx1 : x ≤ 2500) (hl : (L : Int) ≤ 127)
    (hn : (((h : Int) == 0) && ((l : Int) == 0)) = false)
    (cA : Hid (∀ w, Calls Try.prog 107 #[.agg #[.int .u64 h, .int .u64 l]] w fun r w' => r = .returned (.tuple #[.agg #[.int .u64 (hiW V), .int .u64 (loW V)], .int .i64 L]) ∧ Below w.heap.size w w'))
    (hM : M ≤ 9007199254740991) (hK : K < 3999)
    (hk : max (x - (L : Int) + 64 + 64 - 53) (-1074) = (K : Int) - 1074) (hc : (K : Int) - 1074 - (x - (L : Int) + 64) = (C : Int))
    (hs1 : Op.shift .shr .u64 (hiW V : Int) .u64 (C : Int) = pure (.int .u64 M)) (hs2 : Op.shift .shl .u64 (M : Int) .u64 (C : Int) = pure (.int .u64 S))
    (haw : (up != neg) = true) (hall : ((hiW V : Int) == (S : Int) && (loW V : Int) == 0) = true) :
    Calls Try.prog 100 #[.agg #[.bool neg, .int .u64 h, .int .u64 l, .int .i64 x], .bool up] w fun r w' => r = .returned (.tuple #[.float .f64 (packW neg (K * 4503599627370496 + M) true), .int .i64 (packE (K * 4503599627370496 + M) true)]) ∧ Below w.heap.size w w' := by
  have hq := run_eq_words
  have hm0 : (M : Int) ≤ 9007199254740991 := by omega
  have cP := Lib.hid (fun w => pack_any neg M K true w (by omega) (by omega))
  cases neg <;> cases up <;> first | (cases haw; done) | skip
  all_goals
    go_enter Try.func100, Try.ntmps100
    go_wp2_with fail
    refine (cA.out _).mono ?_
    rintro e w1 ⟨rfl, hb⟩
    obtain ⟨hz, hcl, hfr, HB⟩ := after1 hb
    clear hb
    go_wp2_with fail
    refine (cP.out _).mono ?_
    rintro e w2 ⟨rfl, rfl⟩
    go_wp2
    go_ret2
    exact ⟨rfl, HB.alloc (Nat.le_of_lt hz) _⟩

set_option maxRecDepth 100000 in
set_option maxHeartbeats 1000000 in
theorem round_away (neg up : Bool) (h l L V M C K S : Nat) (x : Int) (w : World) (hx0 : -5000 ≤ x) (hx1 : x ≤ 2500) (hl : (L : Int) ≤ 127)
    (hn : (((h : Int) == 0) && ((l : Int) == 0)) = false)
    (cA : Hid (∀ w, Calls Try.prog 107 #[.agg #[.int .u64 h, .int .u64 l]] w fun r w' => r = .returned (.tuple #[.agg #[.int .u64 (hiW V), .int .u64 (loW V)], .int .i64 L]) ∧ Below w.heap.size w w'))
    (hM : M ≤ 9007199254740991) (hK : K < 3999)
    (hk : max (x - (L : Int) + 64 + 64 - 53) (-1074) = (K : Int) - 1074) (hc : (K : Int) - 1074 - (x - (L : Int) + 64) = (C : Int))
    (hs1 : Op.shift .shr .u64 (hiW V : Int) .u64 (C : Int) = pure (.int .u64 M)) (hs2 : Op.shift .shl .u64 (M : Int) .u64 (C : Int) = pure (.int .u64 S))
    (haw : (up != neg) = true) (hall : ((hiW V : Int) == (S : Int) && (loW V : Int) == 0) = false) :
    Calls Try.prog 100 #[.agg #[.bool neg, .int .u64 h, .int .u64 l, .int .i64 x], .bool up] w fun r w' => r = .returned (.tuple #[.float .f64 (packW neg (K * 4503599627370496 + (M + 1)) true), .int .i64 (packE (K * 4503599627370496 + (M + 1)) true)]) ∧ Below w.heap.size w w' := by
  have hq := run_eq_words
  have hm0 : (M : Int) ≤ 9007199254740991 := by omega
  have cP := Lib.hid (fun w => pack_any neg (M + 1) K true w (by omega) (by omega))
  cases neg <;> cases up <;> first | (cases haw; done) | skip
  all_goals
    go_enter Try.func100, Try.ntmps100
    go_wp2_with fail
    refine (cA.out _).mono ?_
    rintro e w1 ⟨rfl, hb⟩
    obtain ⟨hz, hcl, hfr, HB⟩ := after1 hb
    clear hb
    go_wp2_with fail
    refine (cP.out _).mono ?_
    rintro e w2 ⟨rfl, rfl⟩
    go_wp2
    go_ret2
    exact ⟨rfl, HB.alloc (Nat.le_of_lt hz) _⟩

set_option maxRecDepth 100000 in
set_option maxHeartbeats 1000000 in
theorem round_some (neg : Bool) (W : Nat) (x : Int) (up : Bool) (w : World) (h0 : W ≠ 0) (hW : W < 340282366920938463463374607431768211456) (hx0 : -5000 ≤ x) (hx1 : x ≤ 2500) :
    Calls Try.prog 100 #[.agg #[.bool neg, .int .u64 (hiW W), .int .u64 (loW W), .int .i64 x], .bool up] w fun r w' => r = .returned (.tuple #[.float .f64 (roundW neg W x up), .int .i64 (roundE neg W x up)]) ∧ Below w.heap.size w w' := by
  have hr1 : roundW neg W x up = packW neg (rungOf W x (up != neg)) (up != neg) := by unfold roundW; rw [if_neg h0]
  have hr2 : roundE neg W x up = packE (rungOf W x (up != neg)) (up != neg) := by unfold roundE; rw [if_neg h0]
  have Hr1 := Lib.hid hr1; have Hr2 := Lib.hid hr2; clear hr1 hr2
  have hq := run_eq_words
  have hn := words_ne W h0
  have hl : (lzW W : Int) ≤ 127 := by unfold lzW; omega
  have cA := Lib.hid (fun w => ahead_any W w h0 hW)
  have hV := (ahead_lt W h0 hW).1
  have hH := hi_lt _ hV
  have hM := keptM_le W x hH
  have hK : keptK W x < 3999 := by unfold keptK; omega
  have hk : max (x - (lzW W : Int) + 64 + 64 - 53) (-1074) = (keptK W x : Int) - 1074 := by unfold keptK; omega
  have hc : (keptK W x : Int) - 1074 - (x - (lzW W : Int) + 64) = (keptC W x : Int) := by unfold keptK keptC; omega
  have hs1 : Op.shift .shr .u64 (hiW (W * 2 ^ lzW W) : Int) .u64 (keptC W x : Int) = pure (.int .u64 (keptM W x)) := shift_shr_any _ _ hH
  have hs2 : Op.shift .shl .u64 (keptM W x : Int) .u64 (keptC W x : Int) = pure (.int .u64 (shlN (keptM W x) (keptC W x))) := shift_shl_any _ _
  have hall : ((hiW (W * 2 ^ lzW W) : Int) == (shlN (keptM W x) (keptC W x) : Int) && (loW (W * 2 ^ lzW W) : Int) == 0) = keptAll W x := by
    unfold keptAll
    rw [Bool.eq_iff_iff, Bool.and_eq_true, beq_iff_eq, beq_iff_eq, decide_eq_true_eq]
    omega
  cases haw : (up != neg)
  · have e : rungOf W x false = keptK W x * 4503599627370496 + keptM W x := rfl
    rw [Hr1.out, Hr2.out, haw, e]
    exact round_in neg up _ _ _ _ _ _ _ _ _ hx0 hx1 hl hn cA hM hK hk hc hs1 haw
  · cases hA : keptAll W x
    · have e : rungOf W x true = keptK W x * 4503599627370496 + (keptM W x + 1) := by unfold rungOf; rw [hA]; rfl
      rw [Hr1.out, Hr2.out, haw, e]
      exact round_away neg up _ _ _ _ _ _ _ _ _ _ hx0 hx1 hl hn cA hM hK hk hc hs1 hs2 haw (hall.trans hA)
    · have e : rungOf W x true = keptK W x * 4503599627370496 + keptM W x := by unfold rungOf; rw [hA]; rfl
      rw [Hr1.out, Hr2.out, haw, e]
      exact round_all neg up _ _ _ _ _ _ _ _ _ _ hx0 hx1 hl hn cA hM hK hk hc hs1 hs2 haw (hall.trans hA)

theorem round_any (neg : Bool) (W : Nat) (x : Int) (up : Bool) (w : World) (hW : W < 340282366920938463463374607431768211456) (hx0 : -5000 ≤ x) (hx1 : x ≤ 2500) :
    Calls Try.prog 100 #[.agg #[.bool neg, .int .u64 (hiW W), .int .u64 (loW W), .int .i64 x], .bool up] w fun r w' => r = .returned (.tuple #[.float .f64 (roundW neg W x up), .int .i64 (roundE neg W x up)]) ∧ Below w.heap.size w w' := by
  by_cases h0 : W = 0
  · subst h0; exact round_zero neg x up w
  · exact round_some neg W x up w h0 hW hx0 hx1

end Go.Proofs.Ytdppppaoflhgdaa
