
/- What the functions ahead, times, pack and round of package dir answer. -/
import Derived.Test.YtdppppaoflhgdaaDirA
import Derived.Test.YtdppppaoflhgdaaShelf
namespace Go.Proofs.Ytdppppaoflhgdaa
open Go.RowKit

/-- How many zeros a word begins with. -/
def lz64 (x : Nat) : Nat := if x = 0 then 64 else 63 - x.log2

theorem bitLen_log2 (x : Nat) (h0 : x ≠ 0) (h : x < 2 ^ 64) : Lib.bitLen x = x.log2 + 1 := by
  obtain ⟨h1, h2, h3⟩ := Lib.bitLenAux_bounds 64 x h h0
  have e1 : x.log2 < Lib.bitLenAux 64 x := (Nat.log2_lt h0).2 h3
  have e2 : Lib.bitLenAux 64 x - 1 ≤ x.log2 := (Nat.le_log2 h0).2 h2
  show Lib.bitLenAux 64 x = _
  omega

theorem lz_eq (x : Nat) (h : x < 18446744073709551616) : (64 - (Lib.bitLen (x : Int).toNat : Int)) = (lz64 x : Int) := by
  rw [Int.toNat_natCast]
  unfold lz64
  by_cases h0 : x = 0
  · rw [if_pos h0, h0]; decide
  · rw [if_neg h0, bitLen_log2 x h0 h]
    have : x.log2 < 64 := (Nat.log2_lt h0).2 h
    omega

theorem lz_any (x : Nat) (w : World) (h : x < 18446744073709551616) :
    Calls Try.prog 113 #[.int .u64 x] w fun e w' => e = .returned (.int .i64 (lz64 x)) ∧ w = w' :=
  (Try.bits_LeadingZeros64 x w (by omega) (by omega)).mono fun _ _ ⟨he, hw⟩ => ⟨by rw [he, lz_eq x h], hw.symm⟩

theorem lz_le (x : Nat) (h0 : x ≠ 0) : lz64 x ≤ 63 := by unfold lz64; rw [if_neg h0]; omega

theorem lz_shift (x : Nat) (h0 : x ≠ 0) (h : x < 18446744073709551616) : 9223372036854775808 ≤ x * 2 ^ lz64 x ∧ x * 2 ^ lz64 x < 18446744073709551616 := by
  unfold lz64; rw [if_neg h0]
  have hl : x.log2 < 64 := (Nat.log2_lt h0).2 h
  have a1 : 2 ^ x.log2 ≤ x := Nat.log2_self_le h0
  have a2 : x < 2 ^ (x.log2 + 1) := Nat.lt_log2_self
  have e1 : 2 ^ x.log2 * 2 ^ (63 - x.log2) = 9223372036854775808 := by rw [← Nat.pow_add, show x.log2 + (63 - x.log2) = 63 by omega]
  have e2 : 2 ^ (x.log2 + 1) * 2 ^ (63 - x.log2) = 18446744073709551616 := by rw [← Nat.pow_add, show x.log2 + 1 + (63 - x.log2) = 64 by omega]
  have p : 0 < 2 ^ (63 - x.log2) := Nat.two_pow_pos _
  exact ⟨by rw [← e1]; exact Nat.mul_le_mul_right _ a1, by rw [← e2]; exact Nat.mul_lt_mul_of_pos_right a2 p⟩

set_option maxHeartbeats 400000 in
theorem times_any (x y : Nat) (w : World) (hx : x < 18446744073709551616) (hy : y < 18446744073709551616) :
    Calls Try.prog 106 #[.int .u64 x, .int .u64 y] w fun r w' => r = .returned (.agg #[.int .u64 (hiW (x * y)), .int .u64 (loW (x * y))]) ∧ Below w.heap.size w w' := by
  have cM : ∀ w, Calls Try.prog 116 #[.int .u64 x, .int .u64 y] w fun e w' => e = .returned (.tuple #[.int .u64 (hiW (x * y)), .int .u64 (loW (x * y))]) ∧ w = w' :=
    fun w => (Try.bits_Mul64 x y hx hy w).mono fun _ _ ⟨he, hw⟩ => ⟨he, hw.symm⟩
  have CM := Lib.hid cM; clear cM
  go_enter Try.func106, Try.ntmps106
  go_wp2_with (refine (CM.out _).mono ?_; rintro e w' ⟨rfl, rfl⟩)
  exact bodyPost_ret (v := .agg #[.int .u64 (hiW (x * y)), .int .u64 (loW (x * y))]) (by simp [results, Try.results106, go_sem]) rfl ⟨rfl, bel1 _ _⟩

/-- By how much an integer of 128 bits is moved ahead, so that its first bit is 1. -/
def lzW (W : Nat) : Nat := 127 - W.log2

theorem lzW_low (W : Nat) (h0 : W ≠ 0) (h : hiW W = 0) : lzW W = 64 + lz64 (loW W) ∧ loW W = W := by
  have e : loW W = W := by have := hi_lo W; omega
  have hl : W < 2 ^ 64 := by have := lo_lt W; omega
  have : W.log2 < 64 := (Nat.log2_lt h0).2 hl
  unfold lzW lz64; rw [e, if_neg h0]
  exact ⟨by omega, rfl⟩

theorem log2_hi (W : Nat) (h : hiW W ≠ 0) : W.log2 = 64 + (hiW W).log2 := by
  have h0 : W ≠ 0 := fun e => h (by rw [e]; rfl)
  have a1 : 2 ^ (hiW W).log2 ≤ hiW W := Nat.log2_self_le h
  have a2 : hiW W < 2 ^ ((hiW W).log2 + 1) := Nat.lt_log2_self
  have e := hi_lo W
  have hl := lo_lt W
  have b1 : 64 + (hiW W).log2 ≤ W.log2 := (Nat.le_log2 h0).2 (by rw [Nat.pow_add]; omega)
  have b2 : W.log2 < 64 + (hiW W).log2 + 1 := (Nat.log2_lt h0).2 (by rw [Nat.add_assoc, Nat.pow_add]; omega)
  omega

theorem lzW_high (W : Nat) (h : hiW W ≠ 0) : lzW W = lz64 (hiW W) := by
  have := log2_hi W h
  unfold lzW lz64; rw [if_neg h]; omega

theorem ahead_low (W : Nat) (h0 : W ≠ 0) (h : hiW W = 0) : IntKind.u64.wrap ((loW W : Int) * 2 ^ (lz64 (loW W) : Int).toNat) = (hiW (W * 2 ^ lzW W) : Int) ∧ (0 : Int) = (loW (W * 2 ^ lzW W) : Int) := by
  obtain ⟨e1, e2⟩ := lzW_low W h0 h
  have hs := lz_shift (loW W) (by omega) (lo_lt W)
  rw [e1, Nat.pow_add, Int.toNat_natCast, IntKind.wrap_u64]
  rw [e2] at hs ⊢
  generalize hp : 2 ^ lz64 W = p at *
  have ep : ((2 : Int) ^ lz64 W) = (p : Int) := by rw [← hp]; simp
  rw [ep]
  have e3 : W * (2 ^ 64 * p) = W * p * 18446744073709551616 + 0 := by
    rw [Nat.mul_comm (2 ^ 64), ← Nat.mul_assoc, Nat.add_zero]
  rw [e3, hi_mk _ 0 (by decide), lo_mk _ 0 (by decide), ← Int.natCast_mul]
  omega

theorem or_add (h l k : Nat) (hl : l < 2 ^ k) : h * 2 ^ k ||| l = h * 2 ^ k + l := by
  rw [Nat.mul_comm, ← Nat.two_pow_add_eq_or_of_lt hl]

theorem ahead_high (W : Nat) (hW : W < 340282366920938463463374607431768211456) (h : hiW W ≠ 0) :
    bits .or .u64 (IntKind.u64.wrap ((hiW W : Int) * 2 ^ (lz64 (hiW W) : Int).toNat)) ((loW W : Int) / 2 ^ ((64 : Int) - (lz64 (hiW W) : Int)).toNat) = (hiW (W * 2 ^ lzW W) : Int) ∧ IntKind.u64.wrap ((loW W : Int) * 2 ^ (lz64 (hiW W) : Int).toNat) = (loW (W * 2 ^ lzW W) : Int) := by
  have hs := lz_shift (hiW W) h (hi_lt W hW)
  have hk := lz_le (hiW W) h
  have hl := lo_lt W
  rw [lzW_high W h]
  generalize hk' : lz64 (hiW W) = k at *
  have e1 : ((64 : Int) - (k : Int)).toNat = 64 - k := by omega
  rw [e1, Int.toNat_natCast, IntKind.wrap_u64, IntKind.wrap_u64]
  have hp := pow_split k (by omega)
  have ep : ((2 : Int) ^ k) = ((2 ^ k : Nat) : Int) := by simp
  have eq : ((2 : Int) ^ (64 - k)) = ((2 ^ (64 - k) : Nat) : Int) := by simp
  have c1 : ((hiW W : Int) * ((2 ^ k : Nat) : Int)) % 18446744073709551616 = ((hiW W * 2 ^ k : Nat) : Int) := by rw [← Int.natCast_mul]; omega
  have p1 : 0 < 2 ^ k := Nat.two_pow_pos k
  have p2 : 0 < 2 ^ (64 - k) := Nat.two_pow_pos _
  have hd : loW W / 2 ^ (64 - k) < 2 ^ k := by
    rw [Nat.div_lt_iff_lt_mul p2, hp]; exact hl
  have e2 : loW W / 2 ^ (64 - k) = loW W * 2 ^ k / 18446744073709551616 := by
    rw [← hp, Nat.mul_comm (2 ^ k) (2 ^ (64 - k)), Nat.mul_div_mul_right _ _ p1]
  rw [ep, eq, c1, ← Int.natCast_ediv, bits_or_u64_nat _ _ hs.2 (Nat.lt_of_le_of_lt (Nat.div_le_self _ _) hl), or_add _ _ _ hd]
  have e3 : W * 2 ^ k = hiW W * 2 ^ k * 18446744073709551616 + loW W * 2 ^ k := by
    have := hi_lo W
    calc W * 2 ^ k = (hiW W * 18446744073709551616 + loW W) * 2 ^ k := by rw [this]
      _ = _ := by rw [Nat.add_mul, Nat.mul_right_comm]
  rw [e3, e2, ← Int.natCast_mul]
  generalize hiW W * 2 ^ k = A
  generalize loW W * 2 ^ k = B
  unfold hiW loW
  omega

set_option maxHeartbeats 400000 in
theorem ahead_any (W : Nat) (w : World) (h0 : W ≠ 0) (hW : W < 340282366920938463463374607431768211456) :
    Calls Try.prog 107 #[.agg #[.int .u64 (hiW W), .int .u64 (loW W)]] w fun r w' => r = .returned (.tuple #[.agg #[.int .u64 (hiW (W * 2 ^ lzW W)), .int .u64 (loW (W * 2 ^ lzW W))], .int .i64 (lzW W)]) ∧ Below w.heap.size w w' := by
  by_cases hh : hiW W = 0
  · have hb : ((hiW W : Int) == 0) = true := by rw [beq_iff_eq]; omega
    have hl0 : loW W ≠ 0 := by have := hi_lo W; omega
    have cL := Lib.hid (fun w => lz_any (loW W) w (lo_lt W))
    have Hv := Lib.hid (ahead_low W h0 hh)
    have Hk := Lib.hid (lzW_low W h0 hh).1
    have k1 : (lz64 (loW W) : Int) ≤ 63 := by have := lz_le (loW W) hl0; omega
    have k2 : (lz64 (loW W) : Int) ≤ 64 := by omega
    have HH := Lib.hid hh
    clear hh hl0 hW
    go_enter Try.func107, Try.ntmps107
    go_wp2_with (refine (cL.out _).mono ?_; rintro e w' ⟨rfl, rfl⟩)
    refine bodyPost_ret (v := .tuple #[.agg #[.int .u64 (IntKind.u64.wrap ((loW W : Int) * 2 ^ (lz64 (loW W) : Int).toNat)), .int .u64 0], .int .i64 (64 + (lz64 (loW W) : Int))]) (by simp [results, Try.results107, go_sem]) rfl ⟨?_, bel2 _ _ _⟩
    rw [agg_two Hv.out, show (64 + (lz64 (loW W) : Int)) = (lzW W : Int) by rw [Hk.out]; omega]
  · have hb : ((hiW W : Int) == 0) = false := by rw [beq_eq_false_iff_ne]; omega
    have cL := Lib.hid (fun w => lz_any (hiW W) w (hi_lt W hW))
    have Hv := Lib.hid (ahead_high W hW hh)
    have Hk := Lib.hid (lzW_high W hh)
    have k1 : (lz64 (hiW W) : Int) ≤ 63 := by have := lz_le (hiW W) hh; omega
    have k2 : (lz64 (hiW W) : Int) ≤ 64 := by omega
    have k3 : 0 ≤ 64 - (lz64 (hiW W) : Int) := by omega
    have k4 : 64 - (lz64 (hiW W) : Int) ≤ 64 := by omega
    clear hW
    go_enter Try.func107, Try.ntmps107
    go_wp2_with (refine (cL.out _).mono ?_; rintro e w' ⟨rfl, rfl⟩)
    go_region
    all_goals go_wp2
    all_goals refine bodyPost_ret (v := .tuple #[.agg #[.int .u64 (bits .or .u64 (IntKind.u64.wrap ((hiW W : Int) * 2 ^ (lz64 (hiW W) : Int).toNat)) ((loW W : Int) / 2 ^ ((64 : Int) - (lz64 (hiW W) : Int)).toNat)), .int .u64 (IntKind.u64.wrap ((loW W : Int) * 2 ^ (lz64 (hiW W) : Int).toNat))], .int .i64 (lz64 (hiW W))]) (by simp [results, Try.results107, go_sem]) rfl ⟨?_, (bel2 _ _ _).drew⟩
    all_goals rw [agg_two Hv.out, Hk.out]

/-- What is answered for a number with the rung b: too great, or the word with its sign. -/
def packW (neg : Bool) (b : Nat) (away : Bool) : Nat :=
  if 9218868437227405312 ≤ b then (if away then 0 else if neg then 18442240474082181119 else 9218868437227405311)
  else if neg && b != 0 then 9223372036854775808 + b else b
def packE (b : Nat) (away : Bool) : Int := if 9218868437227405312 ≤ b ∧ away = true then 10 else 0

theorem ret_pair {a b : Nat} {x y : Int} (h : a = b ∧ x = y) : (Ending.returned (.tuple #[.float .f64 a, .int .i64 x])) = .returned (.tuple #[.float .f64 b, .int .i64 y]) := by rw [h.1, h.2]

theorem packE_ok (b : Nat) (away : Bool) (h : ¬ (9218868437227405312 ≤ b ∧ away = true)) : (0 : Int) = packE b away := by unfold packE; rw [if_neg h]
theorem pack_over (neg : Bool) (b : Nat) (h : 9218868437227405312 ≤ b) : 0 = packW neg b true ∧ (10 : Int) = packE b true :=
  ⟨by unfold packW; rw [if_pos h]; rfl, by unfold packE; rw [if_pos ⟨h, rfl⟩]⟩
theorem pack_max (b : Nat) (h : 9218868437227405312 ≤ b) : (9218868437227405311 : Int).toNat = packW false b false ∧ (0 : Int) = packE b false :=
  ⟨by unfold packW; rw [if_pos h]; rfl, packE_ok _ _ (by simp)⟩
theorem pack_min (b : Nat) (h : 9218868437227405312 ≤ b) : (bits .or .u64 9218868437227405311 9223372036854775808).toNat = packW true b false ∧ (0 : Int) = packE b false := by
  have e := or_sign 9218868437227405311 (by decide)
  have e' : bits .or .u64 9218868437227405311 9223372036854775808 = (18442240474082181119 : Int) := e
  exact ⟨by unfold packW; rw [if_pos h, e']; rfl, packE_ok _ _ (by simp)⟩
theorem pack_pos (k m : Nat) (away : Bool) (h : ¬ 9218868437227405312 ≤ k * 4503599627370496 + m) : ((k : Int) * 4503599627370496 + m).toNat = packW false (k * 4503599627370496 + m) away ∧ (0 : Int) = packE (k * 4503599627370496 + m) away :=
  ⟨by unfold packW; rw [if_neg h]; simp; omega, packE_ok _ _ (fun g => h g.1)⟩
theorem pack_zero (k m : Nat) (away : Bool) (h : k * 4503599627370496 + m = 0) : ((k : Int) * 4503599627370496 + m).toNat = packW true (k * 4503599627370496 + m) away ∧ (0 : Int) = packE (k * 4503599627370496 + m) away := by
  have e : ((k : Int) * 4503599627370496 + m).toNat = 0 := by omega
  rw [h, e]; cases away <;> exact ⟨rfl, rfl⟩
theorem pack_neg (k m : Nat) (away : Bool) (h : ¬ 9218868437227405312 ≤ k * 4503599627370496 + m) (h0 : k * 4503599627370496 + m ≠ 0) : (bits .or .u64 ((k : Int) * 4503599627370496 + m) 9223372036854775808).toNat = packW true (k * 4503599627370496 + m) away ∧ (0 : Int) = packE (k * 4503599627370496 + m) away := by
  have e : ((k : Int) * 4503599627370496 + m) = ((k * 4503599627370496 + m : Nat) : Int) := by omega
  rw [e, or_sign _ (by omega)]
  have hb : (k * 4503599627370496 + m != 0) = true := by rw [bne_iff_ne]; exact h0
  exact ⟨by unfold packW; rw [if_neg h, hb]; rfl, packE_ok _ _ (fun g => h g.1)⟩

set_option maxRecDepth 100000 in
set_option maxHeartbeats 400000 in
theorem pack_any (neg : Bool) (m k : Nat) (away : Bool) (w : World) (hm : m ≤ 9007199254740992) (hk : k < 4000) :
    Calls Try.prog 108 #[.bool neg, .int .u64 m, .int .i64 ((k : Int) - 1074), .bool away] w fun r w' => r = .returned (.tuple #[.float .f64 (packW neg (k * 4503599627370496 + m) away), .int .i64 (packE (k * 4503599627370496 + m) away)]) ∧ w = w' := by
  have hf := run_frombits
  by_cases c1 : 9218868437227405312 ≤ k * 4503599627370496 + m
  · have c1' : decide (9218868437227405312 ≤ (k : Int) * 4503599627370496 + m) = true := by simp; omega
    cases away
    · cases neg
      · have Hv := Lib.hid (pack_max _ c1); clear c1
        go_enter Try.func108, Try.ntmps108
        go_wp2
        go_ret2
        exact ⟨ret_pair Hv.out, rfl⟩
      · have Hv := Lib.hid (pack_min _ c1); clear c1
        go_enter Try.func108, Try.ntmps108
        go_wp2
        go_ret2
        exact ⟨ret_pair Hv.out, rfl⟩
    · have Hv := Lib.hid (pack_over neg _ c1); clear c1
      go_enter Try.func108, Try.ntmps108
      go_wp2
      go_ret2
      exact ⟨ret_pair Hv.out, rfl⟩
  · have c1' : decide (9218868437227405312 ≤ (k : Int) * 4503599627370496 + m) = false := by simp; omega
    cases neg
    · have Hv := Lib.hid (pack_pos k m away c1); clear c1
      go_enter Try.func108, Try.ntmps108
      go_wp2
      go_ret2
      exact ⟨ret_pair Hv.out, rfl⟩
    · by_cases c2 : k * 4503599627370496 + m = 0
      · have c2' : ((k : Int) * 4503599627370496 + m != 0) = false := by rw [bne_eq_false_iff_eq]; omega
        have Hv := Lib.hid (pack_zero k m away c2); clear c1 c2
        go_enter Try.func108, Try.ntmps108
        go_wp2
        go_ret2
        exact ⟨ret_pair Hv.out, rfl⟩
      · have c2' : ((k : Int) * 4503599627370496 + m != 0) = true := by rw [bne_iff_ne]; omega
        have Hv := Lib.hid (pack_neg k m away c1 c2); clear c1 c2
        go_enter Try.func108, Try.ntmps108
        go_wp2
        go_ret2
        exact ⟨ret_pair Hv.out, rfl⟩

end Go.Proofs.Ytdppppaoflhgdaa
