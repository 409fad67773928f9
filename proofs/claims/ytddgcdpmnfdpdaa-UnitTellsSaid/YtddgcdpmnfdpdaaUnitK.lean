
/- The document's answer for layer 3: what is left, bit by bit; its halves. -/
import Derived.Test.YtddgcdpmnfdpdaaUnitB
import Derived.LoopTactic
namespace Go.Proofs.Ytddgcdpmnfdpdaa
open Go.RowKit

/-- One more bit of a quotient. -/
theorem bit_step (x b : Nat) (hb : 0 < b) : (b ≤ 2 * (x % b) → x * 2 / b = 2 * (x / b) + 1 ∧ x * 2 % b = 2 * (x % b) - b) ∧ (2 * (x % b) < b → x * 2 / b = 2 * (x / b) ∧ x * 2 % b = 2 * (x % b)) := by
  have hr := Nat.mod_lt x hb
  have hd := Nat.div_add_mod x b
  obtain ⟨q, hq⟩ : ∃ q, q = x / b := ⟨_, rfl⟩
  obtain ⟨r, hr'⟩ : ∃ r, r = x % b := ⟨_, rfl⟩
  rw [← hq, ← hr'] at hd
  rw [← hr'] at hr
  rw [← hq, ← hr']
  constructor
  · intro h
    have e : x * 2 = (2 * r - b) + b * (2 * q + 1) := by rw [Nat.mul_add, Nat.mul_one, Nat.mul_left_comm]; omega
    rw [e, Nat.add_mul_div_left _ _ hb, Nat.add_mul_mod_self_left, Nat.div_eq_of_lt (by omega), Nat.mod_eq_of_lt (by omega)]
    omega
  · intro h
    have e : x * 2 = 2 * r + b * (2 * q) := by rw [Nat.mul_left_comm]; omega
    rw [e, Nat.add_mul_div_left _ _ hb, Nat.add_mul_mod_self_left, Nat.div_eq_of_lt (by omega), Nat.mod_eq_of_lt (by omega)]
    omega

theorem bits_q (u b i : Nat) (hu : u < b) : u * 2 ^ i / b < 2 ^ i := (Nat.div_lt_iff_lt_mul (by omega)).2 (by rw [Nat.mul_comm]; exact Nat.mul_lt_mul_of_pos_left hu (Nat.two_pow_pos _))

/-- What a round of the loop makes. -/
def Bits (u b i : Nat) (q v : Nat) : Prop := q = u * 2 ^ i / b ∧ v = u * 2 ^ i % b
theorem Bits.start (u b : Nat) (hu : u < b) : Bits u b 0 0 u := ⟨by rw [Nat.pow_zero, Nat.mul_one, Nat.div_eq_of_lt hu], by rw [Nat.pow_zero, Nat.mul_one, Nat.mod_eq_of_lt hu]⟩
theorem Bits.high {u b i q v : Nat} (h : Bits u b i q v) (hb : 0 < b) (hv : b - v ≤ v) (hl : v < b) : Bits u b (i + 1) (2 * q + 1) (v - (b - v)) := by
  obtain ⟨h1, h2⟩ := h
  have s := (bit_step (u * 2 ^ i) b hb).1 (by rw [← h2]; omega)
  rw [← h1, ← h2] at s
  rw [Nat.mul_assoc, ← Nat.pow_succ] at s
  exact ⟨s.1.symm, by rw [s.2]; omega⟩
theorem Bits.low {u b i q v : Nat} (h : Bits u b i q v) (hb : 0 < b) (hv : v < b - v) : Bits u b (i + 1) (2 * q) (2 * v) := by
  obtain ⟨h1, h2⟩ := h
  have s := (bit_step (u * 2 ^ i) b hb).2 (by rw [← h2]; omega)
  rw [← h1, ← h2] at s
  rw [Nat.mul_assoc, ← Nat.pow_succ] at s
  exact ⟨s.1.symm, s.2.symm⟩
theorem Bits.lt {u b i q v : Nat} (h : Bits u b i q v) (hu : u < b) : q < 2 ^ i ∧ v < b := ⟨by rw [h.1]; exact bits_q u b i hu, by rw [h.2]; exact Nat.mod_lt _ (by omega)⟩

/-- The relation of the loop. -/
def PartRel (u b : Nat) (v0 q0 i0 : Value) : Prop := ∃ i q v : Nat, i ≤ 64 ∧ v0 = .int .u64 (v : Int) ∧ q0 = .int .u64 (q : Int) ∧ i0 = .int .i64 (i : Int) ∧ Bits u b i q v

theorem pow_le_64 (i : Nat) (h : i < 64) : 2 ^ (i + 1) ≤ 18446744073709551616 := by
  have : 2 ^ (i + 1) ≤ 2 ^ 64 := Nat.pow_le_pow_right (by decide) (by omega)
  exact this

set_option maxRecDepth 100000 in
set_option maxHeartbeats 1000000 in
theorem part_any (u b : Nat) (w : World) (hu : u < b) (hb : b < 18446744073709551616) :
    Calls Try.prog 97 #[.int .u64 u, .int .u64 b] w fun e w' => e = .returned (.int .u64 ((u * 18446744073709551616 / b : Nat) : Int)) ∧ w = w' := by
  go_enter Try.func97, Try.ntmps97
  go_wp2
  go_loop [0, 5, 6] (fun v q i => PartRel u b v q i) (fun _ _ i => 64 - (intOf i).toNat)
  case atStart => exact ⟨0, 0, u, by omega, rfl, rfl, rfl, Bits.start u b hu⟩
  case round =>
    obtain ⟨i, q, v, hi, rfl, rfl, rfl, hB⟩ := hrel
    obtain ⟨hq, hv⟩ := hB.lt hu
    have HB := Lib.hid hB
    clear hB
    by_cases hlt : i < 64
    · have hp := pow_le_64 i hlt
      have hpow : 2 ^ (i + 1) = 2 ^ i * 2 := Nat.pow_succ ..
      have hq2 : 2 * q + 1 < 18446744073709551616 := by omega
      clear hpow hp
      have e1 : IntKind.u64.wrap ((q : Int) * 2) = ((2 * q : Nat) : Int) := by rw [IntKind.wrap_u64]; omega
      obtain ⟨d, hd⟩ : ∃ d, d = b - v := ⟨_, rfl⟩
      have e2 : IntKind.u64.wrap ((b : Int) - v) = (d : Int) := by rw [IntKind.wrap_u64]; omega
      by_cases hge : d ≤ v
      · obtain ⟨n, hn⟩ : ∃ n, n = v - d := ⟨_, rfl⟩
        have HN := Lib.hid (HB.out.high (by omega) (by omega) hv)
        rw [← hd, ← hn] at HN
        have g1 : decide (d ≤ v) = true := decide_eq_true hge
        have e3 : IntKind.u64.wrap ((v : Int) - d) = (n : Int) := by rw [IntKind.wrap_u64]; omega
        have e4 : IntKind.u64.wrap (2 * (q : Int) + 1) = 2 * (q : Int) + 1 := by rw [IntKind.wrap_u64]; omega
        clear hq2 hge hn hd hq
        go_wp2
        go_round
        case rel => exact ⟨i + 1, 2 * q + 1, n, by omega, rfl, congrArg (Value.int .u64) (by omega), congrArg (Value.int .i64) (by omega), HN.out⟩
        case measure => simp [intOf]; omega
      · have HN := Lib.hid (HB.out.low (by omega) (by omega))
        have g1 : decide (d ≤ v) = false := decide_eq_false hge
        have e3 : IntKind.u64.wrap ((v : Int) * 2) = ((2 * v : Nat) : Int) := by rw [IntKind.wrap_u64]; omega
        clear hq2 hge hd hq
        go_wp2
        go_round
        case rel => exact ⟨i + 1, 2 * q, 2 * v, by omega, congrArg (Value.int .u64) (by omega), congrArg (Value.int .u64) (by omega), congrArg (Value.int .i64) (by omega), HN.out⟩
        case measure => simp [intOf]; omega
    · have : i = 64 := by omega
      subst this
      go_wp2
      go_ret
      exact ⟨by rw [HB.out.1]; rfl, rfl⟩

end Go.Proofs.Ytddgcdpmnfdpdaa
