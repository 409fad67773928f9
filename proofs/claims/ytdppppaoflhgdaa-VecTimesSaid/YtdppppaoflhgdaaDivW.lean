
/- What Div64 of math/bits answers. -/
import Derived.Test.YtdppppaoflhgdaaDirC
import Derived.Test.YtdppppaoflhgdaaDivM
import Derived.Deep.CutBlock
namespace Go.Proofs.Ytdppppaoflhgdaa
open Go.RowKit

/-- Behind the first loop, and behind the second one: the digit. -/
def AtDigit (n : Nat) (w : World) (a b : Value) (w' : World) : Prop := a = .int .u64 n ∧ (∃ r : Nat, b = .int .u64 r) ∧ w = w'

theorem mulw (q y : Nat) (hq : q < 4294967296) (hy : y < 4294967296) : IntKind.u64.wrap ((q : Int) * (y : Int)) = ((q * y : Nat) : Int) := by
  have : q * y ≤ 4294967295 * 4294967295 := Nat.mul_le_mul (by omega) (by omega)
  rw [IntKind.wrap_u64, ← Int.natCast_mul]
  generalize q * y = z at *
  omega

theorem digit_sub {q n : Nat} {r y : Nat} {w : World} (h : q - 1 = n) (h1 : 1 ≤ q) : AtDigit n w (.int .u64 ((q : Int) - 1)) (.int .u64 ((r : Int) + (y : Int))) w :=
  ⟨by rw [← h]; congr 1; omega, ⟨r + y, by rw [Int.natCast_add]⟩, rfl⟩
theorem digit_end {q n r : Nat} {w : World} (h : q = n) : AtDigit n w (.int .u64 (q : Int)) (.int .u64 (r : Int)) w := ⟨by rw [h], ⟨r, rfl⟩, rfl⟩
theorem guess_on {Y1 Y0 u d q r : Nat} (h : Guess Y1 Y0 u d (q - 1) (r + Y1)) (h1 : 1 ≤ q) : ∃ q' r' : Nat, Value.int .u64 ((q : Int) - 1) = .int .u64 q' ∧ Value.int .u64 ((r : Int) + (Y1 : Int)) = .int .u64 r' ∧ Guess Y1 Y0 u d q' r' :=
  ⟨q - 1, r + Y1, by congr 1; omega, by rw [Int.natCast_add], h⟩

set_option maxRecDepth 100000 in
set_option maxHeartbeats 2000000 in
theorem div64_walk (hi lo y s N Y1 Y0 H L U32 U10 U1 U0 Q P R D1 U21 Q2 P2 R2 D0 QQ RR : Nat) (w : World)
    (hy0 : ((y : Int) == 0) = false) (hle : decide (y ≤ hi) = false) (hh : ((hi : Int) == 0) = false)
    (cL : Hid (∀ w, Calls Try.prog 113 #[.int .u64 y] w fun e w' => e = .returned (.int .i64 s) ∧ w = w')) (hs : (s : Int) ≤ 63)
    (e1 : IntKind.u64.wrap ((y : Int) * 2 ^ s) = N)
    (e2 : (N : Int) / 4294967296 = Y1) (e3 : bits .and .u64 (N : Int) 4294967295 = Y0)
    (e4 : IntKind.u64.wrap ((hi : Int) * 2 ^ s) = H)
    (e5 : (lo : Int) / 2 ^ (64 - s) = L)
    (e6 : bits .or .u64 (H : Int) (L : Int) = U32)
    (e7 : IntKind.u64.wrap ((lo : Int) * 2 ^ s) = U10)
    (e8 : (U10 : Int) / 4294967296 = U1) (e9 : bits .and .u64 (U10 : Int) 4294967295 = U0)
    (hY : ¬ Y1 = 0) (e10 : IntKind.u64.wrap ((U32 : Int) / Y1) = Q) (e11 : IntKind.u64.wrap ((Q : Int) * Y1) = P) (e12 : IntKind.u64.wrap ((U32 : Int) - P) = R)
    (HG : Hid (Guess Y1 Y0 U32 U1 Q R)) (HD1 : Hid ((U32 * 4294967296 + U1) / (Y1 * 4294967296 + Y0) = D1))
    (e13 : IntKind.u64.wrap (IntKind.u64.wrap (IntKind.u64.wrap ((U32 : Int) * 4294967296) + U1) - IntKind.u64.wrap ((D1 : Int) * N)) = U21)
    (e14 : IntKind.u64.wrap ((U21 : Int) / Y1) = Q2) (e15 : IntKind.u64.wrap ((Q2 : Int) * Y1) = P2) (e16 : IntKind.u64.wrap ((U21 : Int) - P2) = R2)
    (HG2 : Hid (Guess Y1 Y0 U21 U0 Q2 R2)) (HD0 : Hid ((U21 * 4294967296 + U0) / (Y1 * 4294967296 + Y0) = D0))
    (e17 : IntKind.u64.wrap (IntKind.u64.wrap ((D1 : Int) * 4294967296) + D0) = QQ)
    (e18 : IntKind.u64.wrap (IntKind.u64.wrap (IntKind.u64.wrap ((U21 : Int) * 4294967296) + U0) - IntKind.u64.wrap ((D0 : Int) * N)) = RR) :
    Calls Try.prog 114 #[.int .u64 hi, .int .u64 lo, .int .u64 y] w fun r w' => r = .returned (.tuple #[.int .u64 QQ, .int .u64 ((RR : Int) / 2 ^ s)]) ∧ w = w' := by
  go_enter Try.func114, Try.ntmps114
  go_wp2_with fail
  refine (cL.out _).mono ?_
  rintro e w1 ⟨rfl, rfl⟩
  go_upto_block 0 with fail
  go_cut [15, 16] (AtDigit D1 w)
  case first =>
    go_wp2_with fail
    go_loop [15, 16] (fun a b => ∃ q r : Nat, a = .int .u64 q ∧ b = .int .u64 r ∧ Guess Y1 Y0 U32 U1 q r) (fun _ b => 8589934592 - (intOf b).toNat)
    case atStart => exact ⟨Q, R, rfl, rfl, HG.out⟩
    case round =>
      obtain ⟨q, r, rfl, rfl, g⟩ := hrel
      have r1 := g.rlo
      have r2 := g.qhi
      have y1 := g.y1lo
      have y2 := g.y1hi
      have d1 := g.dhi
      have G := Lib.hid g
      by_cases ca : 4294967296 ≤ q
      · have ca' : decide (4294967296 ≤ (q : Int)) = true := by simp; omega
        have ca'' : decide (4294967296 ≤ q) = true := by simp; omega
        have cG := Lib.hid (g.less (Or.inl ca)).1
        clear g
        by_cases cr : 4294967296 ≤ r + Y1
        · have cr' : decide (4294967296 ≤ (r : Int) + (Y1 : Int)) = true := by simp; omega
          have HF := Lib.hid (G.out.out (Or.inl ca) cr)
          go_wp2_with fail
          go_meet
          exact digit_sub (HF.out.trans HD1.out) cG.out
        · have cr' : decide (4294967296 ≤ (r : Int) + (Y1 : Int)) = false := by simp; omega
          have HF := Lib.hid (G.out.on (Or.inl ca) (by omega))
          go_wp2_with fail
          exact ⟨guess_on HF.out cG.out, by simp [intOf]; omega⟩
      · have ca' : decide (4294967296 ≤ (q : Int)) = false := by simp; omega
        have ca'' : decide (4294967296 ≤ q) = false := by simp; omega
        have hm := mulw q Y0 (by omega) g.y0hi
        obtain ⟨z, hz⟩ : ∃ z, z = q * Y0 := ⟨_, rfl⟩
        rw [← hz] at hm
        by_cases cb : 4294967296 * r + U1 < z
        · have cG := Lib.hid (g.less (Or.inr (by rw [← hz]; exact cb)))
          clear g
          have cG1 : 1 ≤ q := cG.out.1
          by_cases cr : 4294967296 ≤ r + Y1
          · have cr' : decide (4294967296 ≤ (r : Int) + (Y1 : Int)) = true := by simp; omega
            have HF := Lib.hid (G.out.out (Or.inr (by rw [← hz]; exact cb)) cr)
            have Hz := Lib.hid hz; clear hz
            go_wp2_with fail
            go_meet
            exact digit_sub (HF.out.trans HD1.out) cG1
          · have cr' : decide (4294967296 ≤ (r : Int) + (Y1 : Int)) = false := by simp; omega
            have HF := Lib.hid (G.out.on (Or.inr (by rw [← hz]; exact cb)) (by omega))
            have Hz := Lib.hid hz; clear hz
            go_wp2_with fail
            exact ⟨guess_on HF.out cG1, by simp [intOf]; omega⟩
        · have HF := Lib.hid (g.fits (by rw [← hz]; omega))
          have Hz := Lib.hid hz; clear hz g
          go_wp2_with fail
          go_meet
          exact digit_end (HF.out.trans HD1.out)
  case rest =>
    obtain ⟨rfl, ⟨r0, rfl⟩, rfl⟩ := hcut
    go_upto_block 2 with fail
    go_cut [18, 16] (AtDigit D0 w)
    case first =>
      go_wp2_with fail
      go_loop [18, 16] (fun a b => ∃ q r : Nat, a = .int .u64 q ∧ b = .int .u64 r ∧ Guess Y1 Y0 U21 U0 q r) (fun _ b => 8589934592 - (intOf b).toNat)
      case atStart => exact ⟨Q2, R2, rfl, rfl, HG2.out⟩
      case round =>
        obtain ⟨q, r, rfl, rfl, g⟩ := hrel
        have r1 := g.rlo
        have r2 := g.qhi
        have y1 := g.y1lo
        have y2 := g.y1hi
        have d1 := g.dhi
        have G := Lib.hid g
        by_cases ca : 4294967296 ≤ q
        · have ca' : decide (4294967296 ≤ (q : Int)) = true := by simp; omega
          have ca'' : decide (4294967296 ≤ q) = true := by simp; omega
          have cG := Lib.hid (g.less (Or.inl ca)).1
          clear g
          by_cases cr : 4294967296 ≤ r + Y1
          · have cr' : decide (4294967296 ≤ (r : Int) + (Y1 : Int)) = true := by simp; omega
            have HF := Lib.hid (G.out.out (Or.inl ca) cr)
            go_wp2_with fail
            go_meet
            exact digit_sub (HF.out.trans HD0.out) cG.out
          · have cr' : decide (4294967296 ≤ (r : Int) + (Y1 : Int)) = false := by simp; omega
            have HF := Lib.hid (G.out.on (Or.inl ca) (by omega))
            go_wp2_with fail
            exact ⟨guess_on HF.out cG.out, by simp [intOf]; omega⟩
        · have ca' : decide (4294967296 ≤ (q : Int)) = false := by simp; omega
          have ca'' : decide (4294967296 ≤ q) = false := by simp; omega
          have hm := mulw q Y0 (by omega) g.y0hi
          obtain ⟨z, hz⟩ : ∃ z, z = q * Y0 := ⟨_, rfl⟩
          rw [← hz] at hm
          by_cases cb : 4294967296 * r + U0 < z
          · have cG := Lib.hid (g.less (Or.inr (by rw [← hz]; exact cb)))
            clear g
            have cG1 : 1 ≤ q := cG.out.1
            by_cases cr : 4294967296 ≤ r + Y1
            · have cr' : decide (4294967296 ≤ (r : Int) + (Y1 : Int)) = true := by simp; omega
              have HF := Lib.hid (G.out.out (Or.inr (by rw [← hz]; exact cb)) cr)
              have Hz := Lib.hid hz; clear hz
              go_wp2_with fail
              go_meet
              exact digit_sub (HF.out.trans HD0.out) cG1
            · have cr' : decide (4294967296 ≤ (r : Int) + (Y1 : Int)) = false := by simp; omega
              have HF := Lib.hid (G.out.on (Or.inr (by rw [← hz]; exact cb)) (by omega))
              have Hz := Lib.hid hz; clear hz
              go_wp2_with fail
              exact ⟨guess_on HF.out cG1, by simp [intOf]; omega⟩
          · have HF := Lib.hid (g.fits (by rw [← hz]; omega))
            have Hz := Lib.hid hz; clear hz g
            go_wp2_with fail
            go_meet
            exact digit_end (HF.out.trans HD0.out)
    case rest =>
      obtain ⟨rfl, ⟨r3, rfl⟩, rfl⟩ := hcut
      go_wp2
      go_ret2
      exact ⟨rfl, rfl⟩

end Go.Proofs.Ytdppppaoflhgdaa
