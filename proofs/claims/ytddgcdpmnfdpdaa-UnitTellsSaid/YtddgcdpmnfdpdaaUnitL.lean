
/- The document's answer for layer 3: its Of. -/
import Derived.Test.YtddgcdpmnfdpdaaUnitF
import Derived.Test.YtddgcdpmnfdpdaaRefC
import Derived.Test.YtddgcdpmnfdpdaaUnitK
import Derived.Outline
namespace Go.Proofs.Ytddgcdpmnfdpdaa
open Go.RowKit
attribute [local go_sem] run_store_float

/-- The relation of the loop: by what is divided. -/
def TopAt (u B j : Nat) : Prop := B = 2 ^ j ∧ j ≤ 11 ∧ (j = 0 ∨ 9007199254740992 ≤ u / 2 ^ (j - 1))
def TopRel (u : Nat) (v : Value) : Prop := ∃ j B : Nat, v = .int .u64 (B : Int) ∧ TopAt u B j

theorem TopAt.next {u B j : Nat} (h : TopAt u B j) (hu : u < 18446744073709551616) (hg : 9007199254740992 ≤ u / B) : TopAt u (2 * B) (j + 1) := by
  obtain ⟨h1, h2, h3⟩ := h
  refine ⟨by rw [h1, Nat.pow_succ]; omega, ?_, Or.inr (by rw [Nat.add_sub_cancel, ← h1]; exact hg)⟩
  rcases Nat.lt_or_ge j 11 with g | g
  · exact g
  · have hj : j = 11 := by omega
    have e : B = 2048 := by rw [h1, hj]
    rw [e] at hg
    omega
theorem TopAt.bounds {u B j : Nat} (h : TopAt u B j) : 1 ≤ B ∧ B ≤ 2048 := by
  obtain ⟨h1, h2, _⟩ := h
  have h3 : 2 ^ j ≤ 2 ^ 11 := Nat.pow_le_pow_right (by decide) h2
  have h4 := Nat.two_pow_pos j
  rw [h1]
  exact ⟨h4, h3⟩

set_option maxRecDepth 100000 in
set_option maxHeartbeats 1000000 in
theorem top_walk (u B q r X : Nat) (rest : Bool) (w : World) (hu : u < 18446744073709551616)
    (hend : Hid (∀ j' B', TopAt u B' j' → u / B' < 9007199254740992 → B' = B)) (Hq : Hid (u / B = q)) (Hr : Hid (u % B = r))
    (hX : ∀ w, (binOp .mul 22 (.float .f64 (floatOfInt .f64 (q : Int))) (.float .f64 (floatOfInt .f64 (B : Int)))).run Try.prog w = .ok (.float .f64 X) w)
    (hr : ((r : Int) != 0) = rest) :
    Calls Try.prog 98 #[.int .u64 u] w fun e w' => e = .returned (.tuple #[.float .f64 X, .bool rest]) ∧ Below w.heap.size w w' := by
  go_enter Try.func98, Try.ntmps98
  go_wp2
  go_loop [4] (fun b => TopRel u b) (fun b => 4096 - (intOf b).toNat)
  case atStart => exact ⟨0, 1, rfl, rfl, by omega, Or.inl rfl⟩
  case round =>
    obtain ⟨k, b, rfl, hT⟩ := hrel
    obtain ⟨b1, b2⟩ := hT.bounds
    have HT := Lib.hid hT
    clear hT
    obtain ⟨q', hq'⟩ : ∃ q', u / b = q' := ⟨_, rfl⟩
    have hle : q' ≤ u := by rw [← hq']; exact Nat.div_le_self _ _
    have h1 : (u : Int) / (b : Int) = (q' : Int) := by rw [← Int.natCast_ediv, hq']
    have HQ := Lib.hid hq'
    clear hq'
    by_cases hge : 9007199254740992 ≤ q'
    · have HN := Lib.hid (HT.out.next hu (by rw [HQ.out]; exact hge))
      have g1 : decide ((9007199254740992 : Int) ≤ (q' : Int)) = true := decide_eq_true (by omega)
      clear hge
      go_wp2
      go_round
      case rel => exact ⟨k + 1, 2 * b, congrArg (Value.int .u64) (by omega), HN.out⟩
      case measure => simp [intOf]; omega
    · obtain rfl := hend.out k b HT.out (by rw [HQ.out]; omega)
      obtain rfl : q' = q := by rw [← HQ.out, ← Hq.out]
      have g1 : decide ((9007199254740992 : Int) ≤ (q' : Int)) = false := decide_eq_false (by omega)
      have h2 : (u : Int) % (b : Int) = (r : Int) := by rw [← Int.natCast_emod, Hr.out]
      clear hge
      go_wp2
      go_quiet (fail)
      go_wp2
      go_ret2
      exact ⟨rfl, Below.drewN (Below.refl _ _) _⟩

end Go.Proofs.Ytddgcdpmnfdpdaa
