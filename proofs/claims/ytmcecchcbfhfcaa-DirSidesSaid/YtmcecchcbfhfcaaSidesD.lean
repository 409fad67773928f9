
/- The law DirSides: its walk. -/
import Derived.Test.YtmcecchcbfhfcaaSidesR
import Derived.Test.YtmcecchcbfhfcaaSidesK
import Derived.Test.YtmcecchcbfhfcaaSidesT
import Derived.Deep.CutRange
namespace Go.Proofs.Ytmcecchcbfhfcaa
open Go.RowKit
attribute [local go_sem] run_store_float

theorem fair_bits {x y r : Nat} (h : Fair x y r) : ∃ p1 p2 p3 p4 : Bool, (FloatKind.f64.format.order x y != some Ordering.eq) = p1 ∧ (FloatKind.f64.format.order (addW x 1 true) y != some Ordering.eq) = p2 ∧ Hid (p1 = false ∨ p1 = true ∧ p2 = false) ∧
    (FloatKind.f64.format.order r x != some Ordering.eq) = p3 ∧ (FloatKind.f64.format.order r y != some Ordering.eq) = p4 ∧ Hid (p3 = false ∨ p3 = true ∧ p4 = false) := by
  refine ⟨_, _, _, _, rfl, rfl, Lib.hid ?_, rfl, rfl, Lib.hid ?_⟩
  · rcases h.step with h | ⟨h, g⟩
    · exact Or.inl (by unfold bne; rw [h]; rfl)
    · exact Or.inr ⟨by unfold bne; rw [h]; rfl, by unfold bne; rw [g]; rfl⟩
  · have hn := h.near
    cases h : (FloatKind.f64.format.order r x == some Ordering.eq)
    · rw [h] at hn
      rcases hn with g | g
      · cases g
      · exact Or.inr ⟨by unfold bne; rw [h]; rfl, by unfold bne; rw [g]; rfl⟩
    · exact Or.inl (by unfold bne; rw [h]; rfl)

theorem right_at {x : Nat} (lx : x < 18446744073709551616) (rx : rightB x = true) (w : World) : Calls Try.prog 25 #[.float .f64 x] w fun r w' => r = .returned (.bool true) ∧ w = w' := by
  have := right_any x w lx
  rw [rx] at this
  exact this

set_option maxRecDepth 1000000 in
set_option maxHeartbeats 16000000 in
theorem sides_walk (a b : Nat) (w : World) (la : a < 18446744073709551616) (lb : b < 18446744073709551616) (ra : rightB a = true) (rb : rightB b = true) :
    Calls Try.prog 4 #[.float .f64 a, .float .f64 b] w fun r w' => r = .returned (.bool true) ∧ Below w.heap.size w w' := by
  have cRa : Hid (∀ w, Calls Try.prog 25 #[.float .f64 a] w fun r w' => r = .returned (.bool true) ∧ w = w') := right_at la ra
  have cRb : Hid (∀ w, Calls Try.prog 25 #[.float .f64 b] w fun r w' => r = .returned (.bool true) ∧ w = w') := right_at lb rb
  have M := Lib.hid (Mem.two w #[.float .f64 a] #[.float .f64 b] 22 22)
  have RA := Lib.hid (And.intro la (And.intro lb (And.intro ra rb)))
  clear la lb ra rb
  go_enter Try.func4, Try.ntmps4
  go_wp2_with fail
  refine (cRa.out _).mono ?_
  rintro r ww ⟨rfl, rfl⟩
  go_wp2_with fail
  refine (cRb.out _).mono ?_
  rintro r ww ⟨rfl, rfl⟩
  go_upto_region 3 with fail
  go_cut [5] from 22 to 45 (NearCut w a b)
  case first =>
    obtain ⟨la, lb, ra, rb⟩ := RA.out
    obtain ⟨r0, e0, s0⟩ := add_sides a b la lb ra rb
    obtain ⟨r1, e1, s1⟩ := sub_sides a b la lb ra rb
    obtain ⟨r2, e2, s2⟩ := mul_sides a b la lb ra rb
    have h0 := fun t w => run_float_arith (P := Try.prog) (w := w) .add t .f64 a b _ e0
    have h1 := fun t w => run_float_arith (P := Try.prog) (w := w) .sub t .f64 a b _ e1
    have h2 := fun t w => run_float_arith (P := Try.prog) (w := w) .mul t .f64 a b _ e2
    by_cases hz : a = 0 ∧ b = 0
    · obtain ⟨rfl, rfl⟩ := hz
      obtain ⟨r4, e4, s4⟩ := sqrt_sides 0 la ra (by decide)
      obtain ⟨r3, n3, hq⟩ := run_quo_none 22 ((w.alloc (Obj.cells #[Value.float .f64 0] 22)).alloc (Obj.cells #[Value.float .f64 0] 22)).drew
      exact sides_r3_zero M h0 h1 h2 n3 hq (Lib.hid (fun w => sqrt_call 0 r4 e4 w)) (Lib.hid ⟨s0, s1, s2, Or.inr rfl, Or.inl s4⟩) (by kernel_rfl) (by assumption) (by assumption)
    · obtain ⟨r3, e3, s3⟩ : ∃ r, floatBits .quo .f64 a b = some r ∧ (Sides (divW a b false) (divE a b false) (divW a b true) (divE a b true) r ∨ b = 0) := by
        by_cases hb0 : b = 0
        · obtain ⟨r, h⟩ := quo_nil a la ra (fun h => hz ⟨h, hb0⟩)
          exact ⟨r, by rw [hb0]; exact h, Or.inr hb0⟩
        · obtain ⟨r, h, g⟩ := div_sides a b la lb ra rb hb0
          exact ⟨r, h, Or.inl g⟩
      have h3 := fun t w => run_float_arith (P := Try.prog) (w := w) .quo t .f64 a b _ e3
      cases hs : sgnB a
      · obtain ⟨r4, e4, s4⟩ := sqrt_sides a la ra hs
        exact sides_r3_pos M h0 h1 h2 h3 (Lib.hid (fun w => sqrt_call a r4 e4 w)) (Lib.hid ⟨s0, s1, s2, s3, Or.inl s4⟩) (by kernel_rfl) (by assumption) (by assumption)
      · exact sides_r3_neg M h0 h1 h2 h3 (Lib.hid (fun w => sqrt_call_none a (sqrt_none a la ra hs) w)) (Lib.hid fun r4 => ⟨s0, s1, s2, s3, Or.inr hs⟩) (by kernel_rfl) (by assumption) (by assumption)
  case rest =>
    obtain ⟨w3, rfl⟩ : ∃ x : World, x = wc := ⟨_, rfl⟩
    obtain ⟨q, r0, r1, r2, r3, r4, rfl, hq, hN, hM⟩ := hcut
    clear M cRa cRb
    have M := Lib.hid hM
    have N := Lib.hid hN
    clear hM hN
    obtain ⟨s, hs⟩ : ∃ s, s = w3.heap.size := ⟨_, rfl⟩
    have M4 : Hid (SidesMem w a b q w3.heap.size r0 r1 r2 r3 r4 (w3.alloc (.cells #[FV w.heap.size 0, FV w.heap.size 1, FV w.heap.size 2, FV w.heap.size 3, FV w.heap.size 4] 34))) := Lib.hid ((M.out.made _ _).sub (by simp))
    have ON := Lib.hid (fun k hk => out_all a b r0 r1 r2 r3 r4 k RA.out.2.2.1 RA.out.2.2.2 hk N.out)
    clear M N
    have M := M4
    clear M4
    go_wp2_with fail
    rw [← hs] at M ⊢
    clear hs hq
    go_loopw [53] (SidesRel w a b q s r0 r1 r2 r3 r4) (fun i _ => 5 - (intOf i).toNat)
    case atStart => exact ⟨Or.inl rfl, M.out⟩
    case round =>
      clear M
      obtain ⟨hi, hM⟩ := hrel
      have M := Lib.hid hM
      clear hM
      obtain ⟨la, lb, ra, rb⟩ := RA.out
      rcases hi with rfl | rfl | rfl | rfl | rfl | rfl
      · rcases ON.out 0 (by decide) with (⟨hel, heh, hF⟩ | h1) | ⟨hk, hb0, hel, heh⟩ | ⟨hk, hsa, hel, heh⟩
        · obtain ⟨p1, p2, p3, p4, o2, o3, hp, o4, o5, hp'⟩ := fair_bits hF
          exact sides_round0_fair M (Lib.hid fun w1 h1 h2 => by have c := clo_add a b false _ _ w1 la lb h1 h2; rw [show addE a b false = 0 from hel] at c; exact c) (Lib.hid fun w1 h1 h2 => by have c := clo_add a b true _ _ w1 la lb h1 h2; rw [show addE a b true = 0 from heh] at c; exact c) hF.gt o2 o3 hp o4 o5 hp' (Lib.hid fun w => step_lit _ _ _ true _ w hF.lx rfl rfl rfl) (Lib.hid (right_at hF.lx hF.rx)) (Lib.hid (right_at hF.ly hF.ry)) (by kernel_rfl) (Lib.hid fun a' w' h => ⟨h.1, by rw [h.2]; exact (by decide : 5 - (intOf (.int .i64 1)).toNat < 5 - (intOf (.int .i64 0)).toNat)⟩)
        · have he : (XE a b false 0 = 10 ∧ XE a b true 0 = 0 ∧ (FloatKind.f64.format.order (XW a b true 0) 18442240474082181119 != some Ordering.eq) = false) ∨ (XE a b false 0 = 0 ∧ XE a b true 0 = 10 ∧ (FloatKind.f64.format.order (XW a b false 0) 9218868437227405311 != some Ordering.eq) = false) := by
            rcases h1 with ⟨e1, e2, o⟩ | ⟨e1, e2, o⟩
            · exact Or.inl ⟨e1, e2, by unfold bne; rw [o]; rfl⟩
            · exact Or.inr ⟨e1, e2, by unfold bne; rw [o]; rfl⟩
          exact sides_round0_one M (Lib.hid fun w1 h1 h2 => clo_add a b false _ _ w1 la lb h1 h2) (Lib.hid fun w1 h1 h2 => clo_add a b true _ _ w1 la lb h1 h2) (Lib.hid he) (by kernel_rfl) (Lib.hid fun a' w' h => ⟨h.1, by rw [h.2]; exact (by decide : 5 - (intOf (.int .i64 1)).toNat < 5 - (intOf (.int .i64 0)).toNat)⟩)
        · exact absurd hk (by decide)
        · exact absurd hk (by decide)
      · rcases ON.out 1 (by decide) with (⟨hel, heh, hF⟩ | h1) | ⟨hk, hb0, hel, heh⟩ | ⟨hk, hsa, hel, heh⟩
        · obtain ⟨p1, p2, p3, p4, o2, o3, hp, o4, o5, hp'⟩ := fair_bits hF
          exact sides_round1_fair M (Lib.hid fun w1 h1 h2 => by have c := clo_sub a b false _ _ w1 la lb h1 h2; rw [show subE a b false = 0 from hel] at c; exact c) (Lib.hid fun w1 h1 h2 => by have c := clo_sub a b true _ _ w1 la lb h1 h2; rw [show subE a b true = 0 from heh] at c; exact c) hF.gt o2 o3 hp o4 o5 hp' (Lib.hid fun w => step_lit _ _ _ true _ w hF.lx rfl rfl rfl) (Lib.hid (right_at hF.lx hF.rx)) (Lib.hid (right_at hF.ly hF.ry)) (by kernel_rfl) (Lib.hid fun a' w' h => ⟨h.1, by rw [h.2]; exact (by decide : 5 - (intOf (.int .i64 2)).toNat < 5 - (intOf (.int .i64 1)).toNat)⟩)
        · have he : (XE a b false 1 = 10 ∧ XE a b true 1 = 0 ∧ (FloatKind.f64.format.order (XW a b true 1) 18442240474082181119 != some Ordering.eq) = false) ∨ (XE a b false 1 = 0 ∧ XE a b true 1 = 10 ∧ (FloatKind.f64.format.order (XW a b false 1) 9218868437227405311 != some Ordering.eq) = false) := by
            rcases h1 with ⟨e1, e2, o⟩ | ⟨e1, e2, o⟩
            · exact Or.inl ⟨e1, e2, by unfold bne; rw [o]; rfl⟩
            · exact Or.inr ⟨e1, e2, by unfold bne; rw [o]; rfl⟩
          exact sides_round1_one M (Lib.hid fun w1 h1 h2 => clo_sub a b false _ _ w1 la lb h1 h2) (Lib.hid fun w1 h1 h2 => clo_sub a b true _ _ w1 la lb h1 h2) (Lib.hid he) (by kernel_rfl) (Lib.hid fun a' w' h => ⟨h.1, by rw [h.2]; exact (by decide : 5 - (intOf (.int .i64 2)).toNat < 5 - (intOf (.int .i64 1)).toNat)⟩)
        · exact absurd hk (by decide)
        · exact absurd hk (by decide)
      · rcases ON.out 2 (by decide) with (⟨hel, heh, hF⟩ | h1) | ⟨hk, hb0, hel, heh⟩ | ⟨hk, hsa, hel, heh⟩
        · obtain ⟨p1, p2, p3, p4, o2, o3, hp, o4, o5, hp'⟩ := fair_bits hF
          exact sides_round2_fair M (Lib.hid fun w1 h1 h2 => by have c := clo_mul a b false _ _ w1 la lb h1 h2; rw [show mulE a b false = 0 from hel] at c; exact c) (Lib.hid fun w1 h1 h2 => by have c := clo_mul a b true _ _ w1 la lb h1 h2; rw [show mulE a b true = 0 from heh] at c; exact c) hF.gt o2 o3 hp o4 o5 hp' (Lib.hid fun w => step_lit _ _ _ true _ w hF.lx rfl rfl rfl) (Lib.hid (right_at hF.lx hF.rx)) (Lib.hid (right_at hF.ly hF.ry)) (by kernel_rfl) (Lib.hid fun a' w' h => ⟨h.1, by rw [h.2]; exact (by decide : 5 - (intOf (.int .i64 3)).toNat < 5 - (intOf (.int .i64 2)).toNat)⟩)
        · have he : (XE a b false 2 = 10 ∧ XE a b true 2 = 0 ∧ (FloatKind.f64.format.order (XW a b true 2) 18442240474082181119 != some Ordering.eq) = false) ∨ (XE a b false 2 = 0 ∧ XE a b true 2 = 10 ∧ (FloatKind.f64.format.order (XW a b false 2) 9218868437227405311 != some Ordering.eq) = false) := by
            rcases h1 with ⟨e1, e2, o⟩ | ⟨e1, e2, o⟩
            · exact Or.inl ⟨e1, e2, by unfold bne; rw [o]; rfl⟩
            · exact Or.inr ⟨e1, e2, by unfold bne; rw [o]; rfl⟩
          exact sides_round2_one M (Lib.hid fun w1 h1 h2 => clo_mul a b false _ _ w1 la lb h1 h2) (Lib.hid fun w1 h1 h2 => clo_mul a b true _ _ w1 la lb h1 h2) (Lib.hid he) (by kernel_rfl) (Lib.hid fun a' w' h => ⟨h.1, by rw [h.2]; exact (by decide : 5 - (intOf (.int .i64 3)).toNat < 5 - (intOf (.int .i64 2)).toNat)⟩)
        · exact absurd hk (by decide)
        · exact absurd hk (by decide)
      · rcases ON.out 3 (by decide) with (⟨hel, heh, hF⟩ | h1) | ⟨hk, hb0, hel, heh⟩ | ⟨hk, hsa, hel, heh⟩
        · obtain ⟨p1, p2, p3, p4, o2, o3, hp, o4, o5, hp'⟩ := fair_bits hF
          exact sides_round3_fair M (Lib.hid fun w1 h1 h2 => by have c := clo_div a b false _ _ w1 la lb h1 h2; rw [show divE a b false = 0 from hel] at c; exact c) (Lib.hid fun w1 h1 h2 => by have c := clo_div a b true _ _ w1 la lb h1 h2; rw [show divE a b true = 0 from heh] at c; exact c) hF.gt o2 o3 hp o4 o5 hp' (Lib.hid fun w => step_lit _ _ _ true _ w hF.lx rfl rfl rfl) (Lib.hid (right_at hF.lx hF.rx)) (Lib.hid (right_at hF.ly hF.ry)) (by kernel_rfl) (Lib.hid fun a' w' h => ⟨h.1, by rw [h.2]; exact (by decide : 5 - (intOf (.int .i64 4)).toNat < 5 - (intOf (.int .i64 3)).toNat)⟩)
        · have he : (XE a b false 3 = 10 ∧ XE a b true 3 = 0 ∧ (FloatKind.f64.format.order (XW a b true 3) 18442240474082181119 != some Ordering.eq) = false) ∨ (XE a b false 3 = 0 ∧ XE a b true 3 = 10 ∧ (FloatKind.f64.format.order (XW a b false 3) 9218868437227405311 != some Ordering.eq) = false) := by
            rcases h1 with ⟨e1, e2, o⟩ | ⟨e1, e2, o⟩
            · exact Or.inl ⟨e1, e2, by unfold bne; rw [o]; rfl⟩
            · exact Or.inr ⟨e1, e2, by unfold bne; rw [o]; rfl⟩
          exact sides_round3_one M (Lib.hid fun w1 h1 h2 => clo_div a b false _ _ w1 la lb h1 h2) (Lib.hid fun w1 h1 h2 => clo_div a b true _ _ w1 la lb h1 h2) (Lib.hid he) (by kernel_rfl) (Lib.hid fun a' w' h => ⟨h.1, by rw [h.2]; exact (by decide : 5 - (intOf (.int .i64 4)).toNat < 5 - (intOf (.int .i64 3)).toNat)⟩)
        · have o' : (FloatKind.f64.format.order b 0 != some Ordering.eq) = false := by
            have := order_zero b lb rb
            rw [decide_eq_true hb0] at this
            unfold bne; rw [this]; rfl
          exact sides_round3_both M (Lib.hid fun w1 h1 h2 => by have c := clo_div a b false _ _ w1 la lb h1 h2; rw [show divE a b false = 11 from hel] at c; exact c) (Lib.hid fun w1 h1 h2 => by have c := clo_div a b true _ _ w1 la lb h1 h2; rw [show divE a b true = 11 from heh] at c; exact c) o' (by kernel_rfl) (Lib.hid fun a' w' h => ⟨h.1, by rw [h.2]; exact (by decide : 5 - (intOf (.int .i64 4)).toNat < 5 - (intOf (.int .i64 3)).toNat)⟩)
        · exact absurd hk (by decide)
      · rcases ON.out 4 (by decide) with (⟨hel, heh, hF⟩ | h1) | ⟨hk, hb0, hel, heh⟩ | ⟨hk, hsa, hel, heh⟩
        · obtain ⟨p1, p2, p3, p4, o2, o3, hp, o4, o5, hp'⟩ := fair_bits hF
          exact sides_round4_fair M (Lib.hid fun w1 h1 => by have c := clo_sqrt a false _ w1 la h1; rw [show sqrtE a false = 0 from hel] at c; exact c) (Lib.hid fun w1 h1 => by have c := clo_sqrt a true _ w1 la h1; rw [show sqrtE a true = 0 from heh] at c; exact c) hF.gt o2 o3 hp o4 o5 hp' (Lib.hid fun w => step_lit _ _ _ true _ w hF.lx rfl rfl rfl) (Lib.hid (right_at hF.lx hF.rx)) (Lib.hid (right_at hF.ly hF.ry)) (by kernel_rfl) (Lib.hid fun a' w' h => ⟨h.1, by rw [h.2]; exact (by decide : 5 - (intOf (.int .i64 5)).toNat < 5 - (intOf (.int .i64 4)).toNat)⟩)
        · have he : (XE a b false 4 = 10 ∧ XE a b true 4 = 0 ∧ (FloatKind.f64.format.order (XW a b true 4) 18442240474082181119 != some Ordering.eq) = false) ∨ (XE a b false 4 = 0 ∧ XE a b true 4 = 10 ∧ (FloatKind.f64.format.order (XW a b false 4) 9218868437227405311 != some Ordering.eq) = false) := by
            rcases h1 with ⟨e1, e2, o⟩ | ⟨e1, e2, o⟩
            · exact Or.inl ⟨e1, e2, by unfold bne; rw [o]; rfl⟩
            · exact Or.inr ⟨e1, e2, by unfold bne; rw [o]; rfl⟩
          exact sides_round4_one M (Lib.hid fun w1 h1 => clo_sqrt a false _ w1 la h1) (Lib.hid fun w1 h1 => clo_sqrt a true _ w1 la h1) (Lib.hid he) (by kernel_rfl) (Lib.hid fun a' w' h => ⟨h.1, by rw [h.2]; exact (by decide : 5 - (intOf (.int .i64 5)).toNat < 5 - (intOf (.int .i64 4)).toNat)⟩)
        · exact absurd hk (by decide)
        · have o' : ((FloatKind.f64.format.order a 0 == some Ordering.gt) || (FloatKind.f64.format.order a 0 == some Ordering.eq)) = false := by
            rw [ge_zero a la ra]
            unfold leB
            have := (val_neg a la ra).2 hsa
            exact decide_eq_false (by rw [val_nil]; omega)
          exact sides_round4_both M (Lib.hid fun w1 h1 => by have c := clo_sqrt a false _ w1 la h1; rw [show sqrtE a false = 12 from hel] at c; exact c) (Lib.hid fun w1 h1 => by have c := clo_sqrt a true _ w1 la h1; rw [show sqrtE a true = 12 from heh] at c; exact c) o' (by kernel_rfl) (Lib.hid fun a' w' h => ⟨h.1, by rw [h.2]; exact (by decide : 5 - (intOf (.int .i64 5)).toNat < 5 - (intOf (.int .i64 4)).toNat)⟩)
      · clear ON la lb ra rb
        go_upto_region 22 with fail
        exact sides_tail RA M (by kernel_rfl) (by assumption) (by kernel_rfl)

end Go.Proofs.Ytmcecchcbfhfcaa
