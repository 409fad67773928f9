/- The law IvalMeets answers true, whatever it is given. -/
import Derived.Test.YtecgialgahcabaaMeets
import Derived.Test.YtecgialgahcabaaMeetsF
import Derived.Test.YtecgialgahcabaaMeetsM
namespace Go.Proofs.Ytecgialgahcabaa
open Go.RowKit
attribute [local go_sem] run_store_float

set_option maxRecDepth 100000 in
set_option maxHeartbeats 1000000 in
theorem meets_bad (al ah bl bh x : Nat) (w : World) (la : al < 18446744073709551616) (ha : ah < 18446744073709551616) (lb : bl < 18446744073709551616) (hb : bh < 18446744073709551616) (h : (ivR al ah && ivR bl bh) = false) :
    Calls Try.prog 12 #[.agg #[.float .f64 al, .float .f64 ah], .agg #[.float .f64 bl, .float .f64 bh], .float .f64 x] w fun r w' => r = .returned (.bool true) ∧ Below w.heap.size w w' := by
  have cA := Lib.hid (fun w => ivRight_any al ah w la ha)
  have cB := Lib.hid (fun w => ivRight_any bl bh w lb hb)
  have M := Lib.hid (Mem.two w #[.float .f64 al, .float .f64 ah] #[.float .f64 bl, .float .f64 bh] 41 41)
  clear la ha lb hb
  cases hr : ivR al ah
  · rw [hr] at cA
    clear h hr
    go_enter Try.func12, Try.ntmps12
    go_wp2_with fail
    refine (cA.out _).mono ?_
    rintro r w1 ⟨rfl, hb⟩
    replace M := Lib.hid (M.out.below hb)
    clear hb
    go_wp2_with fail
    refine (awake2_any _).mono ?_
    rintro r w2 ⟨rfl, hb⟩
    replace M := Lib.hid (M.out.below hb)
    clear hb
    go_wp2
    go_ret
    exact ⟨rfl, M.out.base⟩
  · rw [hr, Bool.true_and] at h
    rw [hr] at cA
    rw [h] at cB
    clear h hr
    go_enter Try.func12, Try.ntmps12
    go_wp2_with fail
    refine (cA.out _).mono ?_
    rintro r w1 ⟨rfl, hb⟩
    replace M := Lib.hid (M.out.below hb)
    have c1 := (M.out.nth 1 rfl).2.1
    clear hb
    go_wp2_with fail
    refine (cB.out _).mono ?_
    rintro r w2 ⟨rfl, hb⟩
    replace M := Lib.hid (M.out.below hb)
    clear hb c1
    go_wp2_with fail
    refine (awake2_any _).mono ?_
    rintro r w3 ⟨rfl, hb⟩
    replace M := Lib.hid (M.out.below hb)
    clear hb
    go_wp2
    go_ret
    exact ⟨rfl, M.out.base⟩

theorem meets_any (al ah bl bh x : Nat) (w : World) (la : al < 18446744073709551616) (ha : ah < 18446744073709551616) (lb : bl < 18446744073709551616) (hb : bh < 18446744073709551616) (hx : x < 18446744073709551616) :
    Calls Try.prog 12 #[.agg #[.float .f64 al, .float .f64 ah], .agg #[.float .f64 bl, .float .f64 bh], .float .f64 x] w fun r w' => r = .returned (.bool true) ∧ Below w.heap.size w w' := by
  cases h : (ivR al ah && ivR bl bh)
  · exact meets_bad al ah bl bh x w la ha lb hb h
  · obtain ⟨hr, hs⟩ : ivR al ah = true ∧ ivR bl bh = true := by simpa using h
    obtain ⟨r1, r2, r3⟩ := ivR_parts hr
    obtain ⟨s1, s2, s3⟩ := ivR_parts hs
    obtain ⟨m1, m2, m3⟩ := min_facts al bl la lb r1 s1
    obtain ⟨x1, x2, x3⟩ := max_facts ah bh ha hb r2 s2
    have hh := hull_right al ah bl bh la ha lb hb hr hs
    obtain ⟨e1, e2, e3⟩ := meet_comm al ah bl bh la ha lb hb hr hs
    have cRa : Hid (∀ w, Calls Try.prog 40 #[.agg #[.float .f64 al, .float .f64 ah]] w fun r w' => r = .returned (.bool true) ∧ Below w.heap.size w w') := fun w => by have := ivRight_any al ah w la ha; rw [hr] at this; exact this
    have cRb : Hid (∀ w, Calls Try.prog 40 #[.agg #[.float .f64 bl, .float .f64 bh]] w fun r w' => r = .returned (.bool true) ∧ Below w.heap.size w w') := fun w => by have := ivRight_any bl bh w lb hb; rw [hs] at this; exact this
    have cRh : Hid (∀ w, Calls Try.prog 40 #[.agg #[.float .f64 (minW al bl), .float .f64 (maxW ah bh)]] w fun r w' => r = .returned (.bool true) ∧ Below w.heap.size w w') := fun w => by have := ivRight_any _ _ w m1 x1; rw [hh] at this; exact this
    have cH1 := Lib.hid (fun w => hull_any al ah bl bh w la ha lb hb r1 r2 s1 s2)
    have cH2 : Hid (∀ w, Calls Try.prog 50 #[.agg #[.float .f64 bl, .float .f64 bh], .agg #[.float .f64 al, .float .f64 ah]] w fun r w' => r = .returned (.agg #[.float .f64 (minW al bl), .float .f64 (maxW ah bh)]) ∧ Below w.heap.size w w') := fun w => by
      have := hull_any bl bh al ah w lb hb la ha s1 s2 r1 r2
      rw [min_comm bl al lb la s1 r1, max_comm bh ah hb ha s2 r2] at this
      exact this
    have cXa := Lib.hid (fun w => has_any al ah x w la ha)
    have cXb := Lib.hid (fun w => has_any bl bh x w lb hb)
    have cXh : Hid ((hasB al ah x || hasB bl bh x) = true → ∀ w, Calls Try.prog 51 #[.agg #[.float .f64 (minW al bl), .float .f64 (maxW ah bh)], .float .f64 x] w fun r w' => r = .returned (.bool true) ∧ Below w.heap.size w w') := fun g w => by
      have := has_any (minW al bl) (maxW ah bh) x w m1 x1
      rw [has_hull al ah bl bh x la ha lb hb hx hr hs g] at this
      exact this
    have cWa := Lib.hid (fun w => width_any al ah w la ha)
    have cWh := Lib.hid (fun w => width_any (minW al bl) (maxW ah bh) w m1 x1)
    have hw := width_less al ah _ _ hr hh (by omega) (by omega)
    have hv := width_zero al ah la ha hr
    have o1 := order_lt ah bl ha lb r2 s1
    have o2 := order_lt bh al hb la s2 r1
    have hbt := both_iff al ah bl bh la ha lb hb hr hs
    have cM1 := fun w => meet_any al ah bl bh w la ha lb hb r1 r2 s1 s2
    have cM2 := fun w => meet_any bl bh al ah w lb hb la ha s1 s2 r1 r2
    rw [e1, e2, e3] at cM2
    cases hk : bothB al ah bl bh
    · rw [hk] at cM1 cM2 hbt
      have z1 : meetLo al ah bl bh = 0 := by unfold meetLo; simp [hk]
      have z2 : meetHi al ah bl bh = 0 := by unfold meetHi; simp [hk]
      rw [z1, z2] at cM1 cM2
      refine meets_F al ah bl bh x _ _ _ _ _ _ _ _ w cRa cRb (Lib.hid cM1) (Lib.hid cM2) cH1 cH2 cRh cXa cXb cXh cWa cWh _ _ o1 o2 ?_ hw hv
      revert hbt
      cases decide (val ah < val bl) <;> cases decide (val bh < val al) <;> simp
    · rw [hk] at cM1 cM2 hbt
      have hm := meet_right al ah bl bh la ha lb hb hr hs hk
      obtain ⟨l1, l2⟩ : meetLo al ah bl bh < 18446744073709551616 ∧ meetHi al ah bl bh < 18446744073709551616 := by
        unfold meetLo meetHi
        rw [if_pos hk, if_pos hk]
        exact ⟨(max_facts al bl la lb r1 s1).1, (min_facts ah bh ha hb r2 s2).1⟩
      have cRm : Hid (∀ w, Calls Try.prog 40 #[.agg #[.float .f64 (meetLo al ah bl bh), .float .f64 (meetHi al ah bl bh)]] w fun r w' => r = .returned (.bool true) ∧ Below w.heap.size w w') := fun w => by have := ivRight_any _ _ w l1 l2; rw [hm] at this; exact this
      have cXm : Hid (∀ w, Calls Try.prog 51 #[.agg #[.float .f64 (meetLo al ah bl bh), .float .f64 (meetHi al ah bl bh)], .float .f64 x] w fun r w' => r = .returned (.bool (hasB al ah x && hasB bl bh x)) ∧ Below w.heap.size w w') := fun w => by
        have := has_any (meetLo al ah bl bh) (meetHi al ah bl bh) x w l1 l2
        rw [has_meet al ah bl bh x la ha lb hb hx hr hs hk] at this
        exact this
      have h2 : decide (val ah < val bl) = false ∧ decide (val bh < val al) = false := by
        revert hbt
        cases decide (val ah < val bl) <;> cases decide (val bh < val al) <;> simp
      rw [h2.1] at o1
      rw [h2.2] at o2
      exact meets_T al ah bl bh x _ _ _ _ _ _ _ _ _ _ w cRa cRb (Lib.hid cM1) (Lib.hid cM2) cH1 cH2 cRh cRm cXm cXa cXb cXh cWa cWh o1 o2 hw hv

end Go.Proofs.Ytecgialgahcabaa
