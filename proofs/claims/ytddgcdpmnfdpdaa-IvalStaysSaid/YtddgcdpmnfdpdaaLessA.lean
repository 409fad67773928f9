
/- Law file 2: Between, and the part of an interval, for all that they are given. -/
import Derived.Test.YtddgcdpmnfdpdaaUnitM
import Derived.Test.YtddgcdpmnfdpdaaNearR
import Derived.Test.YtddgcdpmnfdpdaaAwkB
import Derived.Test.YtddgcdpmnfdpdaaAsk
namespace Go.Proofs.Ytddgcdpmnfdpdaa
open Go.RowKit
attribute [local go_sem] run_store_float

/-- So many parts of 2^16. -/
def btwY (n : Int) : Nat := (floatBits .quo .f64 (floatOfInt .f64 n) 4679240012837945344).getD 0

theorem btw_quo (n : Nat) (hn : n < 65536) : floatBits .quo .f64 (floatOfInt .f64 (n : Int)) 4679240012837945344 = some (btwY n) ∧ btwY n < 18446744073709551616 := by
  obtain ⟨f1, f2⟩ := from_int n (by omega)
  obtain ⟨a1, a2, a3, a4, a5⟩ := pos_facts _ f1
  have hsq := sq_eq
  obtain ⟨c, hc, hcv⟩ := num_at n (sq - 16) (by omega) (by omega) (by omega)
  obtain ⟨c1, c2, _, _, c5⟩ := pos_facts c hc
  obtain ⟨r, hr, hB⟩ := div_beside (FloatKind.f64.nearest (n : Int)) 4679240012837945344 a1 (by decide) a2 (by decide) (by decide)
  have hb : steps (rung 4679240012837945344) = 2 ^ (sq + 16) := by decide +kernel
  have hs : (sgnB 4679240012837945344) = false := by decide
  rw [hb, hs, a3, a4, f2] at hB
  have hT : sg (!(false == false)) (n * 2 ^ sq * 2 ^ sq) = ((n * 2 ^ sq * 2 ^ sq : Nat) : Int) := rfl
  rw [hT] at hB
  have he : val c * ((2 ^ (sq + 16) : Nat) : Int) = ((n * 2 ^ sq * 2 ^ sq : Nat) : Int) := by
    rw [c5, hcv, ← Int.natCast_mul, Nat.mul_assoc, ← Nat.pow_add, Nat.mul_assoc n, ← Nat.pow_add]
    congr 3
  have hp : (0 : Int) < ((2 ^ (sq + 16) : Nat) : Int) := Int.natCast_pos.2 (Nat.two_pow_pos _)
  obtain ⟨b1, _, _⟩ := hB c c (Or.inl ⟨rfl, c1, c2, by omega, fun d _ _ hd => Int.le_of_mul_le_mul_right (by omega : val d * ((2 ^ (sq + 16) : Nat) : Int) ≤ val c * ((2 ^ (sq + 16) : Nat) : Int)) hp⟩)
    (Or.inl ⟨rfl, c1, c2, by omega, fun d _ _ hd => Int.le_of_mul_le_mul_right (by omega : val c * ((2 ^ (sq + 16) : Nat) : Int) ≤ val d * ((2 ^ (sq + 16) : Nat) : Int)) hp⟩)
  unfold btwY floatOfInt
  rw [hr]
  exact ⟨rfl, b1⟩

/-- What Between answers. -/
def btwS (al ah n : Nat) : Nat := addW al (mulW (subW ah al false) (btwY n) false) false
def btwE (al ah n : Nat) : Int := subE ah al false + mulE (subW ah al false) (btwY n) false + addE al (mulW (subW ah al false) (btwY n) false) false
def btwW (al ah n : Nat) : Nat := if n = 0 then al else if n = 65535 ∨ btwE al ah n ≠ 0 ∨ hasB al ah (btwS al ah n) = false then ah else btwS al ah n

theorem err_in (e : Int) (h : e = 0 ∨ e = 10 ∨ e = 13) : 0 ≤ e ∧ e ≤ 13 := by omega

set_option maxRecDepth 100000 in
set_option maxHeartbeats 1000000 in
theorem between_walk (al ah n x y z s : Nat) (e f g : Int) (last err has : Bool) (w : World)
    (hq : ∀ w, (binOp .quo 22 (.float .f64 (floatOfInt .f64 (n : Int))) (.float .f64 4679240012837945344)).run Try.prog w = .ok (.float .f64 z) w)
    (c1 : Hid (∀ w, Calls Try.prog 13 #[.float .f64 ah, .float .f64 al, .bool false] w fun r w' => r = .returned (.tuple #[.float .f64 x, .int .i64 e]) ∧ Below w.heap.size w w'))
    (c2 : Hid (∀ w, Calls Try.prog 14 #[.float .f64 x, .float .f64 z, .bool false] w fun r w' => r = .returned (.tuple #[.float .f64 y, .int .i64 f]) ∧ Below w.heap.size w w'))
    (c3 : Hid (∀ w, Calls Try.prog 12 #[.float .f64 al, .float .f64 y, .bool false] w fun r w' => r = .returned (.tuple #[.float .f64 s, .int .i64 g]) ∧ Below w.heap.size w w'))
    (c4 : Hid (∀ w, Calls Try.prog 86 #[.agg #[.float .f64 al, .float .f64 ah], .float .f64 s] w fun r w' => r = .returned (.bool has) ∧ Below w.heap.size w w'))
    (t0 : ((n : Int) == 0) = false) (t1 : ((n : Int) == 65535) = last) (b1 : 0 ≤ e ∧ e ≤ 13) (b2 : 0 ≤ f ∧ f ≤ 13) (b3 : 0 ≤ g ∧ g ≤ 13) (t2 : (e + f + g != 0) = err) :
    Calls Try.prog 41 #[.agg #[.float .f64 al, .float .f64 ah], .int .u16 n] w fun r w' => r = .returned (.float .f64 (if last || err || !has then ah else s)) ∧ Below w.heap.size w w' := by
  obtain ⟨e0, e1⟩ := b1
  obtain ⟨f0, f1⟩ := b2
  obtain ⟨g0, g1⟩ := b3
  go_enter Try.func41, Try.ntmps41
  go_wp2_with fail
  refine (c1.out _).mono ?_
  rintro r w1 ⟨rfl, hb⟩
  have M := Lib.hid (((Mem.nil w).made _ _).below hb)
  clear hb
  have k1 := (M.out.nth 0 rfl).2.1
  go_wp2_with fail
  refine (c2.out _).mono ?_
  rintro r w2 ⟨rfl, hb⟩
  replace M := Lib.hid (M.out.below hb)
  clear hb k1
  have k1 := (M.out.nth 0 rfl).2.1
  go_wp2_with fail
  refine (c3.out _).mono ?_
  rintro r w3 ⟨rfl, hb⟩
  replace M := Lib.hid (M.out.below hb)
  clear hb k1
  have k1 := (M.out.nth 0 rfl).2.1
  cases last
  · cases err
    · go_wp2_with fail
      refine (c4.out _).mono ?_
      rintro r w4 ⟨rfl, hb⟩
      replace M := Lib.hid (M.out.below hb)
      clear hb k1
      have k1 := (M.out.nth 0 rfl).2.1
      cases has
      · go_wp2
        go_ret
        exact ⟨rfl, M.out.base⟩
      · go_wp2
        go_ret
        exact ⟨rfl, M.out.base⟩
    · go_wp2
      go_ret
      exact ⟨rfl, M.out.base⟩
  · go_wp2
    go_ret
    exact ⟨rfl, M.out.base⟩

theorem between_zero (al ah : Nat) (w : World) :
    Calls Try.prog 41 #[.agg #[.float .f64 al, .float .f64 ah], .int .u16 0] w fun r w' => r = .returned (.float .f64 al) ∧ Below w.heap.size w w' := by
  go_enter Try.func41, Try.ntmps41
  go_wp2
  go_ret
  exact ⟨rfl, bel1 _ _⟩

theorem addE_in (a b : Nat) (up : Bool) : 0 ≤ addE a b up ∧ addE a b up ≤ 13 := err_in _ (by rcases addE_cases a b up with h | h | h <;> omega)
theorem subE_in (a b : Nat) (up : Bool) : 0 ≤ subE a b up ∧ subE a b up ≤ 13 := by
  cases ra : rightB a
  · have e : subE a b up = 13 := if_neg (by rw [ra]; exact Bool.false_ne_true)
    omega
  · cases rb : rightB b
    · have e : subE a b up = 13 := if_neg (by rw [rb, Bool.and_false]; exact Bool.false_ne_true)
      omega
    · cases up
      · rcases (sub_down a b ra rb).err with h | h <;> omega
      · rcases (sub_up a b ra rb).err with h | h <;> omega
theorem mulE_in (a b : Nat) (up : Bool) : 0 ≤ mulE a b up ∧ mulE a b up ≤ 13 := by
  cases ra : rightB a
  · have e : mulE a b up = 13 := if_neg (by rw [ra]; exact Bool.false_ne_true)
    omega
  · cases rb : rightB b
    · have e : mulE a b up = 13 := if_neg (by rw [rb, Bool.and_false]; exact Bool.false_ne_true)
      omega
    · have h := mul_dir a b ra rb up
      cases up
      · rcases (h.1 rfl).err with h | h <;> omega
      · rcases (h.2 rfl).err with h | h <;> omega

theorem addW_lt (a b : Nat) (up : Bool) : addW a b up < 18446744073709551616 := by
  cases ra : rightB a
  · have e : addW a b up = 0 := if_neg (by rw [ra]; exact Bool.false_ne_true)
    omega
  · cases rb : rightB b
    · have e : addW a b up = 0 := if_neg (by rw [rb, Bool.and_false]; exact Bool.false_ne_true)
      omega
    · cases up
      · rcases add_down a b ra rb with ⟨_, h, _⟩ | ⟨_, h, _⟩ <;> omega
      · rcases add_up a b ra rb with ⟨_, h, _⟩ | ⟨_, h, _⟩ <;> omega
theorem subW_lt (a b : Nat) (up : Bool) : subW a b up < 18446744073709551616 := by
  cases ra : rightB a
  · have e : subW a b up = 0 := if_neg (by rw [ra]; exact Bool.false_ne_true)
    omega
  · cases rb : rightB b
    · have e : subW a b up = 0 := if_neg (by rw [rb, Bool.and_false]; exact Bool.false_ne_true)
      omega
    · cases up
      · rcases sub_down a b ra rb with ⟨_, h, _⟩ | ⟨_, h, _⟩ <;> omega
      · rcases sub_up a b ra rb with ⟨_, h, _⟩ | ⟨_, h, _⟩ <;> omega
theorem mulW_lt (a b : Nat) (up : Bool) : mulW a b up < 18446744073709551616 := by
  cases ra : rightB a
  · have e : mulW a b up = 0 := if_neg (by rw [ra]; exact Bool.false_ne_true)
    omega
  · cases rb : rightB b
    · have e : mulW a b up = 0 := if_neg (by rw [rb, Bool.and_false]; exact Bool.false_ne_true)
      omega
    · have h := mul_dir a b ra rb up
      cases up
      · rcases h.1 rfl with ⟨_, h, _⟩ | ⟨_, h, _⟩ <;> omega
      · rcases h.2 rfl with ⟨_, h, _⟩ | ⟨_, h, _⟩ <;> omega

theorem between_any (al ah n : Nat) (w : World) (la : al < 18446744073709551616) (ha : ah < 18446744073709551616) (hn : n < 65536) :
    Calls Try.prog 41 #[.agg #[.float .f64 al, .float .f64 ah], .int .u16 n] w fun r w' => r = .returned (.float .f64 (btwW al ah n)) ∧ Below w.heap.size w w' := by
  by_cases h0 : n = 0
  · subst h0
    have e : btwW al ah 0 = al := if_pos rfl
    rw [e]
    exact between_zero al ah w
  · obtain ⟨q1, q2⟩ := btw_quo n hn
    have c := between_walk al ah n (subW ah al false) (mulW (subW ah al false) (btwY n) false) (btwY n) (btwS al ah n) (subE ah al false) (mulE (subW ah al false) (btwY n) false) (addE al (mulW (subW ah al false) (btwY n) false) false)
      _ _ (hasB al ah (btwS al ah n)) w (fun w => run_float_arith w .quo 22 .f64 _ _ _ q1) (Lib.hid fun w => sub_any ah al false w ha la) (Lib.hid fun w => mul_any _ _ false w (subW_lt _ _ _) q2) (Lib.hid fun w => add_any al _ false w la (mulW_lt _ _ _)) (Lib.hid fun w => has_any al ah _ w la ha)
      (by rw [beq_eq_false_iff_ne]; omega) rfl (subE_in _ _ _) (mulE_in _ _ _) (addE_in _ _ _) rfl
    have e : btwW al ah n = if ((((n : Int) == 65535) || (subE ah al false + mulE (subW ah al false) (btwY n) false + addE al (mulW (subW ah al false) (btwY n) false) false != 0)) || !hasB al ah (btwS al ah n)) = true then ah else btwS al ah n := by
      unfold btwW
      rw [if_neg h0]
      congr 1
      rw [Bool.or_eq_true, Bool.or_eq_true, beq_iff_eq, bne_iff_ne, Bool.not_eq_true', eq_iff_iff, or_assoc]
      constructor
      · rintro (h | h | h)
        · exact Or.inl (by omega)
        · exact Or.inr (Or.inl h)
        · exact Or.inr (Or.inr h)
      · rintro (h | h | h)
        · exact Or.inl (by omega)
        · exact Or.inr (Or.inl h)
        · exact Or.inr (Or.inr h)
    rw [e]
    exact c

/-- It is a number of the interval. -/
theorem btw_in (al ah n : Nat) (la : al < 18446744073709551616) (ha : ah < 18446744073709551616) (hr : ivR al ah = true) : btwW al ah n < 18446744073709551616 ∧ rightB (btwW al ah n) = true ∧ val al ≤ val (btwW al ah n) ∧ val (btwW al ah n) ≤ val ah := by
  obtain ⟨r1, r2, r3⟩ := ivR_parts hr
  unfold btwW
  by_cases h0 : n = 0
  · rw [if_pos h0]; exact ⟨la, r1, Int.le_refl _, r3⟩
  · rw [if_neg h0]
    by_cases h : n = 65535 ∨ btwE al ah n ≠ 0 ∨ hasB al ah (btwS al ah n) = false
    · rw [if_pos h]; exact ⟨ha, r2, r3, Int.le_refl _⟩
    · rw [if_neg h]
      have h1 : btwE al ah n = 0 := by
        by_cases h1 : btwE al ah n = 0
        · exact h1
        · exact absurd (Or.inr (Or.inl h1)) h
      have h2 : hasB al ah (btwS al ah n) = true := by
        cases h2 : hasB al ah (btwS al ah n)
        · exact absurd (Or.inr (Or.inr h2)) h
        · rfl
      have l : btwS al ah n < 18446744073709551616 := addW_lt _ _ _
      unfold btwE at h1
      have i1 := subE_in ah al false
      have i2 := mulE_in (subW ah al false) (btwY n) false
      have i3 := addE_in al (mulW (subW ah al false) (btwY n) false) false
      have h3 : addE al (mulW (subW ah al false) (btwY n) false) false = 0 := by omega
      have rb : rightB (mulW (subW ah al false) (btwY n) false) = true := by
        cases rb : rightB (mulW (subW ah al false) (btwY n) false)
        · have e : addE al (mulW (subW ah al false) (btwY n) false) false = 13 := if_neg (by rw [rb, Bool.and_false]; exact Bool.false_ne_true)
          omega
        · rfl
      have r : rightB (btwS al ah n) = true := by
        rcases add_down al _ r1 rb with ⟨_, _, h, _⟩ | ⟨h, _⟩
        · exact h
        · omega
      refine ⟨l, r, ?_⟩
      unfold hasB at h2
      rw [Bool.and_eq_true, Bool.and_eq_true] at h2
      have o1 : rawLe al (btwS al ah n) = leB al (btwS al ah n) := order_le al (btwS al ah n) la l r1 r
      have o2 : rawLe (btwS al ah n) ah = leB (btwS al ah n) ah := order_le (btwS al ah n) ah l ha r r2
      rw [o1, o2] at h2
      unfold leB at h2
      rw [decide_eq_true_eq, decide_eq_true_eq] at h2
      exact ⟨h2.1.2, h2.2⟩

set_option maxRecDepth 100000 in
set_option maxHeartbeats 2000000 in
theorem less1_walk (al ah p q x y lo hi : Nat) (w : World)
    (c1 : Hid (∀ w, Calls Try.prog 41 #[.agg #[.float .f64 al, .float .f64 ah], .int .u16 p] w fun r w' => r = .returned (.float .f64 x) ∧ Below w.heap.size w w'))
    (c2 : Hid (∀ w, Calls Try.prog 41 #[.agg #[.float .f64 al, .float .f64 ah], .int .u16 q] w fun r w' => r = .returned (.float .f64 y) ∧ Below w.heap.size w w'))
    (m1 : Hid (∀ ts t w, (Builtin.min_ ts t #[.float .f64 x, .float .f64 y]).run Try.prog w = .ok (.float .f64 lo) w)) (m2 : Hid (∀ ts t w, (Builtin.max_ ts t #[.float .f64 x, .float .f64 y]).run Try.prog w = .ok (.float .f64 hi) w)) :
    Calls Try.prog 43 #[.agg #[.float .f64 al, .float .f64 ah], .int .u16 p, .int .u16 q] w fun r w' => r = .returned (.agg #[.float .f64 lo, .float .f64 hi]) ∧ Below w.heap.size w w' := by
  have M := Lib.hid (Mem.two w #[.float .f64 al, .float .f64 ah] #[.float .f64 0, .float .f64 0] 39 39)
  go_enter Try.func43, Try.ntmps43
  go_upto_region 1 with fail
  have k1 := (M.out.nth 0 rfl).two.1
  have k2 := (M.out.nth 0 rfl).two.2
  replace M := Lib.hid M.out.drew
  go_region_held3 (fun w' => w'.cell? ⟨w.heap.size, 0, none⟩ = some (.float .f64 al) ∧ w'.cell? ⟨w.heap.size, 1, none⟩ = some (.float .f64 ah)) (go_keep)
    (first
      | (go_at_call 41; (with_reducible refine (c1.out _).mono ?_); rintro rr w5 ⟨rfl, hb⟩; replace M := Lib.hid (M.out.below hb); clear hb; clear k1 k2; have k1 := (M.out.nth 0 rfl).two.1; have k2 := (M.out.nth 0 rfl).two.2)
      | (go_at_call 41; (with_reducible refine (c2.out _).mono ?_); rintro rr w5 ⟨rfl, hb⟩; replace M := Lib.hid (M.out.below hb); clear hb; clear k1 k2; have k1 := (M.out.nth 0 rfl).two.1; have k2 := (M.out.nth 0 rfl).two.2))
  clear k1 k2
  have f1 := m1.out
  have f2 := m2.out
  go_wp2_with fail
  refine (iv_any _ _ _).mono ?_
  rintro r w6 ⟨rfl, hb⟩
  replace M := Lib.hid (M.out.below hb)
  clear hb
  have c3 := (M.out.nth 1 rfl).2.1
  have f3 := (M.out.nth 1 rfl).2.2
  go_wp2
  refine bodyPost_ret (v := .agg #[.float .f64 lo, .float .f64 hi]) (by simp [results, Try.results43, go_sem, c3]) rfl ⟨rfl, ?_⟩
  exact (M.out.base.setCell (by show _ ≤ w.heap.size + 1; omega) _).setCell (by show _ ≤ w.heap.size + 1; omega) _

theorem less1_any (al ah p q : Nat) (w : World) (la : al < 18446744073709551616) (ha : ah < 18446744073709551616) (hp : p < 65536) (hq : q < 65536) (hr : ivR al ah = true) :
    Calls Try.prog 43 #[.agg #[.float .f64 al, .float .f64 ah], .int .u16 p, .int .u16 q] w fun r w' => r = .returned (.agg #[.float .f64 (minW (btwW al ah p) (btwW al ah q)), .float .f64 (maxW (btwW al ah p) (btwW al ah q))]) ∧ Below w.heap.size w w' := by
  obtain ⟨x1, x2, _⟩ := btw_in al ah p la ha hr
  obtain ⟨y1, y2, _⟩ := btw_in al ah q la ha hr
  exact less1_walk al ah p q _ _ _ _ w (Lib.hid fun w => between_any al ah p w la ha hp) (Lib.hid fun w => between_any al ah q w la ha hq) (Lib.hid fun ts t w => (run_less _ _ x1 y1 x2 y2 ts t w).1) (Lib.hid fun ts t w => (run_less _ _ x1 y1 x2 y2 ts t w).2)

end Go.Proofs.Ytddgcdpmnfdpdaa
