
/- Contracts of layer 3: Of, bound, choose and its literal, Half, Split, for every draw and every weight. -/
import Derived.Test.YtddgcdpmnfdpdaaUnitM
import Derived.Test.YtddgcdpmnfdpdaaDirE
import Derived.Test.YtddgcdpmnfdpdaaDivN
import Derived.Test.YtddgcdpmnfdpdaaPut
namespace Go.Proofs.Ytddgcdpmnfdpdaa
open Go.RowKit
attribute [local go_sem] run_store_float

set_option maxRecDepth 100000 in
set_option maxHeartbeats 400000 in
theorem of_walk (u p q lo hi : Nat) (w : World)
    (h1 : ∀ w, (binOp .mul 22 (.float .f64 (floatOfInt .f64 ((u : Int) / 4294967296))) (.float .f64 4463067230724161536)).run Try.prog w = .ok (.float .f64 p) w)
    (h2 : ∀ w, (binOp .mul 22 (.float .f64 (floatOfInt .f64 ((u : Int) % 4294967296))) (.float .f64 4318952042648305664)).run Try.prog w = .ok (.float .f64 q) w)
    (cL : Hid (∀ w, Calls Try.prog 12 #[.float .f64 p, .float .f64 q, .bool false] w fun r w' => r = .returned (.tuple #[.float .f64 lo, .int .i64 0]) ∧ Below w.heap.size w w'))
    (cH : Hid (∀ w, Calls Try.prog 12 #[.float .f64 p, .float .f64 q, .bool true] w fun r w' => r = .returned (.tuple #[.float .f64 hi, .int .i64 0]) ∧ Below w.heap.size w w')) :
    Calls Try.prog 49 #[.int .u64 u] w fun r w' => r = .returned (.agg #[.float .f64 lo, .float .f64 hi]) ∧ Below w.heap.size w w' := by
  go_enter Try.func49, Try.ntmps49
  go_wp2_with fail
  refine (cL.out _).mono ?_
  rintro r w1 ⟨rfl, hb⟩
  obtain ⟨z1, c1, f1, b1⟩ := after1 hb
  have B1 := Lib.hid b1
  clear b1 hb
  go_wp2_with fail
  refine (cH.out _).mono ?_
  rintro r w2 ⟨rfl, hb⟩
  obtain ⟨z2, c2, f2⟩ := keepB hb z1 c1 f1
  have B2 := Lib.hid (B1.out.trans (hb.mono B1.out.size))
  clear z1 c1 f1 B1 hb
  go_wp2
  refine bodyPost_ret (v := .agg #[.float .f64 lo, .float .f64 hi]) (by simp [results, Try.results49, go_sem, c2]) rfl ⟨rfl, ?_⟩
  exact (B2.out.setCell (by show w.heap.size ≤ w.heap.size; omega) _).setCell (by show w.heap.size ≤ w.heap.size; omega) _

theorem of_any (u : Nat) (w : World) (hu : u < 18446744073709551616) :
    Calls Try.prog 49 #[.int .u64 u] w fun r w' => r = .returned (.agg #[.float .f64 (ofLo u), .float .f64 (ofHi u)]) ∧ Below w.heap.size w w' := by
  obtain ⟨p1, p2, _⟩ := part_high u hu
  obtain ⟨q1, q2, _⟩ := part_low u
  obtain ⟨_, _, e1, e2⟩ := of_tight u hu
  exact of_walk u _ _ _ _ w (fun w => run_float_arith w .mul 22 .f64 _ _ _ p1) (fun w => run_float_arith w .mul 22 .f64 _ _ _ q1)
    (Lib.hid (fun w => add_lit _ _ _ 0 false w (by omega) (by omega) rfl e1)) (Lib.hid (fun w => add_lit _ _ _ 0 true w (by omega) (by omega) rfl e2))

/-- The function literal: below, u: what it captured. -/
theorem side_full (below : Bool) (u : Nat) (first : Int) (pb pu : Nat) (w : World) (hb : w.cell? ⟨pb, 0, none⟩ = some (.bool below)) (hu : w.cell? ⟨pu, 0, none⟩ = some (.int .u64 u)) :
    Calls Try.prog 133 #[.int .u64 first, .int .u64 0, .pointer (some ⟨pb, 0, none⟩), .pointer (some ⟨pu, 0, none⟩)] w fun r w' => r = .returned (.tuple #[.bool below, .int .u64 u]) ∧ Below w.heap.size w w' := by
  go_enter Try.func133, Try.ntmps133
  go_wp2
  go_quiet (fail)
  go_wp2
  go_ret2
  exact ⟨rfl, Below.drewN (Below.refl _ _) _⟩

theorem side_part (below : Bool) (u first size : Nat) (pb pu : Nat) (w : World) (hb : w.cell? ⟨pb, 0, none⟩ = some (.bool below)) (hu : w.cell? ⟨pu, 0, none⟩ = some (.int .u64 u)) (h1 : first ≤ u) (h2 : u - first < size) (h3 : size < 18446744073709551616) (h4 : u < 18446744073709551616) :
    Calls Try.prog 133 #[.int .u64 first, .int .u64 size, .pointer (some ⟨pb, 0, none⟩), .pointer (some ⟨pu, 0, none⟩)] w fun r w' => r = .returned (.tuple #[.bool below, .int .u64 (((u - first) * 18446744073709551616 / size : Nat) : Int)]) ∧ Below w.heap.size w w' := by
  have hz : ((size : Int) == 0) = false := by rw [beq_eq_false_iff_ne]; omega
  have hs : IntKind.u64.wrap ((u : Int) - first) = ((u - first : Nat) : Int) := sub_le_word _ _ h1 h4
  have c := div64_any (u - first) 0 size w h2 (by decide) h3
  rw [Nat.add_zero] at c
  have C := Lib.hid c
  clear c h1 h2 h3 h4
  go_enter Try.func133, Try.ntmps133
  go_wp2_with fail
  refine C.out.mono ?_
  rintro r w1 ⟨rfl, m, rfl⟩
  go_wp2
  go_ret2
  exact ⟨rfl, Below.drewN (Below.refl _ _) _⟩

theorem choose_low (u : Nat) (b left : Int) (w : World)
    (c : Hid (∀ w pb pu, w.cell? ⟨pb, 0, none⟩ = some (.bool true) → w.cell? ⟨pu, 0, none⟩ = some (.int .u64 u) → Calls Try.prog 133 #[.int .u64 0, .int .u64 b, .pointer (some ⟨pb, 0, none⟩), .pointer (some ⟨pu, 0, none⟩)] w fun r w' => r = .returned (.tuple #[.bool true, .int .u64 left]) ∧ Below w.heap.size w w')) :
    Calls Try.prog 95 #[.int .u64 u, .bool true, .int .u64 b] w fun r w' => r = .returned (.tuple #[.bool true, .int .u64 left]) ∧ Below w.heap.size w w' := by
  go_enter Try.func95, Try.ntmps95
  go_wp2_with fail
  refine (c.out _ _ _ (World.cell?_alloc_at _ _ _ _ (by simp)) ?_).mono ?_
  · exact (World.cell?_alloc_past _ _ _ (by simp)).trans (World.cell?_alloc_at _ _ _ _ rfl)
  rintro r w1 ⟨rfl, hb⟩
  have B1 := Lib.hid ((bel2 w _ _).trans (hb.mono (by simp; omega)))
  clear hb
  go_wp2
  go_ret2
  exact ⟨rfl, B1.out⟩

theorem choose_high (u : Nat) (b s left : Int) (w : World) (hs : IntKind.u64.wrap (-b) = s)
    (c : Hid (∀ w pb pu, w.cell? ⟨pb, 0, none⟩ = some (.bool false) → w.cell? ⟨pu, 0, none⟩ = some (.int .u64 u) → Calls Try.prog 133 #[.int .u64 b, .int .u64 s, .pointer (some ⟨pb, 0, none⟩), .pointer (some ⟨pu, 0, none⟩)] w fun r w' => r = .returned (.tuple #[.bool false, .int .u64 left]) ∧ Below w.heap.size w w')) :
    Calls Try.prog 95 #[.int .u64 u, .bool false, .int .u64 b] w fun r w' => r = .returned (.tuple #[.bool false, .int .u64 left]) ∧ Below w.heap.size w w' := by
  go_enter Try.func95, Try.ntmps95
  go_wp2_with fail
  refine (c.out _ _ _ (World.cell?_alloc_at _ _ _ _ (by simp)) ?_).mono ?_
  · exact (World.cell?_alloc_past _ _ _ (by simp)).trans (World.cell?_alloc_at _ _ _ _ rfl)
  rintro r w1 ⟨rfl, hb⟩
  have B1 := Lib.hid ((bel2 w _ _).trans (hb.mono (by simp; omega)))
  clear hb
  go_wp2
  go_ret2
  exact ⟨rfl, B1.out⟩

theorem bound_whole (v x : Nat) (w : World) (cM : Hid (∀ w, Calls Try.prog 14 #[.float .f64 v, .float .f64 4895412794951729152, .bool false] w fun r w' => r = .returned (.tuple #[.float .f64 x, .int .i64 0]) ∧ Below w.heap.size w w'))
    (o : (FloatKind.f64.format.order x 4895412794951729152 == some Ordering.eq) = true) :
    Calls Try.prog 96 #[.float .f64 v] w fun r w' => r = .returned (.tuple #[.int .u64 0, .bool true]) ∧ Below w.heap.size w w' := by
  go_enter Try.func96, Try.ntmps96
  go_wp2_with fail
  refine (cM.out _).mono ?_
  rintro r w1 ⟨rfl, hb⟩
  have B1 := Lib.hid hb
  clear hb
  go_wp2
  go_ret2
  exact ⟨rfl, B1.out⟩

theorem bound_part (v x b : Nat) (w : World) (cM : Hid (∀ w, Calls Try.prog 14 #[.float .f64 v, .float .f64 4895412794951729152, .bool false] w fun r w' => r = .returned (.tuple #[.float .f64 x, .int .i64 0]) ∧ Below w.heap.size w w'))
    (o : (FloatKind.f64.format.order x 4895412794951729152 == some Ordering.eq) = false) (hc : ∀ w, (convert 22 58 (.float .f64 x)).run Try.prog w = .ok (.int .u64 b) w) :
    Calls Try.prog 96 #[.float .f64 v] w fun r w' => r = .returned (.tuple #[.int .u64 b, .bool false]) ∧ Below w.heap.size w w' := by
  go_enter Try.func96, Try.ntmps96
  go_wp2_with fail
  refine (cM.out _).mono ?_
  rintro r w1 ⟨rfl, hb⟩
  have B1 := Lib.hid hb
  clear hb
  go_wp2
  go_ret2
  exact ⟨rfl, B1.out⟩

theorem half_low (u : Nat) (left : Int) (w : World) (h : decide (u < 9223372036854775808) = true)
    (c : Hid (∀ w, Calls Try.prog 95 #[.int .u64 u, .bool true, .int .u64 9223372036854775808] w fun r w' => r = .returned (.tuple #[.bool true, .int .u64 left]) ∧ Below w.heap.size w w')) :
    Calls Try.prog 45 #[.int .u64 u] w fun r w' => r = .returned (.tuple #[.bool true, .int .u64 left]) ∧ Below w.heap.size w w' := by
  have h' : decide ((u : Int) < 9223372036854775808) = true := by rw [decide_eq_true_eq] at h ⊢; omega
  go_enter Try.func45, Try.ntmps45
  go_wp2_with fail
  refine (c.out _).mono ?_
  rintro r w1 ⟨rfl, hb⟩
  have B1 := Lib.hid hb
  clear hb
  go_wp2
  go_ret2
  exact ⟨rfl, B1.out⟩

theorem half_high (u : Nat) (left : Int) (w : World) (h : decide (u < 9223372036854775808) = false)
    (c : Hid (∀ w, Calls Try.prog 95 #[.int .u64 u, .bool false, .int .u64 9223372036854775808] w fun r w' => r = .returned (.tuple #[.bool false, .int .u64 left]) ∧ Below w.heap.size w w')) :
    Calls Try.prog 45 #[.int .u64 u] w fun r w' => r = .returned (.tuple #[.bool false, .int .u64 left]) ∧ Below w.heap.size w w' := by
  have h' : decide ((u : Int) < 9223372036854775808) = false := by rw [decide_eq_false_iff_not] at h ⊢; omega
  go_enter Try.func45, Try.ntmps45
  go_wp2_with fail
  refine (c.out _).mono ?_
  rintro r w1 ⟨rfl, hb⟩
  have B1 := Lib.hid hb
  clear hb
  go_wp2
  go_ret2
  exact ⟨rfl, B1.out⟩

/-- A weight that is none: r: is it a number; l, g: is it below 0, above 1. -/
theorem split_wrong (u v : Nat) (r l g : Bool) (w : World) (cR : Hid (∀ w, Calls Try.prog 25 #[.float .f64 v] w fun e w' => e = .returned (.bool r) ∧ w = w'))
    (o1 : (FloatKind.f64.format.order v 0 == some Ordering.lt) = l) (o2 : (FloatKind.f64.format.order v 4607182418800017408 == some Ordering.gt) = g) (h : Hid (r = false ∨ l = true ∨ g = true)) :
    Calls Try.prog 47 #[.int .u64 u, .float .f64 v] w fun r w' => r = .returned (.tuple #[.bool false, .int .u64 0, .int .i64 2]) ∧ Below w.heap.size w w' := by
  go_enter Try.func47, Try.ntmps47
  go_wp2_with fail
  refine (cR.out _).mono ?_
  rintro e ww ⟨rfl, rfl⟩
  cases r
  · go_wp2
    go_ret3
    exact ⟨rfl, Below.refl _ _⟩
  · cases l
    · have hg : g = true := by rcases h.out with h | h | h <;> first | exact h | cases h
      subst hg
      go_wp2
      go_ret3
      exact ⟨rfl, Below.refl _ _⟩
    · go_wp2
      go_ret3
      exact ⟨rfl, Below.refl _ _⟩

/-- A weight: b, all: its bound; below, left: what choose answers. -/
theorem split_walk (u v b : Nat) (left : Int) (all below : Bool) (w : World) (cR : Hid (∀ w, Calls Try.prog 25 #[.float .f64 v] w fun e w' => e = .returned (.bool true) ∧ w = w'))
    (o1 : (FloatKind.f64.format.order v 0 == some Ordering.lt) = false) (o2 : (FloatKind.f64.format.order v 4607182418800017408 == some Ordering.gt) = false)
    (cB : Hid (∀ w, Calls Try.prog 96 #[.float .f64 v] w fun r w' => r = .returned (.tuple #[.int .u64 b, .bool all]) ∧ Below w.heap.size w w'))
    (cC : Hid (∀ w, Calls Try.prog 95 #[.int .u64 u, .bool below, .int .u64 b] w fun r w' => r = .returned (.tuple #[.bool below, .int .u64 left]) ∧ Below w.heap.size w w'))
    (h : Hid (all = true ∧ below = true ∨ all = false ∧ decide (u < b) = below)) :
    Calls Try.prog 47 #[.int .u64 u, .float .f64 v] w fun r w' => r = .returned (.tuple #[.bool below, .int .u64 left, .int .i64 0]) ∧ Below w.heap.size w w' := by
  go_enter Try.func47, Try.ntmps47
  go_wp2_with fail
  refine (cR.out _).mono ?_
  rintro e ww ⟨rfl, rfl⟩
  go_wp2_with fail
  refine (cB.out _).mono ?_
  rintro r w1 ⟨rfl, hb⟩
  have B1 := Lib.hid hb
  clear hb
  rcases h.out with ⟨rfl, rfl⟩ | ⟨rfl, hd⟩
  all_goals
    go_wp2_with fail
    refine (cC.out _).mono ?_
    rintro r w2 ⟨rfl, hb⟩
    have B2 := Lib.hid (B1.out.trans (hb.mono B1.out.size))
    clear hb B1
    go_wp2
    go_ret3
    exact ⟨rfl, B2.out⟩

end Go.Proofs.Ytddgcdpmnfdpdaa
