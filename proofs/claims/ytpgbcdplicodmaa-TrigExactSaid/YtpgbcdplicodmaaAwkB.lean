
/- Law file 2: its function awake answers true. -/
import Derived.Test.YtpgbcdplicodmaaAwk
import Derived.Deep.RegionHeld3
namespace Go.Proofs.Ytpgbcdplicodmaa
open Go.RowKit
attribute [local go_sem] run_store_float

theorem pi_down (w : World) : Calls Try.prog 49 #[.float .f64 4843940237547941144, .int .i64 (-51)] w fun r w' => r = .returned (.float .f64 4614256656552045848) ∧ w = w' :=
  ldexp_at 4843940237547941144 2570638124657944 4611686018427387904 4614256656552045848 4614256656552045848 (-51) 1075 1 w (by decide +kernel) (by decide +kernel) (by decide +kernel) (by decide +kernel) (by decide +kernel) (by decide) (by decide) (by decide) (by decide +kernel) (by decide) (by decide) (by decide) (by decide) (by decide) (by decide +kernel) (by decide +kernel) (by decide +kernel) (by decide +kernel)
theorem pi_up (w : World) : Calls Try.prog 49 #[.float .f64 4843940237547941145, .int .i64 (-51)] w fun r w' => r = .returned (.float .f64 4614256656552045849) ∧ w = w' :=
  ldexp_at 4843940237547941145 2570638124657945 4611686018427387904 4614256656552045849 4614256656552045849 (-51) 1075 1 w (by decide +kernel) (by decide +kernel) (by decide +kernel) (by decide +kernel) (by decide +kernel) (by decide) (by decide) (by decide) (by decide +kernel) (by decide) (by decide) (by decide) (by decide) (by decide) (by decide +kernel) (by decide +kernel) (by decide +kernel) (by decide +kernel)

set_option maxRecDepth 100000 in
theorem isNaN_num (a : Nat) (h : (FloatKind.f64.format.order a a != some Ordering.eq) = false) (w : World) : Calls Try.prog 78 #[.float .f64 a] w fun r w' => r = .returned (.bool false) ∧ w = w' := by
  go_enter Try.func78, Try.ntmps78
  go_wp2
  go_ret
  exact ⟨by rw [← h]; rfl, rfl⟩

set_option maxRecDepth 100000 in
set_option maxHeartbeats 400000 in
theorem next_third (w : World) : Calls Try.prog 76 #[.float .f64 4599676419421066581, .float .f64 4607182418800017408] w fun r w' => r = .returned (.float .f64 4599676419421066582) ∧ w = w' := by
  have c1 := Lib.hid (fun w => isNaN_num 4599676419421066581 (by decide +kernel) w)
  have c2 := Lib.hid (fun w => isNaN_num 4607182418800017408 (by decide +kernel) w)
  obtain ⟨a, ha⟩ : ∃ a, a = 4599676419421066581 := ⟨_, rfl⟩
  obtain ⟨b, hb⟩ : ∃ b, b = 4607182418800017408 := ⟨_, rfl⟩
  have o1 : (FloatKind.f64.format.order a b == some Ordering.eq) = false := by rw [ha, hb]; decide +kernel
  have o2 : (FloatKind.f64.format.order a 0 == some Ordering.eq) = false := by rw [ha]; decide +kernel
  have o3 : (FloatKind.f64.format.order b a == some Ordering.gt) = true := by rw [ha, hb]; decide +kernel
  have o4 : (FloatKind.f64.format.order a 0 == some Ordering.gt) = true := by rw [ha]; decide +kernel
  have o5 : IntKind.u64.wrap ((a : Int) + 1) = 4599676419421066582 := by rw [ha]; decide +kernel
  have h1 := run_bits
  have h2 := run_frombits
  rw [← ha] at c1
  rw [← hb] at c2
  rw [← ha, ← hb]
  clear ha hb
  go_enter Try.func76, Try.ntmps76
  go_wp2_with fail
  refine (c1.out _).mono ?_
  rintro r w1 ⟨rfl, rfl⟩
  go_wp2_with fail
  refine (c2.out _).mono ?_
  rintro r w1 ⟨rfl, rfl⟩
  go_wp2
  go_ret
  exact ⟨rfl, rfl⟩

theorem Has1.set2 {v : World} {b : Nat} {x y : Value} (h : Has1 v (b, #[x, y])) (x' y' : Value) : Has1 ((v.setCell ⟨b, 0, none⟩ x').setCell ⟨b, 1, none⟩ y') (b, #[x', y']) := ⟨by rw [size_set, size_set]; exact h.1, put2 h.2.1 _ _, fun i => by rw [frozen_set, frozen_set]; exact h.2.2 i⟩
theorem Mem.sets {B v : World} {l : List (Nat × Array Value)} {q : Nat} {x y : Value} (h : Mem B l v) (hx : Has1 v (q, #[x, y])) (x' y' : Value) (hB : B.heap.size ≤ q) (k : List (Nat × Array Value)) (hk : ∀ p, p ∈ k → p = (q, #[x', y']) ∨ p ∈ l ∧ q ≠ p.1) : Mem B k ((v.setCell ⟨q, 0, none⟩ x').setCell ⟨q, 1, none⟩ y') :=
  ⟨(h.base.setCell hB _).setCell hB _, fun p hp => by
    rcases hk p hp with e | ⟨e, e'⟩
    · rw [e]; exact hx.set2 _ _
    · exact ((h.blocks p e).set e').set e'⟩
/-- Behind the quotient by what has 0. -/
def AwCut (w : World) (m : Nat) (p : Value) (wx : World) : Prop :=
  ∃ q, p = .pointer (some ⟨q, 0, none⟩) ∧ m < q ∧ Mem w [(w.heap.size, #[.int .i64 0]), (w.heap.size + 1, #[.int .i64 11]), (m, #[.float .f64 4607182418800017408, .float .f64 4607182418800017408]), (q, #[.float .f64 0, .float .f64 0])] wx

/-- What the walk reads of a block of two. -/
theorem Has1.two {v : World} {b : Nat} {x y : Value} (h : Has1 v (b, #[x, y])) : v.cell? ⟨b, 0, none⟩ = some x ∧ v.cell? ⟨b, 1, none⟩ = some y := ⟨h.2.1 0, h.2.1 1⟩
theorem Has1.pc {v : World} {b : Nat} {x : Value} (h : Has1 v (b, #[x])) : v.cell? ⟨b, 0, none⟩ = some x := h.2.1 0
theorem Has1.pf {v : World} {p : Nat × Array Value} (h : Has1 v p) : v.frozen? ⟨p.1, 0, none⟩ = false := h.2.2 0

theorem l_num1 (pb : Nat) (w : World) (hc : w.cell? ⟨pb, 0, none⟩ = some (.int .i64 0)) (hf : w.frozen? ⟨pb, 0, none⟩ = false) :
    Calls Try.prog 52 #[.pointer (some ⟨pb, 0, none⟩), .float .f64 4607182418800017408] w fun r w' => r = .returned (.agg #[.float .f64 4607182418800017408, .float .f64 4607182418800017408]) ∧ Put ⟨pb, 0, none⟩ (.int .i64 0) w w' := by
  have h := (cNum_any 0 4607182418800017408 pb 0 w (by decide) hc hf)
  rw [x_num1] at h
  exact h

theorem l_num3 (pb : Nat) (w : World) (hc : w.cell? ⟨pb, 0, none⟩ = some (.int .i64 0)) (hf : w.frozen? ⟨pb, 0, none⟩ = false) :
    Calls Try.prog 52 #[.pointer (some ⟨pb, 0, none⟩), .float .f64 4613937818241073152] w fun r w' => r = .returned (.agg #[.float .f64 4613937818241073152, .float .f64 4613937818241073152]) ∧ Put ⟨pb, 0, none⟩ (.int .i64 0) w w' := by
  have h := (cNum_any 0 4613937818241073152 pb 0 w (by decide) hc hf)
  rw [x_num3] at h
  exact h

theorem l_div (pb : Nat) (w : World) (hc : w.cell? ⟨pb, 0, none⟩ = some (.int .i64 0)) (hf : w.frozen? ⟨pb, 0, none⟩ = false) :
    Calls Try.prog 56 #[.pointer (some ⟨pb, 0, none⟩), .agg #[.float .f64 4607182418800017408, .float .f64 4607182418800017408], .agg #[.float .f64 4613937818241073152, .float .f64 4613937818241073152]] w fun r w' => r = .returned (.agg #[.float .f64 4599676419421066581, .float .f64 4599676419421066582]) ∧ Put ⟨pb, 0, none⟩ (.int .i64 0) w w' := by
  have h := (cDiv_any 0 4607182418800017408 4607182418800017408 4613937818241073152 4613937818241073152 pb 0 w (by decide) (by decide) (by decide) (by decide) hc hf)
  rw [x_div] at h
  exact h

theorem l_add (pb : Nat) (w : World) (hc : w.cell? ⟨pb, 0, none⟩ = some (.int .i64 0)) (hf : w.frozen? ⟨pb, 0, none⟩ = false) :
    Calls Try.prog 44 #[.pointer (some ⟨pb, 0, none⟩), .agg #[.float .f64 4607182418800017408, .float .f64 4611686018427387904], .agg #[.float .f64 4613937818241073152, .float .f64 4616189618054758400]] w fun r w' => r = .returned (.agg #[.float .f64 4616189618054758400, .float .f64 4618441417868443648]) ∧ Put ⟨pb, 0, none⟩ (.int .i64 0) w w' := by
  have h := (cAdd_any 0 4607182418800017408 4611686018427387904 4613937818241073152 4616189618054758400 pb 0 w (by decide) (by decide) (by decide) (by decide) hc hf)
  rw [x_add] at h
  exact h

theorem l_mul (pb : Nat) (w : World) (hc : w.cell? ⟨pb, 0, none⟩ = some (.int .i64 0)) (hf : w.frozen? ⟨pb, 0, none⟩ = false) :
    Calls Try.prog 53 #[.pointer (some ⟨pb, 0, none⟩), .agg #[.float .f64 13830554455654793216, .float .f64 4611686018427387904], .agg #[.float .f64 13837309855095848960, .float .f64 4616189618054758400]] w fun r w' => r = .returned (.agg #[.float .f64 13841813454723219456, .float .f64 4620693217682128896]) ∧ Put ⟨pb, 0, none⟩ (.int .i64 0) w w' := by
  have h := (cMul_any 0 13830554455654793216 4611686018427387904 13837309855095848960 4616189618054758400 pb 0 w (by decide) (by decide) (by decide) (by decide) hc hf)
  rw [x_mul] at h
  exact h

theorem l_sqr (pb : Nat) (w : World) (hc : w.cell? ⟨pb, 0, none⟩ = some (.int .i64 0)) (hf : w.frozen? ⟨pb, 0, none⟩ = false) :
    Calls Try.prog 45 #[.pointer (some ⟨pb, 0, none⟩), .agg #[.float .f64 13835058055282163712, .float .f64 4607182418800017408]] w fun r w' => r = .returned (.agg #[.float .f64 0, .float .f64 4616189618054758400]) ∧ Put ⟨pb, 0, none⟩ (.int .i64 0) w w' := by
  have h := (cSqr_any 0 13835058055282163712 4607182418800017408 pb 0 w (by decide) (by decide) hc hf)
  rw [x_sqr] at h
  exact h

theorem l_div0 (pb : Nat) (w : World) (hc : w.cell? ⟨pb, 0, none⟩ = some (.int .i64 0)) (hf : w.frozen? ⟨pb, 0, none⟩ = false) :
    Calls Try.prog 56 #[.pointer (some ⟨pb, 0, none⟩), .agg #[.float .f64 4607182418800017408, .float .f64 4607182418800017408], .agg #[.float .f64 13830554455654793216, .float .f64 4607182418800017408]] w fun r w' => r = .returned (.agg #[.float .f64 0, .float .f64 0]) ∧ Put ⟨pb, 0, none⟩ (.int .i64 11) w w' := by
  have h := (cDiv_any 0 4607182418800017408 4607182418800017408 13830554455654793216 4607182418800017408 pb 0 w (by decide) (by decide) (by decide) (by decide) hc hf)
  rw [x_div0] at h
  exact h

theorem l_then (pb : Nat) (w : World) (hc : w.cell? ⟨pb, 0, none⟩ = some (.int .i64 11)) (hf : w.frozen? ⟨pb, 0, none⟩ = false) :
    Calls Try.prog 44 #[.pointer (some ⟨pb, 0, none⟩), .agg #[.float .f64 4607182418800017408, .float .f64 4607182418800017408], .agg #[.float .f64 4607182418800017408, .float .f64 4607182418800017408]] w fun r w' => r = .returned (.agg #[.float .f64 0, .float .f64 0]) ∧ Put ⟨pb, 0, none⟩ (.int .i64 11) w w' := by
  have h := (cAdd_any 11 4607182418800017408 4607182418800017408 4607182418800017408 4607182418800017408 pb 0 w (by decide) (by decide) (by decide) (by decide) hc hf)
  rw [x_then] at h
  exact h

theorem l_has (w : World) : Calls Try.prog 46 #[.agg #[.float .f64 4599676419421066581, .float .f64 4599676419421066582], .float .f64 4599676419421066581] w fun r w' => r = .returned (.bool true) ∧ Below w.heap.size w w' := by
  have h := has_any 4599676419421066581 4599676419421066582 4599676419421066581 w (by decide) (by decide)
  rw [x_has] at h
  exact h
theorem l_same (a b : Nat) (w : World) : Calls Try.prog 38 #[.agg #[.float .f64 a, .float .f64 b], .agg #[.float .f64 a, .float .f64 b]] w fun r w' => r = .returned (.bool true) ∧ Below w.heap.size w w' := by
  have h := ivSame_any a b a b w
  rw [show sameB a b a b = true by unfold sameB; simp] at h
  exact h
theorem l_meet1 (w : World) : Calls Try.prog 89 #[.agg #[.float .f64 0, .float .f64 4611686018427387904], .agg #[.float .f64 4607182418800017408, .float .f64 4613937818241073152]] w fun r w' => r = .returned (.tuple #[.agg #[.float .f64 4607182418800017408, .float .f64 4611686018427387904], .bool true]) ∧ Below w.heap.size w w' := by
  have h := meet_any 0 4611686018427387904 4607182418800017408 4613937818241073152 w (by decide) (by decide) (by decide) (by decide) (by decide) (by decide) (by decide) (by decide)
  rw [x_meet1.1, x_meet1.2.1, x_meet1.2.2] at h
  exact h
theorem l_meet2 (w : World) : Calls Try.prog 89 #[.agg #[.float .f64 0, .float .f64 4607182418800017408], .agg #[.float .f64 4611686018427387904, .float .f64 4613937818241073152]] w fun r w' => r = .returned (.tuple #[.agg #[.float .f64 0, .float .f64 0], .bool false]) ∧ Below w.heap.size w w' := by
  have h := meet_any 0 4607182418800017408 4611686018427387904 4613937818241073152 w (by decide) (by decide) (by decide) (by decide) (by decide) (by decide) (by decide) (by decide)
  rw [x_meet2.1, x_meet2.2.1, x_meet2.2.2] at h
  exact h

set_option maxRecDepth 100000 in
set_option maxHeartbeats 8000000 in
theorem awake2_any (w : World) :
    Calls Try.prog 35 #[] w fun r w' => r = .returned (.bool true) ∧ Below w.heap.size w w' := by
  have M := Lib.hid (Mem.two w #[.int .i64 0] #[.int .i64 0] 45 45)
  have o1 : (FloatKind.f64.format.order 4599676419421066581 4599676419421066582 == some Ordering.lt) = true := by decide +kernel
  have o2 : (FloatKind.f64.format.order 4599676419421066582 4599676419421066582 == some Ordering.eq) = true := by decide +kernel
  have O1 := Lib.hid o1
  have O2 := Lib.hid o2
  clear o1 o2
  go_enter Try.func35, Try.ntmps35
  go_wp2_with fail
  refine (l_num1 _ _ (M.out.nth 0 rfl).pc (M.out.nth 0 rfl).pf).mono ?_
  rintro r w1 ⟨rfl, hp⟩
  replace M := Lib.hid (M.out.put hp (Nat.le_refl _) (by simp))
  clear hp
  go_wp2_with fail
  refine (l_num3 _ _ (M.out.nth 0 rfl).pc (M.out.nth 0 rfl).pf).mono ?_
  rintro r w2 ⟨rfl, hp⟩
  replace M := Lib.hid (M.out.put hp (Nat.le_refl _) (by simp))
  have z1 : w.heap.size + 1 < w2.heap.size := M.out.size 1 rfl
  clear hp
  replace M : Hid (Mem w [(w.heap.size, #[.int .i64 0]), (w.heap.size + 1, #[.int .i64 0]), (w2.heap.size, #[.float .f64 4607182418800017408, .float .f64 4607182418800017408])] ((w2.alloc (.cells #[.float .f64 4607182418800017408, .float .f64 4607182418800017408] 39)).alloc (.cells #[.float .f64 4613937818241073152, .float .f64 4613937818241073152] 39))) := Lib.hid (((M.out.made _ _).below (bel1 _ _)).sub (by simp))
  go_wp2_with fail
  refine (l_div _ _ (M.out.nth 0 rfl).pc (M.out.nth 0 rfl).pf).mono ?_
  rintro r w3 ⟨rfl, hp⟩
  replace M := Lib.hid (M.out.put hp (Nat.le_refl _) (by simp; omega))
  have z2 : w2.heap.size < w3.heap.size := M.out.size 2 rfl
  clear hp
  replace M : Hid (Mem w [(w.heap.size, #[.int .i64 0]), (w.heap.size + 1, #[.int .i64 0]), (w2.heap.size, #[.float .f64 4607182418800017408, .float .f64 4607182418800017408]), (w3.heap.size, #[.float .f64 4599676419421066581, .float .f64 4599676419421066582])] (w3.alloc (.cells #[.float .f64 4599676419421066581, .float .f64 4599676419421066582] 39))) := Lib.hid ((M.out.made _ _).sub (by simp))
  go_upto_region 4 with fail
  have k1 := (M.out.nth 3 rfl).two.1
  have k2 := (M.out.nth 3 rfl).two.2
  replace M := Lib.hid M.out.drew
  have o1 := O1.out
  have o2 := O2.out
  go_region_held3 (fun w' => w'.cell? ⟨w3.heap.size, 0, none⟩ = some (.float .f64 4599676419421066581) ∧ w'.cell? ⟨w3.heap.size, 1, none⟩ = some (.float .f64 4599676419421066582)) (go_keep)
    (first
      | (go_at_call 88; refine (iv_any _ _ _).mono ?_; rintro rr w5 ⟨rfl, hb⟩; replace M := Lib.hid (M.out.below hb); clear hb; clear k1 k2; have k1 := (M.out.nth 3 rfl).two.1; have k2 := (M.out.nth 3 rfl).two.2)
      | (go_at_call 38; refine (l_same _ _ _).mono ?_; rintro rr w5 ⟨rfl, hb⟩; replace M := Lib.hid (M.out.below hb); clear hb; clear k1 k2; have k1 := (M.out.nth 3 rfl).two.1; have k2 := (M.out.nth 3 rfl).two.2)
      | (go_at_call 46; refine (l_has _).mono ?_; rintro rr w5 ⟨rfl, hb⟩; replace M := Lib.hid (M.out.below hb); clear hb; clear k1 k2; have k1 := (M.out.nth 3 rfl).two.1; have k2 := (M.out.nth 3 rfl).two.2)
      | (go_at_call 44; refine (l_add _ _ (M.out.nth 0 rfl).pc (M.out.nth 0 rfl).pf).mono ?_; rintro rr w5 ⟨rfl, hp⟩; replace M := Lib.hid (M.out.put hp (Nat.le_refl _) (by simp; omega)); clear hp; clear k1 k2; have k1 := (M.out.nth 3 rfl).two.1; have k2 := (M.out.nth 3 rfl).two.2)
      | (go_at_call 53; refine (l_mul _ _ (M.out.nth 0 rfl).pc (M.out.nth 0 rfl).pf).mono ?_; rintro rr w5 ⟨rfl, hp⟩; replace M := Lib.hid (M.out.put hp (Nat.le_refl _) (by simp; omega)); clear hp; clear k1 k2; have k1 := (M.out.nth 3 rfl).two.1; have k2 := (M.out.nth 3 rfl).two.2)
      | (go_at_call 45; refine (l_sqr _ _ (M.out.nth 0 rfl).pc (M.out.nth 0 rfl).pf).mono ?_; rintro rr w5 ⟨rfl, hp⟩; replace M := Lib.hid (M.out.put hp (Nat.le_refl _) (by simp; omega)); clear hp; clear k1 k2; have k1 := (M.out.nth 3 rfl).two.1; have k2 := (M.out.nth 3 rfl).two.2)
      | (go_at_call 76; refine (next_third _).mono ?_; rintro rr w5 ⟨rfl, rfl⟩))
  clear k1 k2 o1 o2
  go_upto_region 5 with fail
  go_cut [7] (AwCut w w2.heap.size)
  case first =>
    have M0 := M
    have k1 := (M.out.nth 2 rfl).two.1
    have k2 := (M.out.nth 2 rfl).two.2
    have z3 := M.out.size 2 rfl
    replace M := Lib.hid M.out.drew
    have T0 : Hid True := trivial
    have n1 : ¬ w5.heap.size = w2.heap.size := by have : w2.heap.size < w5.heap.size := z3; omega
    go_region_held3 (fun w' => w'.cell? ⟨w2.heap.size, 0, none⟩ = some (.float .f64 4607182418800017408) ∧ w'.cell? ⟨w2.heap.size, 1, none⟩ = some (.float .f64 4607182418800017408)) (go_keep)
      (first
        | (go_at_call 88; have _t := T0; refine (iv_any _ _ _).mono ?_; rintro rr w6 ⟨rfl, hb⟩; (with_reducible have M' := Lib.hid (M.out.below hb)); clear M hb M0; have M := M'; clear M'; clear k1 k2; have k1 := (M.out.nth 2 rfl).two.1; have k2 := (M.out.nth 2 rfl).two.2)
        | (go_at_call 88; have _t := T0; refine (iv_any _ _ _).mono ?_; rintro rr w6 ⟨rfl, hb⟩; (with_reducible have M' := Lib.hid (((M0.out.made _ _).drew).below hb)); clear M hb T0 _t; have M := M'; clear M'; clear k1 k2; have k1 := (M.out.nth 3 rfl).two.1; have k2 := (M.out.nth 3 rfl).two.2; have q0 := (M.out.nth 0 rfl).two.1; have q1 := (M.out.nth 0 rfl).two.2; have qf := (M.out.nth 0 rfl).2.2; have T1 : Hid True := trivial)
        | (go_at_call 56; have _t := T0; (with_reducible refine (l_div0 _ _ (M.out.nth 1 rfl).pc (M.out.nth 1 rfl).pf).mono ?_); rintro rr w7 ⟨rfl, hp⟩; replace M := Lib.hid (M.out.puts (M.out.nth 1 rfl) hp (by omega) [(w.heap.size, #[.int .i64 0]), (w.heap.size + 1, #[.int .i64 11]), (w2.heap.size, #[.float .f64 4607182418800017408, .float .f64 4607182418800017408])] (by simp; omega)); clear hp; clear k1 k2; have k1 := (M.out.nth 2 rfl).two.1; have k2 := (M.out.nth 2 rfl).two.2)
        | (go_at_call 56; have _t := T0; (with_reducible refine (l_div0 _ _ ((M.out.made _ _).nth 2 rfl).pc ((M.out.made _ _).nth 2 rfl).pf).mono ?_); rintro rr w7 ⟨rfl, hp⟩; have hm : w2.heap.size < w6.heap.size := M.out.size 2 rfl; have n2 : ¬ w6.heap.size = w2.heap.size := (by omega); replace M := Lib.hid ((M.out.made _ _).puts ((M.out.made _ _).nth 2 rfl) hp (by omega) ([(w.heap.size, #[.int .i64 0]), (w.heap.size + 1, #[.int .i64 11]), (w2.heap.size, #[.float .f64 4607182418800017408, .float .f64 4607182418800017408])] ++ [(w6.heap.size, #[.float .f64 0, .float .f64 0])]) (by simp; omega)); clear hp T0 _t; clear k1 k2; have k1 := (M.out.nth 2 rfl).two.1; have k2 := (M.out.nth 2 rfl).two.2; have q0 := (M.out.nth 3 rfl).two.1; have q1 := (M.out.nth 3 rfl).two.2; have qf := (M.out.nth 3 rfl).2.2)
        | (go_at_call 56; have _t := T1; (with_reducible refine (l_div0 _ _ (M.out.nth 2 rfl).pc (M.out.nth 2 rfl).pf).mono ?_); rintro rr w7 ⟨rfl, hp⟩; have hm : w2.heap.size < w5.heap.size := M0.out.size 2 rfl; replace M := Lib.hid (M.out.puts (M.out.nth 2 rfl) hp (by omega) ([(w.heap.size, #[.int .i64 0]), (w.heap.size + 1, #[.int .i64 11]), (w2.heap.size, #[.float .f64 4607182418800017408, .float .f64 4607182418800017408])] ++ [(w5.heap.size, #[.float .f64 0, .float .f64 0])]) (by simp; omega)); clear hp q0 q1 qf; clear k1 k2; have k1 := (M.out.nth 2 rfl).two.1; have k2 := (M.out.nth 2 rfl).two.2; have q0 := (M.out.nth 3 rfl).two.1; have q1 := (M.out.nth 3 rfl).two.2; have qf := (M.out.nth 3 rfl).2.2))
    all_goals (go_wp2_with fail; go_meet)
    all_goals first | exact ⟨_, rfl, M.out.size 2 rfl, (M.out.made _ _).sub (by simp)⟩ | exact ⟨_, rfl, hm, M.out.sets (M.out.nth 3 rfl) _ _ (by omega) _ (by simp; omega)⟩
  case rest =>
    obtain ⟨w6, rfl⟩ : ∃ x : World, x = wc := ⟨_, rfl⟩
    obtain ⟨q, rfl, hq, hM⟩ := hcut
    clear M
    have M := Lib.hid hM
    have k1 := (hM.nth 2 rfl).two.1
    have k2 := (hM.nth 2 rfl).two.2
    clear hM
    go_wp2_with fail
    refine (l_then _ _ (M.out.nth 1 rfl).pc (M.out.nth 1 rfl).pf).mono ?_
    rintro r w8 ⟨rfl, hp⟩
    replace M := Lib.hid (M.out.puts (M.out.nth 1 rfl) hp (by omega) [(w.heap.size, #[.int .i64 0]), (w.heap.size + 1, #[.int .i64 11]), (w2.heap.size, #[.float .f64 4607182418800017408, .float .f64 4607182418800017408]), (q, #[.float .f64 0, .float .f64 0])] (by simp; omega))
    have z4 : q < w8.heap.size := M.out.size 3 rfl
    clear hp k1 k2
    replace M : Hid (Mem w [(w.heap.size, #[.int .i64 0]), (w.heap.size + 1, #[.int .i64 11]), (q, #[.float .f64 0, .float .f64 0]), (w8.heap.size, #[.float .f64 0, .float .f64 0])] (w8.alloc (.cells #[.float .f64 0, .float .f64 0] 39))) := Lib.hid ((M.out.made _ _).sub (by simp))
    go_wp2_with fail
    refine (iv_any _ _ _).mono ?_
    rintro r w9 ⟨rfl, hb⟩
    replace M := Lib.hid (M.out.below hb)
    clear hb
    go_wp2_with fail
    refine (iv_any _ _ _).mono ?_
    rintro r w10 ⟨rfl, hb⟩
    replace M := Lib.hid (M.out.below hb)
    clear hb
    go_wp2_with fail
    refine (l_meet1 _).mono ?_
    rintro r w11 ⟨rfl, hb⟩
    replace M := Lib.hid (M.out.below hb)
    clear hb
    have z5 : w8.heap.size < w11.heap.size := M.out.size 3 rfl
    replace M : Hid (Mem w [(w.heap.size, #[.int .i64 0]), (w.heap.size + 1, #[.int .i64 11]), (q, #[.float .f64 0, .float .f64 0]), (w8.heap.size, #[.float .f64 0, .float .f64 0]), (w11.heap.size, #[.float .f64 4607182418800017408, .float .f64 4611686018427387904])] (w11.alloc (.cells #[.float .f64 4607182418800017408, .float .f64 4611686018427387904] 39))) := Lib.hid ((M.out.made _ _).sub (by simp))
    go_wp2_with fail
    refine (iv_any _ _ _).mono ?_
    rintro r w12 ⟨rfl, hb⟩
    replace M := Lib.hid (M.out.below hb)
    clear hb
    go_wp2_with fail
    refine (iv_any _ _ _).mono ?_
    rintro r w13 ⟨rfl, hb⟩
    replace M := Lib.hid (M.out.below hb)
    clear hb
    go_wp2_with fail
    refine (l_meet2 _).mono ?_
    rintro r w14 ⟨rfl, hb⟩
    replace M := Lib.hid (M.out.below hb)
    clear hb
    have z6 : w11.heap.size < w14.heap.size := M.out.size 4 rfl
    replace M := Lib.hid (M.out.below (bel1 _ (.cells #[.float .f64 0, .float .f64 0] 39)))
    go_upto_region 9 with fail
    have k1 := (M.out.nth 2 rfl).two.1
    have k2 := (M.out.nth 2 rfl).two.2
    have k3 := (M.out.nth 3 rfl).two.1
    have k4 := (M.out.nth 3 rfl).two.2
    have k5 := (M.out.nth 4 rfl).two.1
    have k6 := (M.out.nth 4 rfl).two.2
    replace M := Lib.hid M.out.drew
    go_region_held3 (fun w' => w'.cell? ⟨q, 0, none⟩ = some (.float .f64 0) ∧ w'.cell? ⟨q, 1, none⟩ = some (.float .f64 0) ∧ w'.cell? ⟨w8.heap.size, 0, none⟩ = some (.float .f64 0) ∧ w'.cell? ⟨w8.heap.size, 1, none⟩ = some (.float .f64 0) ∧ w'.cell? ⟨w11.heap.size, 0, none⟩ = some (.float .f64 4607182418800017408) ∧ w'.cell? ⟨w11.heap.size, 1, none⟩ = some (.float .f64 4611686018427387904)) (go_keep)
      (first
        | (go_at_call 37; (with_reducible refine (err_any 0 w.heap.size 0 _ (M.out.nth 0 rfl).pc).mono ?_); rintro rr w16 ⟨rfl, rfl⟩)
        | (go_at_call 37; (with_reducible refine (err_any 11 (w.heap.size + 1) 0 _ (M.out.nth 1 rfl).pc).mono ?_); rintro rr w16 ⟨rfl, rfl⟩)
        | (go_at_call 49; (with_reducible refine (pi_down _).mono ?_); rintro rr w16 ⟨rfl, rfl⟩)
        | (go_at_call 49; (with_reducible refine (pi_up _).mono ?_); rintro rr w16 ⟨rfl, rfl⟩)
        | (go_at_call 90; refine (pi_any _).mono ?_; rintro rr w16 ⟨rfl, hb⟩; replace M := Lib.hid (M.out.below hb); clear hb; clear k1 k2 k3 k4 k5 k6; have k1 := (M.out.nth 2 rfl).two.1; have k2 := (M.out.nth 2 rfl).two.2; have k3 := (M.out.nth 3 rfl).two.1; have k4 := (M.out.nth 3 rfl).two.2; have k5 := (M.out.nth 4 rfl).two.1; have k6 := (M.out.nth 4 rfl).two.2)
        | (go_at_call 88; refine (iv_any _ _ _).mono ?_; rintro rr w16 ⟨rfl, hb⟩; replace M := Lib.hid (M.out.below hb); clear hb; clear k1 k2 k3 k4 k5 k6; have k1 := (M.out.nth 2 rfl).two.1; have k2 := (M.out.nth 2 rfl).two.2; have k3 := (M.out.nth 3 rfl).two.1; have k4 := (M.out.nth 3 rfl).two.2; have k5 := (M.out.nth 4 rfl).two.1; have k6 := (M.out.nth 4 rfl).two.2)
        | (go_at_call 38; refine (l_same _ _ _).mono ?_; rintro rr w16 ⟨rfl, hb⟩; replace M := Lib.hid (M.out.below hb); clear hb; clear k1 k2 k3 k4 k5 k6; have k1 := (M.out.nth 2 rfl).two.1; have k2 := (M.out.nth 2 rfl).two.2; have k3 := (M.out.nth 3 rfl).two.1; have k4 := (M.out.nth 3 rfl).two.2; have k5 := (M.out.nth 4 rfl).two.1; have k6 := (M.out.nth 4 rfl).two.2))
    all_goals go_wp2
    all_goals go_ret
    all_goals exact ⟨rfl, M.out.base⟩

end Go.Proofs.Ytpgbcdplicodmaa
