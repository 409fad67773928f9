
/- Law file 2: its function awake answers true. -/
import Derived.Test.YtmcecchcbfhfcaaAwk
import Derived.Deep.RegionHeld3
namespace Go.Proofs.Ytmcecchcbfhfcaa
open Go.RowKit
attribute [local go_sem] run_store_float

theorem pi_down (w : World) : Calls Try.prog 47 #[.float .f64 4843940237547941144, .int .i64 (-51)] w fun r w' => r = .returned (.float .f64 4614256656552045848) ∧ w = w' :=
  ldexp_at 4843940237547941144 2570638124657944 4611686018427387904 4614256656552045848 4614256656552045848 (-51) 1075 1 w (by decide +kernel) (by decide +kernel) (by decide +kernel) (by decide +kernel) (by decide +kernel) (by decide) (by decide) (by decide) (by decide +kernel) (by decide) (by decide) (by decide) (by decide) (by decide) (by decide +kernel) (by decide +kernel) (by decide +kernel) (by decide +kernel)
theorem pi_up (w : World) : Calls Try.prog 47 #[.float .f64 4843940237547941145, .int .i64 (-51)] w fun r w' => r = .returned (.float .f64 4614256656552045849) ∧ w = w' :=
  ldexp_at 4843940237547941145 2570638124657945 4611686018427387904 4614256656552045849 4614256656552045849 (-51) 1075 1 w (by decide +kernel) (by decide +kernel) (by decide +kernel) (by decide +kernel) (by decide +kernel) (by decide) (by decide) (by decide) (by decide +kernel) (by decide) (by decide) (by decide) (by decide) (by decide) (by decide +kernel) (by decide +kernel) (by decide +kernel) (by decide +kernel)

set_option maxRecDepth 100000 in
theorem isNaN_num (a : Nat) (h : (FloatKind.f64.format.order a a != some Ordering.eq) = false) (w : World) : Calls Try.prog 90 #[.float .f64 a] w fun r w' => r = .returned (.bool false) ∧ w = w' := by
  go_enter Try.func90, Try.ntmps90
  go_wp2
  go_ret
  exact ⟨by rw [← h]; rfl, rfl⟩

set_option maxRecDepth 100000 in
set_option maxHeartbeats 400000 in
theorem next_third (w : World) : Calls Try.prog 88 #[.float .f64 4599676419421066581, .float .f64 4607182418800017408] w fun r w' => r = .returned (.float .f64 4599676419421066582) ∧ w = w' := by
  have c1 := Lib.hid (fun w => isNaN_num 4599676419421066581 (by decide +kernel) w)
  have c2 := Lib.hid (fun w => isNaN_num 4607182418800017408 (by decide +kernel) w)
  obtain ⟨a, ha⟩ : ∃ a, a = 4599676419421066581 := ⟨_, rfl⟩
  obtain ⟨b, hb⟩ : ∃ b, b = 4607182418800017408 := ⟨_, rfl⟩
  have o1 : (FloatKind.f64.format.order a b == some Ordering.eq) = false := by rw [ha, hb]; decide +kernel
  have o2 : (FloatKind.f64.format.order a 0 == some Ordering.eq) = false := by rw [ha]; decide +kernel
  have o3 : (FloatKind.f64.format.order b a == some Ordering.gt) = true := by rw [ha, hb]; decide +kernel
  have o4 : (FloatKind.f64.format.order a 0 == some Ordering.gt) = true := by rw [ha]; decide +kernel
  have o5 : IntKind.u64.wrap ((a : Int) + 1) = 4599676419421066582 := by rw [ha]; decide +kernel
  have h1 := run_bits
  have h2 := run_frombits
  rw [← ha] at c1
  rw [← hb] at c2
  rw [← ha, ← hb]
  clear ha hb
  go_enter Try.func88, Try.ntmps88
  go_wp2_with fail
  refine (c1.out _).mono ?_
  rintro r w1 ⟨rfl, rfl⟩
  go_wp2_with fail
  refine (c2.out _).mono ?_
  rintro r w1 ⟨rfl, rfl⟩
  go_wp2
  go_ret
  exact ⟨rfl, rfl⟩

theorem Has1.set2 {v : World} {b : Nat} {x y : Value} (h : Has1 v (b, #[x, y])) (x' y' : Value) : Has1 ((v.setCell ⟨b, 0, none⟩ x').setCell ⟨b, 1, none⟩ y') (b, #[x', y']) := ⟨by rw [size_set, size_set]; exact h.1, put2 h.2.1 _ _, fun i => by rw [frozen_set, frozen_set]; exact h.2.2 i⟩
theorem Mem.sets {B v : World} {l : List (Nat × Array Value)} {q : Nat} {x y : Value} (h : Mem B l v) (hx : Has1 v (q, #[x, y])) (x' y' : Value) (hB : B.heap.size ≤ q) (k : List (Nat × Array Value)) (hk : ∀ p, p ∈ k → p = (q, #[x', y']) ∨ p ∈ l ∧ q ≠ p.1) : Mem B k ((v.setCell ⟨q, 0, none⟩ x').setCell ⟨q, 1, none⟩ y') :=
  ⟨(h.base.setCell hB _).setCell hB _, fun p hp => by
    rcases hk p hp with e | ⟨e, e'⟩
    · rw [e]; exact hx.set2 _ _
    · exact ((h.blocks p e).set e').set e'⟩
/-- Behind the quotient by what has 0. -/
def AwCut (w : World) (m : Nat) (p : Value) (wx : World) : Prop :=
  ∃ q, p = .pointer (some ⟨q, 0, none⟩) ∧ m < q ∧ Mem w [(w.heap.size, #[.int .i64 0]), (w.heap.size + 1, #[.int .i64 11]), (m, #[.float .f64 4607182418800017408, .float .f64 4607182418800017408]), (q, #[.float .f64 0, .float .f64 0])] wx

/-- What the walk reads of a block of two. -/
theorem Has1.two {v : World} {b : Nat} {x y : Value} (h : Has1 v (b, #[x, y])) : v.cell? ⟨b, 0, none⟩ = some x ∧ v.cell? ⟨b, 1, none⟩ = some y := ⟨h.2.1 0, h.2.1 1⟩
theorem Has1.pc {v : World} {b : Nat} {x : Value} (h : Has1 v (b, #[x])) : v.cell? ⟨b, 0, none⟩ = some x := h.2.1 0
theorem Has1.pf {v : World} {p : Nat × Array Value} (h : Has1 v p) : v.frozen? ⟨p.1, 0, none⟩ = false := h.2.2 0

theorem l_num1 (pb : Nat) (w : World) (hc : w.cell? ⟨pb, 0, none⟩ = some (.int .i64 0)) (hf : w.frozen? ⟨pb, 0, none⟩ = false) :
    Calls Try.prog 51 #[.pointer (some ⟨pb, 0, none⟩), .float .f64 4607182418800017408] w fun r w' => r = .returned (.agg #[.float .f64 4607182418800017408, .float .f64 4607182418800017408]) ∧ Put ⟨pb, 0, none⟩ (.int .i64 0) w w' := by
  have h := (cNum_any 0 4607182418800017408 pb 0 w (by decide) hc hf)
  rw [x_num1] at h
  exact h

theorem l_num3 (pb : Nat) (w : World) (hc : w.cell? ⟨pb, 0, none⟩ = some (.int .i64 0)) (hf : w.frozen? ⟨pb, 0, none⟩ = false) :
    Calls Try.prog 51 #[.pointer (some ⟨pb, 0, none⟩), .float .f64 4613937818241073152] w fun r w' => r = .returned (.agg #[.float .f64 4613937818241073152, .float .f64 4613937818241073152]) ∧ Put ⟨pb, 0, none⟩ (.int .i64 0) w w' := by
  have h := (cNum_any 0 4613937818241073152 pb 0 w (by decide) hc hf)
  rw [x_num3] at h
  exact h

theorem l_div (pb : Nat) (w : World) (hc : w.cell? ⟨pb, 0, none⟩ = some (.int .i64 0)) (hf : w.frozen? ⟨pb, 0, none⟩ = false) :
    Calls Try.prog 55 #[.pointer (some ⟨pb, 0, none⟩), .agg #[.float .f64 4607182418800017408, .float .f64 4607182418800017408], .agg #[.float .f64 4613937818241073152, .float .f64 4613937818241073152]] w fun r w' => r = .returned (.agg #[.float .f64 4599676419421066581, .float .f64 4599676419421066582]) ∧ Put ⟨pb, 0, none⟩ (.int .i64 0) w w' := by
  have h := (cDiv_any 0 4607182418800017408 4607182418800017408 4613937818241073152 4613937818241073152 pb 0 w (by decide) (by decide) (by decide) (by decide) hc hf)
  rw [x_div] at h
  exact h

theorem l_add (pb : Nat) (w : World) (hc : w.cell? ⟨pb, 0, none⟩ = some (.int .i64 0)) (hf : w.frozen? ⟨pb, 0, none⟩ = false) :
    Calls Try.prog 40 #[.pointer (some ⟨pb, 0, none⟩), .agg #[.float .f64 4607182418800017408, .float .f64 4611686018427387904], .agg #[.float .f64 4613937818241073152, .float .f64 4616189618054758400]] w fun r w' => r = .returned (.agg #[.float .f64 4616189618054758400, .float .f64 4618441417868443648]) ∧ Put ⟨pb, 0, none⟩ (.int .i64 0) w w' := by
  have h := (cAdd_any 0 4607182418800017408 4611686018427387904 4613937818241073152 4616189618054758400 pb 0 w (by decide) (by decide) (by decide) (by decide) hc hf)
  rw [x_add] at h
  exact h

theorem l_mul (pb : Nat) (w : World) (hc : w.cell? ⟨pb, 0, none⟩ = some (.int .i64 0)) (hf : w.frozen? ⟨pb, 0, none⟩ = false) :
    Calls Try.prog 52 #[.pointer (some ⟨pb, 0, none⟩), .agg #[.float .f64 13830554455654793216, .float .f64 4611686018427387904], .agg #[.float .f64 13837309855095848960, .float .f64 4616189618054758400]] w fun r w' => r = .returned (.agg #[.float .f64 13841813454723219456, .float .f64 4620693217682128896]) ∧ Put ⟨pb, 0, none⟩ (.int .i64 0) w w' := by
  have h := (cMul_any 0 13830554455654793216 4611686018427387904 13837309855095848960 4616189618054758400 pb 0 w (by decide) (by decide) (by decide) (by decide) hc hf)
  rw [x_mul] at h
  exact h

theorem l_sqr (pb : Nat) (w : World) (hc : w.cell? ⟨pb, 0, none⟩ = some (.int .i64 0)) (hf : w.frozen? ⟨pb, 0, none⟩ = false) :
    Calls Try.prog 41 #[.pointer (some ⟨pb, 0, none⟩), .agg #[.float .f64 13835058055282163712, .float .f64 4607182418800017408]] w fun r w' => r = .returned (.agg #[.float .f64 0, .float .f64 4616189618054758400]) ∧ Put ⟨pb, 0, none⟩ (.int .i64 0) w w' := by
  have h := (cSqr_any 0 13835058055282163712 4607182418800017408 pb 0 w (by decide) (by decide) hc hf)
  rw [x_sqr] at h
  exact h

theorem l_div0 (pb : Nat) (w : World) (hc : w.cell? ⟨pb, 0, none⟩ = some (.int .i64 0)) (hf : w.frozen? ⟨pb, 0, none⟩ = false) :
    Calls Try.prog 55 #[.pointer (some ⟨pb, 0, none⟩), .agg #[.float .f64 4607182418800017408, .float .f64 4607182418800017408], .agg #[.float .f64 13830554455654793216, .float .f64 4607182418800017408]] w fun r w' => r = .returned (.agg #[.float .f64 0, .float .f64 0]) ∧ Put ⟨pb, 0, none⟩ (.int .i64 11) w w' := by
  have h := (cDiv_any 0 4607182418800017408 4607182418800017408 13830554455654793216 4607182418800017408 pb 0 w (by decide) (by decide) (by decide) (by decide) hc hf)
  rw [x_div0] at h
  exact h

theorem l_then (pb : Nat) (w : World) (hc : w.cell? ⟨pb, 0, none⟩ = some (.int .i64 11)) (hf : w.frozen? ⟨pb, 0, none⟩ = false) :
    Calls Try.prog 40 #[.pointer (some ⟨pb, 0, none⟩), .agg #[.float .f64 4607182418800017408, .float .f64 4607182418800017408], .agg #[.float .f64 4607182418800017408, .float .f64 4607182418800017408]] w fun r w' => r = .returned (.agg #[.float .f64 0, .float .f64 0]) ∧ Put ⟨pb, 0, none⟩ (.int .i64 11) w w' := by
  have h := (cAdd_any 11 4607182418800017408 4607182418800017408 4607182418800017408 4607182418800017408 pb 0 w (by decide) (by decide) (by decide) (by decide) hc hf)
  rw [x_then] at h
  exact h

theorem l_has (w : World) : Calls Try.prog 44 #[.agg #[.float .f64 4599676419421066581, .float .f64 4599676419421066582], .float .f64 4599676419421066581] w fun r w' => r = .returned (.bool true) ∧ Below w.heap.size w w' := by
  have h := has_any 4599676419421066581 4599676419421066582 4599676419421066581 w (by decide) (by decide)
  rw [x_has] at h
  exact h
theorem l_same (a b : Nat) (w : World) : Calls Try.prog 38 #[.agg #[.float .f64 a, .float .f64 b], .agg #[.float .f64 a, .float .f64 b]] w fun r w' => r = .returned (.bool true) ∧ Below w.heap.size w w' := by
  have h := ivSame_any a b a b w
  rw [show sameB a b a b = true by unfold sameB; simp] at h
  exact h
theorem l_meet1 (w : World) : Calls Try.prog 68 #[.agg #[.float .f64 0, .float .f64 4611686018427387904], .agg #[.float .f64 4607182418800017408, .float .f64 4613937818241073152]] w fun r w' => r = .returned (.tuple #[.agg #[.float .f64 4607182418800017408, .float .f64 4611686018427387904], .bool true]) ∧ Below w.heap.size w w' := by
  have h := meet_any 0 4611686018427387904 4607182418800017408 4613937818241073152 w (by decide) (by decide) (by decide) (by decide) (by decide) (by decide) (by decide) (by decide)
  rw [x_meet1.1, x_meet1.2.1, x_meet1.2.2] at h
  exact h
theorem l_meet2 (w : World) : Calls Try.prog 68 #[.agg #[.float .f64 0, .float .f64 4607182418800017408], .agg #[.float .f64 4611686018427387904, .float .f64 4613937818241073152]] w fun r w' => r = .returned (.tuple #[.agg #[.float .f64 0, .float .f64 0], .bool false]) ∧ Below w.heap.size w w' := by
  have h := meet_any 0 4607182418800017408 4611686018427387904 4613937818241073152 w (by decide) (by decide) (by decide) (by decide) (by decide) (by decide) (by decide) (by decide)
  rw [x_meet2.1, x_meet2.2.1, x_meet2.2.2] at h
  exact h

end Go.Proofs.Ytmcecchcbfhfcaa
