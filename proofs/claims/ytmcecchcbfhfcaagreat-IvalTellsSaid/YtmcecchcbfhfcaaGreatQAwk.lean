
/- Law file 2: what an op, asked of a calculator, answers: Op.Asked. -/
import Derived.Test.YtmcecchcbfhfcaaGreatDirA
import Derived.Test.YtmcecchcbfhfcaaGreatPut
import Derived.Test.YtmcecchcbfhfcaaGreatQIv
import Derived.Test.YtmcecchcbfhfcaaGreatMem
import Derived.Test.YtmcecchcbfhfcaaGreatAwakeB
import Derived.Deep.RegionHeld3
namespace Go.Proofs.YtmcecchcbfhfcaaGreat
open Go.RowKit
attribute [local go_sem] run_store_float

/-- The same words. -/
def sameB (a b c d : Nat) : Bool := decide (a = c) && decide (b = d)

theorem same_any (a b : Nat) (w : World) :
    Calls Tryz.prog 15 #[.float .f64 a, .float .f64 b] w fun r w' => r = .returned (.bool (decide (a = b))) ∧ w = w' := by
  have hb := run_bits
  have e : ((a : Int) == (b : Int)) = decide (a = b) := by
    by_cases h : a = b
    · rw [decide_eq_true h, beq_iff_eq]; omega
    · rw [decide_eq_false h, beq_eq_false_iff_ne]; omega
  have E := Lib.hid e
  clear e
  go_enter Tryz.func15, Tryz.ntmps15
  go_wp2
  go_ret
  exact ⟨by rw [← E.out]; rfl, rfl⟩

set_option maxHeartbeats 400000 in
theorem ivSame_any (a b c d : Nat) (w : World) :
    Calls Tryz.prog 14 #[.agg #[.float .f64 a, .float .f64 b], .agg #[.float .f64 c, .float .f64 d]] w fun r w' => r = .returned (.bool (sameB a b c d)) ∧ Below w.heap.size w w' := by
  have c1 := Lib.hid (fun w => same_any a c w)
  have c2 := Lib.hid (fun w => same_any b d w)
  cases h : decide (a = c)
  · have E := Lib.hid (show sameB a b c d = false by unfold sameB; rw [h]; rfl)
    rw [h] at c1
    clear h
    go_enter Tryz.func14, Tryz.ntmps14
    go_wp2_with fail
    refine (c1.out _).mono ?_
    rintro r w1 ⟨rfl, rfl⟩
    go_wp2
    go_ret
    exact ⟨by rw [E.out]; rfl, bel2 _ _ _⟩
  · have E := Lib.hid (show sameB a b c d = decide (b = d) by unfold sameB; rw [h]; rfl)
    rw [h] at c1
    clear h
    go_enter Tryz.func14, Tryz.ntmps14
    go_wp2_with fail
    refine (c1.out _).mono ?_
    rintro r w1 ⟨rfl, rfl⟩
    go_wp2_with fail
    refine (c2.out _).mono ?_
    rintro r w1 ⟨rfl, rfl⟩
    go_wp2
    go_ret
    exact ⟨by rw [E.out]; rfl, bel2 _ _ _⟩

end Go.Proofs.YtmcecchcbfhfcaaGreat

namespace Go.Proofs.YtmcecchcbfhfcaaGreat
open Go.RowKit
attribute [local go_sem] run_store_float

theorem iv_any (a b : Nat) (w : World) :
    Calls Tryz.prog 65 #[.float .f64 a, .float .f64 b] w fun r w' => r = .returned (.agg #[.float .f64 a, .float .f64 b]) ∧ Below w.heap.size w w' := by
  go_enter Tryz.func65, Tryz.ntmps65
  go_wp2
  exact bodyPost_ret (v := .agg #[.float .f64 a, .float .f64 b]) (by simp [results, Tryz.results65, go_sem]) rfl ⟨rfl, bel1 _ _⟩

theorem res_eq {r : Res} {e : Int} {lo hi : Nat} (h : r.e = e ∧ r.lo = lo ∧ r.hi = hi) : r = ⟨e, lo, hi⟩ := by
  cases r; simp at h; simp [h]

theorem x_num1 : stepI 0 true (ofI 4607182418800017408) = ⟨0, 4607182418800017408, 4607182418800017408⟩ := res_eq (by decide +kernel)
theorem x_num3 : stepI 0 true (ofI 4613937818241073152) = ⟨0, 4613937818241073152, 4613937818241073152⟩ := res_eq (by decide +kernel)
theorem x_div : stepI 0 (ivR 4607182418800017408 4607182418800017408 && ivR 4613937818241073152 4613937818241073152) (divI 4607182418800017408 4607182418800017408 4613937818241073152 4613937818241073152) = ⟨0, 4599676419421066581, 4599676419421066582⟩ := res_eq (by decide +kernel)
theorem x_add : stepI 0 (ivR 4607182418800017408 4611686018427387904 && ivR 4613937818241073152 4616189618054758400) (addI 4607182418800017408 4611686018427387904 4613937818241073152 4616189618054758400) = ⟨0, 4616189618054758400, 4618441417868443648⟩ := res_eq (by decide +kernel)
theorem x_mul : stepI 0 (ivR 13830554455654793216 4611686018427387904 && ivR 13837309855095848960 4616189618054758400) (mulI 13830554455654793216 4611686018427387904 13837309855095848960 4616189618054758400) = ⟨0, 13841813454723219456, 4620693217682128896⟩ := res_eq (by decide +kernel)
theorem x_sqr : stepI 0 (ivR 13835058055282163712 4607182418800017408) (sqrI 13835058055282163712 4607182418800017408) = ⟨0, 0, 4616189618054758400⟩ := res_eq (by decide +kernel)
theorem x_div0 : stepI 0 (ivR 4607182418800017408 4607182418800017408 && ivR 13830554455654793216 4607182418800017408) (divI 4607182418800017408 4607182418800017408 13830554455654793216 4607182418800017408) = ⟨11, 0, 0⟩ := res_eq (by decide +kernel)
theorem x_then : stepI 11 (ivR 4607182418800017408 4607182418800017408 && ivR 4607182418800017408 4607182418800017408) (addI 4607182418800017408 4607182418800017408 4607182418800017408 4607182418800017408) = ⟨11, 0, 0⟩ := res_eq (by decide +kernel)
theorem x_has : hasB 4599676419421066581 4599676419421066582 4599676419421066581 = true := by decide +kernel
theorem x_meet1 : bothB 0 4611686018427387904 4607182418800017408 4613937818241073152 = true ∧ meetLo 0 4611686018427387904 4607182418800017408 4613937818241073152 = 4607182418800017408 ∧ meetHi 0 4611686018427387904 4607182418800017408 4613937818241073152 = 4611686018427387904 := by decide +kernel
theorem x_meet2 : bothB 0 4607182418800017408 4611686018427387904 4613937818241073152 = false ∧ meetLo 0 4607182418800017408 4611686018427387904 4613937818241073152 = 0 ∧ meetHi 0 4607182418800017408 4611686018427387904 4613937818241073152 = 0 := by decide +kernel

end Go.Proofs.YtmcecchcbfhfcaaGreat

namespace Go.Proofs.YtmcecchcbfhfcaaGreat
open Go.RowKit
attribute [local go_sem] run_store_float

theorem pi_down (w : World) : Calls Tryz.prog 64 #[.float .f64 4843940237547941144, .int .i64 (-51)] w fun r w' => r = .returned (.float .f64 4614256656552045848) ∧ w = w' :=
  ldexp_at 4843940237547941144 2570638124657944 4611686018427387904 4614256656552045848 4614256656552045848 (-51) 1075 1 w (by decide +kernel) (by decide +kernel) (by decide +kernel) (by decide +kernel) (by decide +kernel) (by decide) (by decide) (by decide) (by decide +kernel) (by decide) (by decide) (by decide) (by decide) (by decide) (by decide +kernel) (by decide +kernel) (by decide +kernel) (by decide +kernel)
theorem pi_up (w : World) : Calls Tryz.prog 64 #[.float .f64 4843940237547941145, .int .i64 (-51)] w fun r w' => r = .returned (.float .f64 4614256656552045849) ∧ w = w' :=
  ldexp_at 4843940237547941145 2570638124657945 4611686018427387904 4614256656552045849 4614256656552045849 (-51) 1075 1 w (by decide +kernel) (by decide +kernel) (by decide +kernel) (by decide +kernel) (by decide +kernel) (by decide) (by decide) (by decide) (by decide +kernel) (by decide) (by decide) (by decide) (by decide) (by decide) (by decide +kernel) (by decide +kernel) (by decide +kernel) (by decide +kernel)

set_option maxRecDepth 100000 in
theorem isNaN_num (a : Nat) (h : (FloatKind.f64.format.order a a != some Ordering.eq) = false) (w : World) : Calls Tryz.prog 91 #[.float .f64 a] w fun r w' => r = .returned (.bool false) ∧ w = w' := by
  go_enter Tryz.func91, Tryz.ntmps91
  go_wp2
  go_ret
  exact ⟨by rw [← h]; rfl, rfl⟩

set_option maxRecDepth 100000 in
set_option maxHeartbeats 400000 in
theorem next_third (w : World) : Calls Tryz.prog 66 #[.float .f64 4599676419421066581, .float .f64 4607182418800017408] w fun r w' => r = .returned (.float .f64 4599676419421066582) ∧ w = w' := by
  have c1 := Lib.hid (fun w => isNaN_num 4599676419421066581 (by decide +kernel) w)
  have c2 := Lib.hid (fun w => isNaN_num 4607182418800017408 (by decide +kernel) w)
  obtain ⟨a, ha⟩ : ∃ a, a = 4599676419421066581 := ⟨_, rfl⟩
  obtain ⟨b, hb⟩ : ∃ b, b = 4607182418800017408 := ⟨_, rfl⟩
  have o1 : (FloatKind.f64.format.order a b == some Ordering.eq) = false := by rw [ha, hb]; decide +kernel
  have o2 : (FloatKind.f64.format.order a 0 == some Ordering.eq) = false := by rw [ha]; decide +kernel
  have o3 : (FloatKind.f64.format.order b a == some Ordering.gt) = true := by rw [ha, hb]; decide +kernel
  have o4 : (FloatKind.f64.format.order a 0 == some Ordering.gt) = true := by rw [ha]; decide +kernel
  have o5 : IntKind.u64.wrap ((a : Int) + 1) = 4599676419421066582 := by rw [ha]; decide +kernel
  have h1 := run_bits
  have h2 := run_frombits
  rw [← ha] at c1
  rw [← hb] at c2
  rw [← ha, ← hb]
  clear ha hb
  go_enter Tryz.func66, Tryz.ntmps66
  go_wp2_with fail
  refine (c1.out _).mono ?_
  rintro r w1 ⟨rfl, rfl⟩
  go_wp2_with fail
  refine (c2.out _).mono ?_
  rintro r w1 ⟨rfl, rfl⟩
  go_wp2
  go_ret
  exact ⟨rfl, rfl⟩

theorem Has1.set2 {v : World} {b : Nat} {x y : Value} (h : Has1 v (b, #[x, y])) (x' y' : Value) : Has1 ((v.setCell ⟨b, 0, none⟩ x').setCell ⟨b, 1, none⟩ y') (b, #[x', y']) := ⟨by rw [size_set, size_set]; exact h.1, put2 h.2.1 _ _, fun i => by rw [frozen_set, frozen_set]; exact h.2.2 i⟩
theorem Mem.sets {B v : World} {l : List (Nat × Array Value)} {q : Nat} {x y : Value} (h : Mem B l v) (hx : Has1 v (q, #[x, y])) (x' y' : Value) (hB : B.heap.size ≤ q) (k : List (Nat × Array Value)) (hk : ∀ p, p ∈ k → p = (q, #[x', y']) ∨ p ∈ l ∧ q ≠ p.1) : Mem B k ((v.setCell ⟨q, 0, none⟩ x').setCell ⟨q, 1, none⟩ y') :=
  ⟨(h.base.setCell hB _).setCell hB _, fun p hp => by
    rcases hk p hp with e | ⟨e, e'⟩
    · rw [e]; exact hx.set2 _ _
    · exact ((h.blocks p e).set e').set e'⟩
/-- Behind the quotient by what has 0. -/
def AwCut (w : World) (m : Nat) (p : Value) (wx : World) : Prop :=
  ∃ q, p = .pointer (some ⟨q, 0, none⟩) ∧ m < q ∧ Mem w [(w.heap.size, #[.int .i64 0]), (w.heap.size + 1, #[.int .i64 11]), (m, #[.float .f64 4607182418800017408, .float .f64 4607182418800017408]), (q, #[.float .f64 0, .float .f64 0])] wx

/-- What the walk reads of a block of two. -/
theorem Has1.two {v : World} {b : Nat} {x y : Value} (h : Has1 v (b, #[x, y])) : v.cell? ⟨b, 0, none⟩ = some x ∧ v.cell? ⟨b, 1, none⟩ = some y := ⟨h.2.1 0, h.2.1 1⟩
theorem Has1.pc {v : World} {b : Nat} {x : Value} (h : Has1 v (b, #[x])) : v.cell? ⟨b, 0, none⟩ = some x := h.2.1 0
theorem Has1.pf {v : World} {p : Nat × Array Value} (h : Has1 v p) : v.frozen? ⟨p.1, 0, none⟩ = false := h.2.2 0

theorem l_num1 (pb : Nat) (w : World) (hc : w.cell? ⟨pb, 0, none⟩ = some (.int .i64 0)) (hf : w.frozen? ⟨pb, 0, none⟩ = false) :
    Calls Tryz.prog 52 #[.pointer (some ⟨pb, 0, none⟩), .float .f64 4607182418800017408] w fun r w' => r = .returned (.agg #[.float .f64 4607182418800017408, .float .f64 4607182418800017408]) ∧ Put ⟨pb, 0, none⟩ (.int .i64 0) w w' := by
  have h := (cNum_any 0 4607182418800017408 pb 0 w (by decide) hc hf)
  rw [x_num1] at h
  exact h

theorem l_num3 (pb : Nat) (w : World) (hc : w.cell? ⟨pb, 0, none⟩ = some (.int .i64 0)) (hf : w.frozen? ⟨pb, 0, none⟩ = false) :
    Calls Tryz.prog 52 #[.pointer (some ⟨pb, 0, none⟩), .float .f64 4613937818241073152] w fun r w' => r = .returned (.agg #[.float .f64 4613937818241073152, .float .f64 4613937818241073152]) ∧ Put ⟨pb, 0, none⟩ (.int .i64 0) w w' := by
  have h := (cNum_any 0 4613937818241073152 pb 0 w (by decide) hc hf)
  rw [x_num3] at h
  exact h

theorem l_div (pb : Nat) (w : World) (hc : w.cell? ⟨pb, 0, none⟩ = some (.int .i64 0)) (hf : w.frozen? ⟨pb, 0, none⟩ = false) :
    Calls Tryz.prog 45 #[.pointer (some ⟨pb, 0, none⟩), .agg #[.float .f64 4607182418800017408, .float .f64 4607182418800017408], .agg #[.float .f64 4613937818241073152, .float .f64 4613937818241073152]] w fun r w' => r = .returned (.agg #[.float .f64 4599676419421066581, .float .f64 4599676419421066582]) ∧ Put ⟨pb, 0, none⟩ (.int .i64 0) w w' := by
  have h := (cDiv_any 0 4607182418800017408 4607182418800017408 4613937818241073152 4613937818241073152 pb 0 w (by decide) (by decide) (by decide) (by decide) hc hf)
  rw [x_div] at h
  exact h

theorem l_add (pb : Nat) (w : World) (hc : w.cell? ⟨pb, 0, none⟩ = some (.int .i64 0)) (hf : w.frozen? ⟨pb, 0, none⟩ = false) :
    Calls Tryz.prog 42 #[.pointer (some ⟨pb, 0, none⟩), .agg #[.float .f64 4607182418800017408, .float .f64 4611686018427387904], .agg #[.float .f64 4613937818241073152, .float .f64 4616189618054758400]] w fun r w' => r = .returned (.agg #[.float .f64 4616189618054758400, .float .f64 4618441417868443648]) ∧ Put ⟨pb, 0, none⟩ (.int .i64 0) w w' := by
  have h := (cAdd_any 0 4607182418800017408 4611686018427387904 4613937818241073152 4616189618054758400 pb 0 w (by decide) (by decide) (by decide) (by decide) hc hf)
  rw [x_add] at h
  exact h

theorem l_mul (pb : Nat) (w : World) (hc : w.cell? ⟨pb, 0, none⟩ = some (.int .i64 0)) (hf : w.frozen? ⟨pb, 0, none⟩ = false) :
    Calls Tryz.prog 44 #[.pointer (some ⟨pb, 0, none⟩), .agg #[.float .f64 13830554455654793216, .float .f64 4611686018427387904], .agg #[.float .f64 13837309855095848960, .float .f64 4616189618054758400]] w fun r w' => r = .returned (.agg #[.float .f64 13841813454723219456, .float .f64 4620693217682128896]) ∧ Put ⟨pb, 0, none⟩ (.int .i64 0) w w' := by
  have h := (cMul_any 0 13830554455654793216 4611686018427387904 13837309855095848960 4616189618054758400 pb 0 w (by decide) (by decide) (by decide) (by decide) hc hf)
  rw [x_mul] at h
  exact h

theorem l_sqr (pb : Nat) (w : World) (hc : w.cell? ⟨pb, 0, none⟩ = some (.int .i64 0)) (hf : w.frozen? ⟨pb, 0, none⟩ = false) :
    Calls Tryz.prog 48 #[.pointer (some ⟨pb, 0, none⟩), .agg #[.float .f64 13835058055282163712, .float .f64 4607182418800017408]] w fun r w' => r = .returned (.agg #[.float .f64 0, .float .f64 4616189618054758400]) ∧ Put ⟨pb, 0, none⟩ (.int .i64 0) w w' := by
  have h := (cSqr_any 0 13835058055282163712 4607182418800017408 pb 0 w (by decide) (by decide) hc hf)
  rw [x_sqr] at h
  exact h

theorem l_div0 (pb : Nat) (w : World) (hc : w.cell? ⟨pb, 0, none⟩ = some (.int .i64 0)) (hf : w.frozen? ⟨pb, 0, none⟩ = false) :
    Calls Tryz.prog 45 #[.pointer (some ⟨pb, 0, none⟩), .agg #[.float .f64 4607182418800017408, .float .f64 4607182418800017408], .agg #[.float .f64 13830554455654793216, .float .f64 4607182418800017408]] w fun r w' => r = .returned (.agg #[.float .f64 0, .float .f64 0]) ∧ Put ⟨pb, 0, none⟩ (.int .i64 11) w w' := by
  have h := (cDiv_any 0 4607182418800017408 4607182418800017408 13830554455654793216 4607182418800017408 pb 0 w (by decide) (by decide) (by decide) (by decide) hc hf)
  rw [x_div0] at h
  exact h

theorem l_then (pb : Nat) (w : World) (hc : w.cell? ⟨pb, 0, none⟩ = some (.int .i64 11)) (hf : w.frozen? ⟨pb, 0, none⟩ = false) :
    Calls Tryz.prog 42 #[.pointer (some ⟨pb, 0, none⟩), .agg #[.float .f64 4607182418800017408, .float .f64 4607182418800017408], .agg #[.float .f64 4607182418800017408, .float .f64 4607182418800017408]] w fun r w' => r = .returned (.agg #[.float .f64 0, .float .f64 0]) ∧ Put ⟨pb, 0, none⟩ (.int .i64 11) w w' := by
  have h := (cAdd_any 11 4607182418800017408 4607182418800017408 4607182418800017408 4607182418800017408 pb 0 w (by decide) (by decide) (by decide) (by decide) hc hf)
  rw [x_then] at h
  exact h

theorem l_has (w : World) : Calls Tryz.prog 12 #[.agg #[.float .f64 4599676419421066581, .float .f64 4599676419421066582], .float .f64 4599676419421066581] w fun r w' => r = .returned (.bool true) ∧ Below w.heap.size w w' := by
  have h := has_any 4599676419421066581 4599676419421066582 4599676419421066581 w (by decide) (by decide)
  rw [x_has] at h
  exact h
theorem l_same (a b : Nat) (w : World) : Calls Tryz.prog 14 #[.agg #[.float .f64 a, .float .f64 b], .agg #[.float .f64 a, .float .f64 b]] w fun r w' => r = .returned (.bool true) ∧ Below w.heap.size w w' := by
  have h := ivSame_any a b a b w
  rw [show sameB a b a b = true by unfold sameB; simp] at h
  exact h
theorem l_meet1 (w : World) : Calls Tryz.prog 16 #[.agg #[.float .f64 0, .float .f64 4611686018427387904], .agg #[.float .f64 4607182418800017408, .float .f64 4613937818241073152]] w fun r w' => r = .returned (.tuple #[.agg #[.float .f64 4607182418800017408, .float .f64 4611686018427387904], .bool true]) ∧ Below w.heap.size w w' := by
  have h := meet_any 0 4611686018427387904 4607182418800017408 4613937818241073152 w (by decide) (by decide) (by decide) (by decide) (by decide) (by decide) (by decide) (by decide)
  rw [x_meet1.1, x_meet1.2.1, x_meet1.2.2] at h
  exact h
theorem l_meet2 (w : World) : Calls Tryz.prog 16 #[.agg #[.float .f64 0, .float .f64 4607182418800017408], .agg #[.float .f64 4611686018427387904, .float .f64 4613937818241073152]] w fun r w' => r = .returned (.tuple #[.agg #[.float .f64 0, .float .f64 0], .bool false]) ∧ Below w.heap.size w w' := by
  have h := meet_any 0 4607182418800017408 4611686018427387904 4613937818241073152 w (by decide) (by decide) (by decide) (by decide) (by decide) (by decide) (by decide) (by decide)
  rw [x_meet2.1, x_meet2.2.1, x_meet2.2.2] at h
  exact h

set_option maxRecDepth 100000 in
set_option maxHeartbeats 8000000 in
theorem awake2_any (w : World) :
    Calls Tryz.prog 25 #[] w fun r w' => r = .returned (.bool true) ∧ Below w.heap.size w w' := by
  have M := Lib.hid (Mem.two w #[.int .i64 0] #[.int .i64 0] 39 39)
  have o1 : (FloatKind.f64.format.order 4599676419421066581 4599676419421066582 == some Ordering.lt) = true := by decide +kernel
  have o2 : (FloatKind.f64.format.order 4599676419421066582 4599676419421066582 == some Ordering.eq) = true := by decide +kernel
  have O1 := Lib.hid o1
  have O2 := Lib.hid o2
  clear o1 o2
  go_enter Tryz.func25, Tryz.ntmps25
  go_wp2_with fail
  refine (l_num1 _ _ (M.out.nth 0 rfl).pc (M.out.nth 0 rfl).pf).mono ?_
  rintro r w1 ⟨rfl, hp⟩
  replace M := Lib.hid (M.out.put hp (Nat.le_refl _) (by simp))
  clear hp
  go_wp2_with fail
  refine (l_num3 _ _ (M.out.nth 0 rfl).pc (M.out.nth 0 rfl).pf).mono ?_
  rintro r w2 ⟨rfl, hp⟩
  replace M := Lib.hid (M.out.put hp (Nat.le_refl _) (by simp))
  have z1 : w.heap.size + 1 < w2.heap.size := M.out.size 1 rfl
  clear hp
  replace M : Hid (Mem w [(w.heap.size, #[.int .i64 0]), (w.heap.size + 1, #[.int .i64 0]), (w2.heap.size, #[.float .f64 4607182418800017408, .float .f64 4607182418800017408])] ((w2.alloc (.cells #[.float .f64 4607182418800017408, .float .f64 4607182418800017408] 24)).alloc (.cells #[.float .f64 4613937818241073152, .float .f64 4613937818241073152] 24))) := Lib.hid (((M.out.made _ _).below (bel1 _ _)).sub (by simp))
  go_wp2_with fail
  refine (l_div _ _ (M.out.nth 0 rfl).pc (M.out.nth 0 rfl).pf).mono ?_
  rintro r w3 ⟨rfl, hp⟩
  replace M := Lib.hid (M.out.put hp (Nat.le_refl _) (by simp; omega))
  have z2 : w2.heap.size < w3.heap.size := M.out.size 2 rfl
  clear hp
  replace M : Hid (Mem w [(w.heap.size, #[.int .i64 0]), (w.heap.size + 1, #[.int .i64 0]), (w2.heap.size, #[.float .f64 4607182418800017408, .float .f64 4607182418800017408]), (w3.heap.size, #[.float .f64 4599676419421066581, .float .f64 4599676419421066582])] (w3.alloc (.cells #[.float .f64 4599676419421066581, .float .f64 4599676419421066582] 24))) := Lib.hid ((M.out.made _ _).sub (by simp))
  go_upto_region 4 with fail
  have k1 := (M.out.nth 3 rfl).two.1
  have k2 := (M.out.nth 3 rfl).two.2
  replace M := Lib.hid M.out.drew
  have o1 := O1.out
  have o2 := O2.out
  go_region_held3 (fun w' => w'.cell? ⟨w3.heap.size, 0, none⟩ = some (.float .f64 4599676419421066581) ∧ w'.cell? ⟨w3.heap.size, 1, none⟩ = some (.float .f64 4599676419421066582)) (go_keep)
    (first
      | (go_at_call 65; refine (iv_any _ _ _).mono ?_; rintro rr w5 ⟨rfl, hb⟩; replace M := Lib.hid (M.out.below hb); clear hb; clear k1 k2; have k1 := (M.out.nth 3 rfl).two.1; have k2 := (M.out.nth 3 rfl).two.2)
      | (go_at_call 14; refine (l_same _ _ _).mono ?_; rintro rr w5 ⟨rfl, hb⟩; replace M := Lib.hid (M.out.below hb); clear hb; clear k1 k2; have k1 := (M.out.nth 3 rfl).two.1; have k2 := (M.out.nth 3 rfl).two.2)
      | (go_at_call 12; refine (l_has _).mono ?_; rintro rr w5 ⟨rfl, hb⟩; replace M := Lib.hid (M.out.below hb); clear hb; clear k1 k2; have k1 := (M.out.nth 3 rfl).two.1; have k2 := (M.out.nth 3 rfl).two.2)
      | (go_at_call 42; refine (l_add _ _ (M.out.nth 0 rfl).pc (M.out.nth 0 rfl).pf).mono ?_; rintro rr w5 ⟨rfl, hp⟩; replace M := Lib.hid (M.out.put hp (Nat.le_refl _) (by simp; omega)); clear hp; clear k1 k2; have k1 := (M.out.nth 3 rfl).two.1; have k2 := (M.out.nth 3 rfl).two.2)
      | (go_at_call 44; refine (l_mul _ _ (M.out.nth 0 rfl).pc (M.out.nth 0 rfl).pf).mono ?_; rintro rr w5 ⟨rfl, hp⟩; replace M := Lib.hid (M.out.put hp (Nat.le_refl _) (by simp; omega)); clear hp; clear k1 k2; have k1 := (M.out.nth 3 rfl).two.1; have k2 := (M.out.nth 3 rfl).two.2)
      | (go_at_call 48; refine (l_sqr _ _ (M.out.nth 0 rfl).pc (M.out.nth 0 rfl).pf).mono ?_; rintro rr w5 ⟨rfl, hp⟩; replace M := Lib.hid (M.out.put hp (Nat.le_refl _) (by simp; omega)); clear hp; clear k1 k2; have k1 := (M.out.nth 3 rfl).two.1; have k2 := (M.out.nth 3 rfl).two.2)
      | (go_at_call 66; refine (next_third _).mono ?_; rintro rr w5 ⟨rfl, rfl⟩))
  clear k1 k2 o1 o2
  go_upto_region 5 with fail
  go_cut [7] (AwCut w w2.heap.size)
  case first =>
    have M0 := M
    have k1 := (M.out.nth 2 rfl).two.1
    have k2 := (M.out.nth 2 rfl).two.2
    have z3 := M.out.size 2 rfl
    replace M := Lib.hid M.out.drew
    have T0 : Hid True := trivial
    have n1 : ¬ w5.heap.size = w2.heap.size := by have : w2.heap.size < w5.heap.size := z3; omega
    go_region_held3 (fun w' => w'.cell? ⟨w2.heap.size, 0, none⟩ = some (.float .f64 4607182418800017408) ∧ w'.cell? ⟨w2.heap.size, 1, none⟩ = some (.float .f64 4607182418800017408)) (go_keep)
      (first
        | (go_at_call 65; have _t := T0; refine (iv_any _ _ _).mono ?_; rintro rr w6 ⟨rfl, hb⟩; (with_reducible have M' := Lib.hid (M.out.below hb)); clear M hb M0; have M := M'; clear M'; clear k1 k2; have k1 := (M.out.nth 2 rfl).two.1; have k2 := (M.out.nth 2 rfl).two.2)
        | (go_at_call 65; have _t := T0; refine (iv_any _ _ _).mono ?_; rintro rr w6 ⟨rfl, hb⟩; (with_reducible have M' := Lib.hid (((M0.out.made _ _).drew).below hb)); clear M hb T0 _t; have M := M'; clear M'; clear k1 k2; have k1 := (M.out.nth 3 rfl).two.1; have k2 := (M.out.nth 3 rfl).two.2; have q0 := (M.out.nth 0 rfl).two.1; have q1 := (M.out.nth 0 rfl).two.2; have qf := (M.out.nth 0 rfl).2.2; have T1 : Hid True := trivial)
        | (go_at_call 45; have _t := T0; (with_reducible refine (l_div0 _ _ (M.out.nth 1 rfl).pc (M.out.nth 1 rfl).pf).mono ?_); rintro rr w7 ⟨rfl, hp⟩; replace M := Lib.hid (M.out.puts (M.out.nth 1 rfl) hp (by omega) [(w.heap.size, #[.int .i64 0]), (w.heap.size + 1, #[.int .i64 11]), (w2.heap.size, #[.float .f64 4607182418800017408, .float .f64 4607182418800017408])] (by simp; omega)); clear hp; clear k1 k2; have k1 := (M.out.nth 2 rfl).two.1; have k2 := (M.out.nth 2 rfl).two.2)
        | (go_at_call 45; have _t := T0; (with_reducible refine (l_div0 _ _ ((M.out.made _ _).nth 2 rfl).pc ((M.out.made _ _).nth 2 rfl).pf).mono ?_); rintro rr w7 ⟨rfl, hp⟩; have hm : w2.heap.size < w6.heap.size := M.out.size 2 rfl; have n2 : ¬ w6.heap.size = w2.heap.size := (by omega); replace M := Lib.hid ((M.out.made _ _).puts ((M.out.made _ _).nth 2 rfl) hp (by omega) ([(w.heap.size, #[.int .i64 0]), (w.heap.size + 1, #[.int .i64 11]), (w2.heap.size, #[.float .f64 4607182418800017408, .float .f64 4607182418800017408])] ++ [(w6.heap.size, #[.float .f64 0, .float .f64 0])]) (by simp; omega)); clear hp T0 _t; clear k1 k2; have k1 := (M.out.nth 2 rfl).two.1; have k2 := (M.out.nth 2 rfl).two.2; have q0 := (M.out.nth 3 rfl).two.1; have q1 := (M.out.nth 3 rfl).two.2; have qf := (M.out.nth 3 rfl).2.2)
        | (go_at_call 45; have _t := T1; (with_reducible refine (l_div0 _ _ (M.out.nth 2 rfl).pc (M.out.nth 2 rfl).pf).mono ?_); rintro rr w7 ⟨rfl, hp⟩; have hm : w2.heap.size < w5.heap.size := M0.out.size 2 rfl; replace M := Lib.hid (M.out.puts (M.out.nth 2 rfl) hp (by omega) ([(w.heap.size, #[.int .i64 0]), (w.heap.size + 1, #[.int .i64 11]), (w2.heap.size, #[.float .f64 4607182418800017408, .float .f64 4607182418800017408])] ++ [(w5.heap.size, #[.float .f64 0, .float .f64 0])]) (by simp; omega)); clear hp q0 q1 qf; clear k1 k2; have k1 := (M.out.nth 2 rfl).two.1; have k2 := (M.out.nth 2 rfl).two.2; have q0 := (M.out.nth 3 rfl).two.1; have q1 := (M.out.nth 3 rfl).two.2; have qf := (M.out.nth 3 rfl).2.2))
    all_goals (go_wp2_with fail; go_meet)
    all_goals first | exact ⟨_, rfl, M.out.size 2 rfl, (M.out.made _ _).sub (by simp)⟩ | exact ⟨_, rfl, hm, M.out.sets (M.out.nth 3 rfl) _ _ (by omega) _ (by simp; omega)⟩
  case rest =>
    obtain ⟨w6, rfl⟩ : ∃ x : World, x = wc := ⟨_, rfl⟩
    obtain ⟨q, rfl, hq, hM⟩ := hcut
    clear M
    have M := Lib.hid hM
    have k1 := (hM.nth 2 rfl).two.1
    have k2 := (hM.nth 2 rfl).two.2
    clear hM
    go_wp2_with fail
    refine (l_then _ _ (M.out.nth 1 rfl).pc (M.out.nth 1 rfl).pf).mono ?_
    rintro r w8 ⟨rfl, hp⟩
    replace M := Lib.hid (M.out.puts (M.out.nth 1 rfl) hp (by omega) [(w.heap.size, #[.int .i64 0]), (w.heap.size + 1, #[.int .i64 11]), (w2.heap.size, #[.float .f64 4607182418800017408, .float .f64 4607182418800017408]), (q, #[.float .f64 0, .float .f64 0])] (by simp; omega))
    have z4 : q < w8.heap.size := M.out.size 3 rfl
    clear hp k1 k2
    replace M : Hid (Mem w [(w.heap.size, #[.int .i64 0]), (w.heap.size + 1, #[.int .i64 11]), (q, #[.float .f64 0, .float .f64 0]), (w8.heap.size, #[.float .f64 0, .float .f64 0])] (w8.alloc (.cells #[.float .f64 0, .float .f64 0] 24))) := Lib.hid ((M.out.made _ _).sub (by simp))
    go_wp2_with fail
    refine (iv_any _ _ _).mono ?_
    rintro r w9 ⟨rfl, hb⟩
    replace M := Lib.hid (M.out.below hb)
    clear hb
    go_wp2_with fail
    refine (iv_any _ _ _).mono ?_
    rintro r w10 ⟨rfl, hb⟩
    replace M := Lib.hid (M.out.below hb)
    clear hb
    go_wp2_with fail
    refine (l_meet1 _).mono ?_
    rintro r w11 ⟨rfl, hb⟩
    replace M := Lib.hid (M.out.below hb)
    clear hb
    have z5 : w8.heap.size < w11.heap.size := M.out.size 3 rfl
    replace M : Hid (Mem w [(w.heap.size, #[.int .i64 0]), (w.heap.size + 1, #[.int .i64 11]), (q, #[.float .f64 0, .float .f64 0]), (w8.heap.size, #[.float .f64 0, .float .f64 0]), (w11.heap.size, #[.float .f64 4607182418800017408, .float .f64 4611686018427387904])] (w11.alloc (.cells #[.float .f64 4607182418800017408, .float .f64 4611686018427387904] 24))) := Lib.hid ((M.out.made _ _).sub (by simp))
    go_wp2_with fail
    refine (iv_any _ _ _).mono ?_
    rintro r w12 ⟨rfl, hb⟩
    replace M := Lib.hid (M.out.below hb)
    clear hb
    go_wp2_with fail
    refine (iv_any _ _ _).mono ?_
    rintro r w13 ⟨rfl, hb⟩
    replace M := Lib.hid (M.out.below hb)
    clear hb
    go_wp2_with fail
    refine (l_meet2 _).mono ?_
    rintro r w14 ⟨rfl, hb⟩
    replace M := Lib.hid (M.out.below hb)
    clear hb
    have z6 : w11.heap.size < w14.heap.size := M.out.size 4 rfl
    replace M := Lib.hid (M.out.below (bel1 _ (.cells #[.float .f64 0, .float .f64 0] 24)))
    go_upto_region 9 with fail
    have k1 := (M.out.nth 2 rfl).two.1
    have k2 := (M.out.nth 2 rfl).two.2
    have k3 := (M.out.nth 3 rfl).two.1
    have k4 := (M.out.nth 3 rfl).two.2
    have k5 := (M.out.nth 4 rfl).two.1
    have k6 := (M.out.nth 4 rfl).two.2
    replace M := Lib.hid M.out.drew
    go_region_held3 (fun w' => w'.cell? ⟨q, 0, none⟩ = some (.float .f64 0) ∧ w'.cell? ⟨q, 1, none⟩ = some (.float .f64 0) ∧ w'.cell? ⟨w8.heap.size, 0, none⟩ = some (.float .f64 0) ∧ w'.cell? ⟨w8.heap.size, 1, none⟩ = some (.float .f64 0) ∧ w'.cell? ⟨w11.heap.size, 0, none⟩ = some (.float .f64 4607182418800017408) ∧ w'.cell? ⟨w11.heap.size, 1, none⟩ = some (.float .f64 4611686018427387904)) (go_keep)
      (first
        | (go_at_call 22; (with_reducible refine (err_any 0 w.heap.size 0 _ (M.out.nth 0 rfl).pc).mono ?_); rintro rr w16 ⟨rfl, rfl⟩)
        | (go_at_call 22; (with_reducible refine (err_any 11 (w.heap.size + 1) 0 _ (M.out.nth 1 rfl).pc).mono ?_); rintro rr w16 ⟨rfl, rfl⟩)
        | (go_at_call 64; (with_reducible refine (pi_down _).mono ?_); rintro rr w16 ⟨rfl, rfl⟩)
        | (go_at_call 64; (with_reducible refine (pi_up _).mono ?_); rintro rr w16 ⟨rfl, rfl⟩)
        | (go_at_call 23; refine (pi_any _).mono ?_; rintro rr w16 ⟨rfl, hb⟩; replace M := Lib.hid (M.out.below hb); clear hb; clear k1 k2 k3 k4 k5 k6; have k1 := (M.out.nth 2 rfl).two.1; have k2 := (M.out.nth 2 rfl).two.2; have k3 := (M.out.nth 3 rfl).two.1; have k4 := (M.out.nth 3 rfl).two.2; have k5 := (M.out.nth 4 rfl).two.1; have k6 := (M.out.nth 4 rfl).two.2)
        | (go_at_call 65; refine (iv_any _ _ _).mono ?_; rintro rr w16 ⟨rfl, hb⟩; replace M := Lib.hid (M.out.below hb); clear hb; clear k1 k2 k3 k4 k5 k6; have k1 := (M.out.nth 2 rfl).two.1; have k2 := (M.out.nth 2 rfl).two.2; have k3 := (M.out.nth 3 rfl).two.1; have k4 := (M.out.nth 3 rfl).two.2; have k5 := (M.out.nth 4 rfl).two.1; have k6 := (M.out.nth 4 rfl).two.2)
        | (go_at_call 14; refine (l_same _ _ _).mono ?_; rintro rr w16 ⟨rfl, hb⟩; replace M := Lib.hid (M.out.below hb); clear hb; clear k1 k2 k3 k4 k5 k6; have k1 := (M.out.nth 2 rfl).two.1; have k2 := (M.out.nth 2 rfl).two.2; have k3 := (M.out.nth 3 rfl).two.1; have k4 := (M.out.nth 3 rfl).two.2; have k5 := (M.out.nth 4 rfl).two.1; have k6 := (M.out.nth 4 rfl).two.2))
    all_goals go_wp2
    all_goals go_ret
    all_goals exact ⟨rfl, M.out.base⟩

end Go.Proofs.YtmcecchcbfhfcaaGreat

namespace Go.Proofs.YtmcecchcbfhfcaaGreat
open Go.RowKit
attribute [local go_sem] run_store_float

/-- What the op number j answers, and what must be right for it. -/
def askI (al ah bl bh : Nat) : Nat → Res
  | 0 => addI al ah bl bh | 1 => subI al ah bl bh | 2 => mulI al ah bl bh | 3 => divI al ah bl bh | 4 => minI al ah bl bh | 5 => maxI al ah bl bh
  | 6 => sqrI al ah | 7 => sqrtI al ah | 8 => negI al ah | 9 => absI al ah | _ => ofI al
def askB (al ah bl bh : Nat) : Nat → Bool
  | 0 => ivR al ah && ivR bl bh | 1 => ivR al ah && ivR bl bh | 2 => ivR al ah && ivR bl bh | 3 => ivR al ah && ivR bl bh | 4 => ivR al ah && ivR bl bh | 5 => ivR al ah && ivR bl bh
  | 6 => ivR al ah | 7 => ivR al ah | 8 => ivR al ah | 9 => ivR al ah | _ => true
def askR (e : Int) (al ah bl bh j : Nat) : Res := stepI e (askB al ah bl bh j) (askI al ah bl bh j)

set_option maxRecDepth 100000 in
set_option maxHeartbeats 1000000 in
theorem asked_0 (e : Int) (n : Nat) (al ah bl bh pb po : Nat) (w : World) (h0 : n < 256) (la : al < 18446744073709551616) (ha : ah < 18446744073709551616) (lb : bl < 18446744073709551616) (hb : bh < 18446744073709551616) (hc : w.cell? ⟨pb, po, none⟩ = some (.int .i64 e)) (hf : w.frozen? ⟨pb, po, none⟩ = false) (hn : (n : Int) % 11 = 0) :
    Calls Tryz.prog 20 #[.agg #[.int .u8 n, .float .f64 al, .float .f64 ah, .float .f64 bl, .float .f64 bh], .pointer (some ⟨pb, po, none⟩)] w (Told (askR e al ah bl bh 0) pb po w) := by
  have M := Lib.hid (Mem.two w #[.int .u8 n, .float .f64 al, .float .f64 ah, .float .f64 bl, .float .f64 bh] #[.float .f64 0, .float .f64 0] 44 24)
  obtain ⟨R, hR⟩ : ∃ R, R = askR e al ah bl bh 0 := ⟨_, rfl⟩
  have cC : Hid (∀ w, w.cell? ⟨pb, po, none⟩ = some (.int .i64 e) → w.frozen? ⟨pb, po, none⟩ = false → Calls Tryz.prog 42 #[.pointer (some ⟨pb, po, none⟩), .agg #[.float .f64 al, .float .f64 ah], .agg #[.float .f64 bl, .float .f64 bh]] w (Told R pb po w)) := fun w hc hf => by rw [hR]; exact cAdd_any e al ah bl bh pb po w la ha lb hb hc hf
  rw [← hR]
  have hz : pb < w.heap.size := cell_lt hc
  have HC := Lib.hid ((M.out.base.cell hz).trans hc)
  have HF := Lib.hid ((M.out.base.frozen hz).trans hf)
  clear hR hc hf
  have t0 : ((n : Int) % 11 == 0) = true := by rw [hn]; rfl
  have g0 : (0 : Int) ≤ n := by omega
  have g1 : (n : Int) ≤ 255 := by omega
  clear h0 hn la ha lb hb
  go_enter Tryz.func20, Tryz.ntmps20
  go_wp2_with fail
  refine (cC.out _ HC.out HF.out).mono ?_
  rintro r w1 ⟨rfl, hp⟩
  have HP := Lib.hid (Put.after M.out.base hp)
  have h2 := (M.out.nth 1 rfl).put (by show pb ≠ w.heap.size + 1; omega) hp
  have c2 := h2.2.1
  have f2 := h2.2.2
  clear hp h2 M
  go_wp2
  exact bodyPost_ret (v := .agg #[.float .f64 R.lo, .float .f64 R.hi]) (by simp [results, Tryz.results20, go_sem, c2]) rfl ⟨rfl, (Below.setCell HP.out (by show _ ≤ w.heap.size + 1; omega) _).setCell (by show _ ≤ w.heap.size + 1; omega) _⟩

set_option maxRecDepth 100000 in
set_option maxHeartbeats 1000000 in
theorem asked_nil0 (n : Nat) (al ah bl bh : Nat) (w : World) (h0 : n < 256) (hn : (n : Int) % 11 = 0) :
    Calls Tryz.prog 20 #[.agg #[.int .u8 n, .float .f64 al, .float .f64 ah, .float .f64 bl, .float .f64 bh], .pointer none] w fun r w' => r = .returned (.agg #[.float .f64 0, .float .f64 0]) ∧ Below w.heap.size w w' := by
  have M := Lib.hid (Mem.two w #[.int .u8 n, .float .f64 al, .float .f64 ah, .float .f64 bl, .float .f64 bh] #[.float .f64 0, .float .f64 0] 44 24)
  have cC := Lib.hid (fun w => cAdd_nil al ah bl bh w)
  have t0 : ((n : Int) % 11 == 0) = true := by rw [hn]; rfl
  have g0 : (0 : Int) ≤ n := by omega
  have g1 : (n : Int) ≤ 255 := by omega
  clear h0 hn
  go_enter Tryz.func20, Tryz.ntmps20
  go_wp2_with fail
  refine (cC.out _).mono ?_
  rintro r w1 ⟨rfl, hb⟩
  replace M := Lib.hid (M.out.below hb)
  clear hb
  have c2 := (M.out.nth 1 rfl).2.1
  have f2 := (M.out.nth 1 rfl).2.2
  go_wp2
  exact bodyPost_ret (v := .agg #[.float .f64 0, .float .f64 0]) (by simp [results, Tryz.results20, go_sem, c2]) rfl ⟨rfl, (Below.setCell M.out.base (by show _ ≤ w.heap.size + 1; omega) _).setCell (by show _ ≤ w.heap.size + 1; omega) _⟩

set_option maxRecDepth 100000 in
set_option maxHeartbeats 1000000 in
theorem asked_1 (e : Int) (n : Nat) (al ah bl bh pb po : Nat) (w : World) (h0 : n < 256) (la : al < 18446744073709551616) (ha : ah < 18446744073709551616) (lb : bl < 18446744073709551616) (hb : bh < 18446744073709551616) (hc : w.cell? ⟨pb, po, none⟩ = some (.int .i64 e)) (hf : w.frozen? ⟨pb, po, none⟩ = false) (hn : (n : Int) % 11 = 1) :
    Calls Tryz.prog 20 #[.agg #[.int .u8 n, .float .f64 al, .float .f64 ah, .float .f64 bl, .float .f64 bh], .pointer (some ⟨pb, po, none⟩)] w (Told (askR e al ah bl bh 1) pb po w) := by
  have M := Lib.hid (Mem.two w #[.int .u8 n, .float .f64 al, .float .f64 ah, .float .f64 bl, .float .f64 bh] #[.float .f64 0, .float .f64 0] 44 24)
  obtain ⟨R, hR⟩ : ∃ R, R = askR e al ah bl bh 1 := ⟨_, rfl⟩
  have cC : Hid (∀ w, w.cell? ⟨pb, po, none⟩ = some (.int .i64 e) → w.frozen? ⟨pb, po, none⟩ = false → Calls Tryz.prog 43 #[.pointer (some ⟨pb, po, none⟩), .agg #[.float .f64 al, .float .f64 ah], .agg #[.float .f64 bl, .float .f64 bh]] w (Told R pb po w)) := fun w hc hf => by rw [hR]; exact cSub_any e al ah bl bh pb po w la ha lb hb hc hf
  rw [← hR]
  have hz : pb < w.heap.size := cell_lt hc
  have HC := Lib.hid ((M.out.base.cell hz).trans hc)
  have HF := Lib.hid ((M.out.base.frozen hz).trans hf)
  clear hR hc hf
  have t0 : ((n : Int) % 11 == 0) = false := by rw [hn]; rfl
  have t1 : ((n : Int) % 11 == 1) = true := by rw [hn]; rfl
  have g0 : (0 : Int) ≤ n := by omega
  have g1 : (n : Int) ≤ 255 := by omega
  clear h0 hn la ha lb hb
  go_enter Tryz.func20, Tryz.ntmps20
  go_wp2_with fail
  refine (cC.out _ HC.out HF.out).mono ?_
  rintro r w1 ⟨rfl, hp⟩
  have HP := Lib.hid (Put.after M.out.base hp)
  have h2 := (M.out.nth 1 rfl).put (by show pb ≠ w.heap.size + 1; omega) hp
  have c2 := h2.2.1
  have f2 := h2.2.2
  clear hp h2 M
  go_wp2
  exact bodyPost_ret (v := .agg #[.float .f64 R.lo, .float .f64 R.hi]) (by simp [results, Tryz.results20, go_sem, c2]) rfl ⟨rfl, (Below.setCell HP.out (by show _ ≤ w.heap.size + 1; omega) _).setCell (by show _ ≤ w.heap.size + 1; omega) _⟩

set_option maxRecDepth 100000 in
set_option maxHeartbeats 1000000 in
theorem asked_nil1 (n : Nat) (al ah bl bh : Nat) (w : World) (h0 : n < 256) (hn : (n : Int) % 11 = 1) :
    Calls Tryz.prog 20 #[.agg #[.int .u8 n, .float .f64 al, .float .f64 ah, .float .f64 bl, .float .f64 bh], .pointer none] w fun r w' => r = .returned (.agg #[.float .f64 0, .float .f64 0]) ∧ Below w.heap.size w w' := by
  have M := Lib.hid (Mem.two w #[.int .u8 n, .float .f64 al, .float .f64 ah, .float .f64 bl, .float .f64 bh] #[.float .f64 0, .float .f64 0] 44 24)
  have cC := Lib.hid (fun w => cSub_nil al ah bl bh w)
  have t0 : ((n : Int) % 11 == 0) = false := by rw [hn]; rfl
  have t1 : ((n : Int) % 11 == 1) = true := by rw [hn]; rfl
  have g0 : (0 : Int) ≤ n := by omega
  have g1 : (n : Int) ≤ 255 := by omega
  clear h0 hn
  go_enter Tryz.func20, Tryz.ntmps20
  go_wp2_with fail
  refine (cC.out _).mono ?_
  rintro r w1 ⟨rfl, hb⟩
  replace M := Lib.hid (M.out.below hb)
  clear hb
  have c2 := (M.out.nth 1 rfl).2.1
  have f2 := (M.out.nth 1 rfl).2.2
  go_wp2
  exact bodyPost_ret (v := .agg #[.float .f64 0, .float .f64 0]) (by simp [results, Tryz.results20, go_sem, c2]) rfl ⟨rfl, (Below.setCell M.out.base (by show _ ≤ w.heap.size + 1; omega) _).setCell (by show _ ≤ w.heap.size + 1; omega) _⟩

set_option maxRecDepth 100000 in
set_option maxHeartbeats 1000000 in
theorem asked_2 (e : Int) (n : Nat) (al ah bl bh pb po : Nat) (w : World) (h0 : n < 256) (la : al < 18446744073709551616) (ha : ah < 18446744073709551616) (lb : bl < 18446744073709551616) (hb : bh < 18446744073709551616) (hc : w.cell? ⟨pb, po, none⟩ = some (.int .i64 e)) (hf : w.frozen? ⟨pb, po, none⟩ = false) (hn : (n : Int) % 11 = 2) :
    Calls Tryz.prog 20 #[.agg #[.int .u8 n, .float .f64 al, .float .f64 ah, .float .f64 bl, .float .f64 bh], .pointer (some ⟨pb, po, none⟩)] w (Told (askR e al ah bl bh 2) pb po w) := by
  have M := Lib.hid (Mem.two w #[.int .u8 n, .float .f64 al, .float .f64 ah, .float .f64 bl, .float .f64 bh] #[.float .f64 0, .float .f64 0] 44 24)
  obtain ⟨R, hR⟩ : ∃ R, R = askR e al ah bl bh 2 := ⟨_, rfl⟩
  have cC : Hid (∀ w, w.cell? ⟨pb, po, none⟩ = some (.int .i64 e) → w.frozen? ⟨pb, po, none⟩ = false → Calls Tryz.prog 44 #[.pointer (some ⟨pb, po, none⟩), .agg #[.float .f64 al, .float .f64 ah], .agg #[.float .f64 bl, .float .f64 bh]] w (Told R pb po w)) := fun w hc hf => by rw [hR]; exact cMul_any e al ah bl bh pb po w la ha lb hb hc hf
  rw [← hR]
  have hz : pb < w.heap.size := cell_lt hc
  have HC := Lib.hid ((M.out.base.cell hz).trans hc)
  have HF := Lib.hid ((M.out.base.frozen hz).trans hf)
  clear hR hc hf
  have t0 : ((n : Int) % 11 == 0) = false := by rw [hn]; rfl
  have t1 : ((n : Int) % 11 == 1) = false := by rw [hn]; rfl
  have t2 : ((n : Int) % 11 == 2) = true := by rw [hn]; rfl
  have g0 : (0 : Int) ≤ n := by omega
  have g1 : (n : Int) ≤ 255 := by omega
  clear h0 hn la ha lb hb
  go_enter Tryz.func20, Tryz.ntmps20
  go_wp2_with fail
  refine (cC.out _ HC.out HF.out).mono ?_
  rintro r w1 ⟨rfl, hp⟩
  have HP := Lib.hid (Put.after M.out.base hp)
  have h2 := (M.out.nth 1 rfl).put (by show pb ≠ w.heap.size + 1; omega) hp
  have c2 := h2.2.1
  have f2 := h2.2.2
  clear hp h2 M
  go_wp2
  exact bodyPost_ret (v := .agg #[.float .f64 R.lo, .float .f64 R.hi]) (by simp [results, Tryz.results20, go_sem, c2]) rfl ⟨rfl, (Below.setCell HP.out (by show _ ≤ w.heap.size + 1; omega) _).setCell (by show _ ≤ w.heap.size + 1; omega) _⟩

set_option maxRecDepth 100000 in
set_option maxHeartbeats 1000000 in
theorem asked_nil2 (n : Nat) (al ah bl bh : Nat) (w : World) (h0 : n < 256) (hn : (n : Int) % 11 = 2) :
    Calls Tryz.prog 20 #[.agg #[.int .u8 n, .float .f64 al, .float .f64 ah, .float .f64 bl, .float .f64 bh], .pointer none] w fun r w' => r = .returned (.agg #[.float .f64 0, .float .f64 0]) ∧ Below w.heap.size w w' := by
  have M := Lib.hid (Mem.two w #[.int .u8 n, .float .f64 al, .float .f64 ah, .float .f64 bl, .float .f64 bh] #[.float .f64 0, .float .f64 0] 44 24)
  have cC := Lib.hid (fun w => cMul_nil al ah bl bh w)
  have t0 : ((n : Int) % 11 == 0) = false := by rw [hn]; rfl
  have t1 : ((n : Int) % 11 == 1) = false := by rw [hn]; rfl
  have t2 : ((n : Int) % 11 == 2) = true := by rw [hn]; rfl
  have g0 : (0 : Int) ≤ n := by omega
  have g1 : (n : Int) ≤ 255 := by omega
  clear h0 hn
  go_enter Tryz.func20, Tryz.ntmps20
  go_wp2_with fail
  refine (cC.out _).mono ?_
  rintro r w1 ⟨rfl, hb⟩
  replace M := Lib.hid (M.out.below hb)
  clear hb
  have c2 := (M.out.nth 1 rfl).2.1
  have f2 := (M.out.nth 1 rfl).2.2
  go_wp2
  exact bodyPost_ret (v := .agg #[.float .f64 0, .float .f64 0]) (by simp [results, Tryz.results20, go_sem, c2]) rfl ⟨rfl, (Below.setCell M.out.base (by show _ ≤ w.heap.size + 1; omega) _).setCell (by show _ ≤ w.heap.size + 1; omega) _⟩

set_option maxRecDepth 100000 in
set_option maxHeartbeats 1000000 in
theorem asked_3 (e : Int) (n : Nat) (al ah bl bh pb po : Nat) (w : World) (h0 : n < 256) (la : al < 18446744073709551616) (ha : ah < 18446744073709551616) (lb : bl < 18446744073709551616) (hb : bh < 18446744073709551616) (hc : w.cell? ⟨pb, po, none⟩ = some (.int .i64 e)) (hf : w.frozen? ⟨pb, po, none⟩ = false) (hn : (n : Int) % 11 = 3) :
    Calls Tryz.prog 20 #[.agg #[.int .u8 n, .float .f64 al, .float .f64 ah, .float .f64 bl, .float .f64 bh], .pointer (some ⟨pb, po, none⟩)] w (Told (askR e al ah bl bh 3) pb po w) := by
  have M := Lib.hid (Mem.two w #[.int .u8 n, .float .f64 al, .float .f64 ah, .float .f64 bl, .float .f64 bh] #[.float .f64 0, .float .f64 0] 44 24)
  obtain ⟨R, hR⟩ : ∃ R, R = askR e al ah bl bh 3 := ⟨_, rfl⟩
  have cC : Hid (∀ w, w.cell? ⟨pb, po, none⟩ = some (.int .i64 e) → w.frozen? ⟨pb, po, none⟩ = false → Calls Tryz.prog 45 #[.pointer (some ⟨pb, po, none⟩), .agg #[.float .f64 al, .float .f64 ah], .agg #[.float .f64 bl, .float .f64 bh]] w (Told R pb po w)) := fun w hc hf => by rw [hR]; exact cDiv_any e al ah bl bh pb po w la ha lb hb hc hf
  rw [← hR]
  have hz : pb < w.heap.size := cell_lt hc
  have HC := Lib.hid ((M.out.base.cell hz).trans hc)
  have HF := Lib.hid ((M.out.base.frozen hz).trans hf)
  clear hR hc hf
  have t0 : ((n : Int) % 11 == 0) = false := by rw [hn]; rfl
  have t1 : ((n : Int) % 11 == 1) = false := by rw [hn]; rfl
  have t2 : ((n : Int) % 11 == 2) = false := by rw [hn]; rfl
  have t3 : ((n : Int) % 11 == 3) = true := by rw [hn]; rfl
  have g0 : (0 : Int) ≤ n := by omega
  have g1 : (n : Int) ≤ 255 := by omega
  clear h0 hn la ha lb hb
  go_enter Tryz.func20, Tryz.ntmps20
  go_wp2_with fail
  refine (cC.out _ HC.out HF.out).mono ?_
  rintro r w1 ⟨rfl, hp⟩
  have HP := Lib.hid (Put.after M.out.base hp)
  have h2 := (M.out.nth 1 rfl).put (by show pb ≠ w.heap.size + 1; omega) hp
  have c2 := h2.2.1
  have f2 := h2.2.2
  clear hp h2 M
  go_wp2
  exact bodyPost_ret (v := .agg #[.float .f64 R.lo, .float .f64 R.hi]) (by simp [results, Tryz.results20, go_sem, c2]) rfl ⟨rfl, (Below.setCell HP.out (by show _ ≤ w.heap.size + 1; omega) _).setCell (by show _ ≤ w.heap.size + 1; omega) _⟩

set_option maxRecDepth 100000 in
set_option maxHeartbeats 1000000 in
theorem asked_nil3 (n : Nat) (al ah bl bh : Nat) (w : World) (h0 : n < 256) (hn : (n : Int) % 11 = 3) :
    Calls Tryz.prog 20 #[.agg #[.int .u8 n, .float .f64 al, .float .f64 ah, .float .f64 bl, .float .f64 bh], .pointer none] w fun r w' => r = .returned (.agg #[.float .f64 0, .float .f64 0]) ∧ Below w.heap.size w w' := by
  have M := Lib.hid (Mem.two w #[.int .u8 n, .float .f64 al, .float .f64 ah, .float .f64 bl, .float .f64 bh] #[.float .f64 0, .float .f64 0] 44 24)
  have cC := Lib.hid (fun w => cDiv_nil al ah bl bh w)
  have t0 : ((n : Int) % 11 == 0) = false := by rw [hn]; rfl
  have t1 : ((n : Int) % 11 == 1) = false := by rw [hn]; rfl
  have t2 : ((n : Int) % 11 == 2) = false := by rw [hn]; rfl
  have t3 : ((n : Int) % 11 == 3) = true := by rw [hn]; rfl
  have g0 : (0 : Int) ≤ n := by omega
  have g1 : (n : Int) ≤ 255 := by omega
  clear h0 hn
  go_enter Tryz.func20, Tryz.ntmps20
  go_wp2_with fail
  refine (cC.out _).mono ?_
  rintro r w1 ⟨rfl, hb⟩
  replace M := Lib.hid (M.out.below hb)
  clear hb
  have c2 := (M.out.nth 1 rfl).2.1
  have f2 := (M.out.nth 1 rfl).2.2
  go_wp2
  exact bodyPost_ret (v := .agg #[.float .f64 0, .float .f64 0]) (by simp [results, Tryz.results20, go_sem, c2]) rfl ⟨rfl, (Below.setCell M.out.base (by show _ ≤ w.heap.size + 1; omega) _).setCell (by show _ ≤ w.heap.size + 1; omega) _⟩

set_option maxRecDepth 100000 in
set_option maxHeartbeats 1000000 in
theorem asked_4 (e : Int) (n : Nat) (al ah bl bh pb po : Nat) (w : World) (h0 : n < 256) (la : al < 18446744073709551616) (ha : ah < 18446744073709551616) (lb : bl < 18446744073709551616) (hb : bh < 18446744073709551616) (hc : w.cell? ⟨pb, po, none⟩ = some (.int .i64 e)) (hf : w.frozen? ⟨pb, po, none⟩ = false) (hn : (n : Int) % 11 = 4) :
    Calls Tryz.prog 20 #[.agg #[.int .u8 n, .float .f64 al, .float .f64 ah, .float .f64 bl, .float .f64 bh], .pointer (some ⟨pb, po, none⟩)] w (Told (askR e al ah bl bh 4) pb po w) := by
  have M := Lib.hid (Mem.two w #[.int .u8 n, .float .f64 al, .float .f64 ah, .float .f64 bl, .float .f64 bh] #[.float .f64 0, .float .f64 0] 44 24)
  obtain ⟨R, hR⟩ : ∃ R, R = askR e al ah bl bh 4 := ⟨_, rfl⟩
  have cC : Hid (∀ w, w.cell? ⟨pb, po, none⟩ = some (.int .i64 e) → w.frozen? ⟨pb, po, none⟩ = false → Calls Tryz.prog 46 #[.pointer (some ⟨pb, po, none⟩), .agg #[.float .f64 al, .float .f64 ah], .agg #[.float .f64 bl, .float .f64 bh]] w (Told R pb po w)) := fun w hc hf => by rw [hR]; exact cMin_any e al ah bl bh pb po w la ha lb hb hc hf
  rw [← hR]
  have hz : pb < w.heap.size := cell_lt hc
  have HC := Lib.hid ((M.out.base.cell hz).trans hc)
  have HF := Lib.hid ((M.out.base.frozen hz).trans hf)
  clear hR hc hf
  have t0 : ((n : Int) % 11 == 0) = false := by rw [hn]; rfl
  have t1 : ((n : Int) % 11 == 1) = false := by rw [hn]; rfl
  have t2 : ((n : Int) % 11 == 2) = false := by rw [hn]; rfl
  have t3 : ((n : Int) % 11 == 3) = false := by rw [hn]; rfl
  have t4 : ((n : Int) % 11 == 4) = true := by rw [hn]; rfl
  have g0 : (0 : Int) ≤ n := by omega
  have g1 : (n : Int) ≤ 255 := by omega
  clear h0 hn la ha lb hb
  go_enter Tryz.func20, Tryz.ntmps20
  go_wp2_with fail
  refine (cC.out _ HC.out HF.out).mono ?_
  rintro r w1 ⟨rfl, hp⟩
  have HP := Lib.hid (Put.after M.out.base hp)
  have h2 := (M.out.nth 1 rfl).put (by show pb ≠ w.heap.size + 1; omega) hp
  have c2 := h2.2.1
  have f2 := h2.2.2
  clear hp h2 M
  go_wp2
  exact bodyPost_ret (v := .agg #[.float .f64 R.lo, .float .f64 R.hi]) (by simp [results, Tryz.results20, go_sem, c2]) rfl ⟨rfl, (Below.setCell HP.out (by show _ ≤ w.heap.size + 1; omega) _).setCell (by show _ ≤ w.heap.size + 1; omega) _⟩

set_option maxRecDepth 100000 in
set_option maxHeartbeats 1000000 in
theorem asked_nil4 (n : Nat) (al ah bl bh : Nat) (w : World) (h0 : n < 256) (hn : (n : Int) % 11 = 4) :
    Calls Tryz.prog 20 #[.agg #[.int .u8 n, .float .f64 al, .float .f64 ah, .float .f64 bl, .float .f64 bh], .pointer none] w fun r w' => r = .returned (.agg #[.float .f64 0, .float .f64 0]) ∧ Below w.heap.size w w' := by
  have M := Lib.hid (Mem.two w #[.int .u8 n, .float .f64 al, .float .f64 ah, .float .f64 bl, .float .f64 bh] #[.float .f64 0, .float .f64 0] 44 24)
  have cC := Lib.hid (fun w => cMin_nil al ah bl bh w)
  have t0 : ((n : Int) % 11 == 0) = false := by rw [hn]; rfl
  have t1 : ((n : Int) % 11 == 1) = false := by rw [hn]; rfl
  have t2 : ((n : Int) % 11 == 2) = false := by rw [hn]; rfl
  have t3 : ((n : Int) % 11 == 3) = false := by rw [hn]; rfl
  have t4 : ((n : Int) % 11 == 4) = true := by rw [hn]; rfl
  have g0 : (0 : Int) ≤ n := by omega
  have g1 : (n : Int) ≤ 255 := by omega
  clear h0 hn
  go_enter Tryz.func20, Tryz.ntmps20
  go_wp2_with fail
  refine (cC.out _).mono ?_
  rintro r w1 ⟨rfl, hb⟩
  replace M := Lib.hid (M.out.below hb)
  clear hb
  have c2 := (M.out.nth 1 rfl).2.1
  have f2 := (M.out.nth 1 rfl).2.2
  go_wp2
  exact bodyPost_ret (v := .agg #[.float .f64 0, .float .f64 0]) (by simp [results, Tryz.results20, go_sem, c2]) rfl ⟨rfl, (Below.setCell M.out.base (by show _ ≤ w.heap.size + 1; omega) _).setCell (by show _ ≤ w.heap.size + 1; omega) _⟩

set_option maxRecDepth 100000 in
set_option maxHeartbeats 1000000 in
theorem asked_5 (e : Int) (n : Nat) (al ah bl bh pb po : Nat) (w : World) (h0 : n < 256) (la : al < 18446744073709551616) (ha : ah < 18446744073709551616) (lb : bl < 18446744073709551616) (hb : bh < 18446744073709551616) (hc : w.cell? ⟨pb, po, none⟩ = some (.int .i64 e)) (hf : w.frozen? ⟨pb, po, none⟩ = false) (hn : (n : Int) % 11 = 5) :
    Calls Tryz.prog 20 #[.agg #[.int .u8 n, .float .f64 al, .float .f64 ah, .float .f64 bl, .float .f64 bh], .pointer (some ⟨pb, po, none⟩)] w (Told (askR e al ah bl bh 5) pb po w) := by
  have M := Lib.hid (Mem.two w #[.int .u8 n, .float .f64 al, .float .f64 ah, .float .f64 bl, .float .f64 bh] #[.float .f64 0, .float .f64 0] 44 24)
  obtain ⟨R, hR⟩ : ∃ R, R = askR e al ah bl bh 5 := ⟨_, rfl⟩
  have cC : Hid (∀ w, w.cell? ⟨pb, po, none⟩ = some (.int .i64 e) → w.frozen? ⟨pb, po, none⟩ = false → Calls Tryz.prog 47 #[.pointer (some ⟨pb, po, none⟩), .agg #[.float .f64 al, .float .f64 ah], .agg #[.float .f64 bl, .float .f64 bh]] w (Told R pb po w)) := fun w hc hf => by rw [hR]; exact cMax_any e al ah bl bh pb po w la ha lb hb hc hf
  rw [← hR]
  have hz : pb < w.heap.size := cell_lt hc
  have HC := Lib.hid ((M.out.base.cell hz).trans hc)
  have HF := Lib.hid ((M.out.base.frozen hz).trans hf)
  clear hR hc hf
  have t0 : ((n : Int) % 11 == 0) = false := by rw [hn]; rfl
  have t1 : ((n : Int) % 11 == 1) = false := by rw [hn]; rfl
  have t2 : ((n : Int) % 11 == 2) = false := by rw [hn]; rfl
  have t3 : ((n : Int) % 11 == 3) = false := by rw [hn]; rfl
  have t4 : ((n : Int) % 11 == 4) = false := by rw [hn]; rfl
  have t5 : ((n : Int) % 11 == 5) = true := by rw [hn]; rfl
  have g0 : (0 : Int) ≤ n := by omega
  have g1 : (n : Int) ≤ 255 := by omega
  clear h0 hn la ha lb hb
  go_enter Tryz.func20, Tryz.ntmps20
  go_wp2_with fail
  refine (cC.out _ HC.out HF.out).mono ?_
  rintro r w1 ⟨rfl, hp⟩
  have HP := Lib.hid (Put.after M.out.base hp)
  have h2 := (M.out.nth 1 rfl).put (by show pb ≠ w.heap.size + 1; omega) hp
  have c2 := h2.2.1
  have f2 := h2.2.2
  clear hp h2 M
  go_wp2
  exact bodyPost_ret (v := .agg #[.float .f64 R.lo, .float .f64 R.hi]) (by simp [results, Tryz.results20, go_sem, c2]) rfl ⟨rfl, (Below.setCell HP.out (by show _ ≤ w.heap.size + 1; omega) _).setCell (by show _ ≤ w.heap.size + 1; omega) _⟩

set_option maxRecDepth 100000 in
set_option maxHeartbeats 1000000 in
theorem asked_nil5 (n : Nat) (al ah bl bh : Nat) (w : World) (h0 : n < 256) (hn : (n : Int) % 11 = 5) :
    Calls Tryz.prog 20 #[.agg #[.int .u8 n, .float .f64 al, .float .f64 ah, .float .f64 bl, .float .f64 bh], .pointer none] w fun r w' => r = .returned (.agg #[.float .f64 0, .float .f64 0]) ∧ Below w.heap.size w w' := by
  have M := Lib.hid (Mem.two w #[.int .u8 n, .float .f64 al, .float .f64 ah, .float .f64 bl, .float .f64 bh] #[.float .f64 0, .float .f64 0] 44 24)
  have cC := Lib.hid (fun w => cMax_nil al ah bl bh w)
  have t0 : ((n : Int) % 11 == 0) = false := by rw [hn]; rfl
  have t1 : ((n : Int) % 11 == 1) = false := by rw [hn]; rfl
  have t2 : ((n : Int) % 11 == 2) = false := by rw [hn]; rfl
  have t3 : ((n : Int) % 11 == 3) = false := by rw [hn]; rfl
  have t4 : ((n : Int) % 11 == 4) = false := by rw [hn]; rfl
  have t5 : ((n : Int) % 11 == 5) = true := by rw [hn]; rfl
  have g0 : (0 : Int) ≤ n := by omega
  have g1 : (n : Int) ≤ 255 := by omega
  clear h0 hn
  go_enter Tryz.func20, Tryz.ntmps20
  go_wp2_with fail
  refine (cC.out _).mono ?_
  rintro r w1 ⟨rfl, hb⟩
  replace M := Lib.hid (M.out.below hb)
  clear hb
  have c2 := (M.out.nth 1 rfl).2.1
  have f2 := (M.out.nth 1 rfl).2.2
  go_wp2
  exact bodyPost_ret (v := .agg #[.float .f64 0, .float .f64 0]) (by simp [results, Tryz.results20, go_sem, c2]) rfl ⟨rfl, (Below.setCell M.out.base (by show _ ≤ w.heap.size + 1; omega) _).setCell (by show _ ≤ w.heap.size + 1; omega) _⟩

set_option maxRecDepth 100000 in
set_option maxHeartbeats 1000000 in
theorem asked_6 (e : Int) (n : Nat) (al ah bl bh pb po : Nat) (w : World) (h0 : n < 256) (la : al < 18446744073709551616) (ha : ah < 18446744073709551616) (hc : w.cell? ⟨pb, po, none⟩ = some (.int .i64 e)) (hf : w.frozen? ⟨pb, po, none⟩ = false) (hn : (n : Int) % 11 = 6) :
    Calls Tryz.prog 20 #[.agg #[.int .u8 n, .float .f64 al, .float .f64 ah, .float .f64 bl, .float .f64 bh], .pointer (some ⟨pb, po, none⟩)] w (Told (askR e al ah bl bh 6) pb po w) := by
  have M := Lib.hid (Mem.two w #[.int .u8 n, .float .f64 al, .float .f64 ah, .float .f64 bl, .float .f64 bh] #[.float .f64 0, .float .f64 0] 44 24)
  obtain ⟨R, hR⟩ : ∃ R, R = askR e al ah bl bh 6 := ⟨_, rfl⟩
  have cC : Hid (∀ w, w.cell? ⟨pb, po, none⟩ = some (.int .i64 e) → w.frozen? ⟨pb, po, none⟩ = false → Calls Tryz.prog 48 #[.pointer (some ⟨pb, po, none⟩), .agg #[.float .f64 al, .float .f64 ah]] w (Told R pb po w)) := fun w hc hf => by rw [hR]; exact cSqr_any e al ah pb po w la ha hc hf
  rw [← hR]
  have hz : pb < w.heap.size := cell_lt hc
  have HC := Lib.hid ((M.out.base.cell hz).trans hc)
  have HF := Lib.hid ((M.out.base.frozen hz).trans hf)
  clear hR hc hf
  have t0 : ((n : Int) % 11 == 0) = false := by rw [hn]; rfl
  have t1 : ((n : Int) % 11 == 1) = false := by rw [hn]; rfl
  have t2 : ((n : Int) % 11 == 2) = false := by rw [hn]; rfl
  have t3 : ((n : Int) % 11 == 3) = false := by rw [hn]; rfl
  have t4 : ((n : Int) % 11 == 4) = false := by rw [hn]; rfl
  have t5 : ((n : Int) % 11 == 5) = false := by rw [hn]; rfl
  have t6 : ((n : Int) % 11 == 6) = true := by rw [hn]; rfl
  have g0 : (0 : Int) ≤ n := by omega
  have g1 : (n : Int) ≤ 255 := by omega
  clear h0 hn la ha
  go_enter Tryz.func20, Tryz.ntmps20
  go_wp2_with fail
  refine (cC.out _ HC.out HF.out).mono ?_
  rintro r w1 ⟨rfl, hp⟩
  have HP := Lib.hid (Put.after M.out.base hp)
  have h2 := (M.out.nth 1 rfl).put (by show pb ≠ w.heap.size + 1; omega) hp
  have c2 := h2.2.1
  have f2 := h2.2.2
  clear hp h2 M
  go_wp2
  exact bodyPost_ret (v := .agg #[.float .f64 R.lo, .float .f64 R.hi]) (by simp [results, Tryz.results20, go_sem, c2]) rfl ⟨rfl, (Below.setCell HP.out (by show _ ≤ w.heap.size + 1; omega) _).setCell (by show _ ≤ w.heap.size + 1; omega) _⟩

set_option maxRecDepth 100000 in
set_option maxHeartbeats 1000000 in
theorem asked_nil6 (n : Nat) (al ah bl bh : Nat) (w : World) (h0 : n < 256) (hn : (n : Int) % 11 = 6) :
    Calls Tryz.prog 20 #[.agg #[.int .u8 n, .float .f64 al, .float .f64 ah, .float .f64 bl, .float .f64 bh], .pointer none] w fun r w' => r = .returned (.agg #[.float .f64 0, .float .f64 0]) ∧ Below w.heap.size w w' := by
  have M := Lib.hid (Mem.two w #[.int .u8 n, .float .f64 al, .float .f64 ah, .float .f64 bl, .float .f64 bh] #[.float .f64 0, .float .f64 0] 44 24)
  have cC := Lib.hid (fun w => cSqr_nil al ah w)
  have t0 : ((n : Int) % 11 == 0) = false := by rw [hn]; rfl
  have t1 : ((n : Int) % 11 == 1) = false := by rw [hn]; rfl
  have t2 : ((n : Int) % 11 == 2) = false := by rw [hn]; rfl
  have t3 : ((n : Int) % 11 == 3) = false := by rw [hn]; rfl
  have t4 : ((n : Int) % 11 == 4) = false := by rw [hn]; rfl
  have t5 : ((n : Int) % 11 == 5) = false := by rw [hn]; rfl
  have t6 : ((n : Int) % 11 == 6) = true := by rw [hn]; rfl
  have g0 : (0 : Int) ≤ n := by omega
  have g1 : (n : Int) ≤ 255 := by omega
  clear h0 hn
  go_enter Tryz.func20, Tryz.ntmps20
  go_wp2_with fail
  refine (cC.out _).mono ?_
  rintro r w1 ⟨rfl, hb⟩
  replace M := Lib.hid (M.out.below hb)
  clear hb
  have c2 := (M.out.nth 1 rfl).2.1
  have f2 := (M.out.nth 1 rfl).2.2
  go_wp2
  exact bodyPost_ret (v := .agg #[.float .f64 0, .float .f64 0]) (by simp [results, Tryz.results20, go_sem, c2]) rfl ⟨rfl, (Below.setCell M.out.base (by show _ ≤ w.heap.size + 1; omega) _).setCell (by show _ ≤ w.heap.size + 1; omega) _⟩

set_option maxRecDepth 100000 in
set_option maxHeartbeats 1000000 in
theorem asked_7 (e : Int) (n : Nat) (al ah bl bh pb po : Nat) (w : World) (h0 : n < 256) (la : al < 18446744073709551616) (ha : ah < 18446744073709551616) (hc : w.cell? ⟨pb, po, none⟩ = some (.int .i64 e)) (hf : w.frozen? ⟨pb, po, none⟩ = false) (hn : (n : Int) % 11 = 7) :
    Calls Tryz.prog 20 #[.agg #[.int .u8 n, .float .f64 al, .float .f64 ah, .float .f64 bl, .float .f64 bh], .pointer (some ⟨pb, po, none⟩)] w (Told (askR e al ah bl bh 7) pb po w) := by
  have M := Lib.hid (Mem.two w #[.int .u8 n, .float .f64 al, .float .f64 ah, .float .f64 bl, .float .f64 bh] #[.float .f64 0, .float .f64 0] 44 24)
  obtain ⟨R, hR⟩ : ∃ R, R = askR e al ah bl bh 7 := ⟨_, rfl⟩
  have cC : Hid (∀ w, w.cell? ⟨pb, po, none⟩ = some (.int .i64 e) → w.frozen? ⟨pb, po, none⟩ = false → Calls Tryz.prog 49 #[.pointer (some ⟨pb, po, none⟩), .agg #[.float .f64 al, .float .f64 ah]] w (Told R pb po w)) := fun w hc hf => by rw [hR]; exact cSqrt_any e al ah pb po w la ha hc hf
  rw [← hR]
  have hz : pb < w.heap.size := cell_lt hc
  have HC := Lib.hid ((M.out.base.cell hz).trans hc)
  have HF := Lib.hid ((M.out.base.frozen hz).trans hf)
  clear hR hc hf
  have t0 : ((n : Int) % 11 == 0) = false := by rw [hn]; rfl
  have t1 : ((n : Int) % 11 == 1) = false := by rw [hn]; rfl
  have t2 : ((n : Int) % 11 == 2) = false := by rw [hn]; rfl
  have t3 : ((n : Int) % 11 == 3) = false := by rw [hn]; rfl
  have t4 : ((n : Int) % 11 == 4) = false := by rw [hn]; rfl
  have t5 : ((n : Int) % 11 == 5) = false := by rw [hn]; rfl
  have t6 : ((n : Int) % 11 == 6) = false := by rw [hn]; rfl
  have t7 : ((n : Int) % 11 == 7) = true := by rw [hn]; rfl
  have g0 : (0 : Int) ≤ n := by omega
  have g1 : (n : Int) ≤ 255 := by omega
  clear h0 hn la ha
  go_enter Tryz.func20, Tryz.ntmps20
  go_wp2_with fail
  refine (cC.out _ HC.out HF.out).mono ?_
  rintro r w1 ⟨rfl, hp⟩
  have HP := Lib.hid (Put.after M.out.base hp)
  have h2 := (M.out.nth 1 rfl).put (by show pb ≠ w.heap.size + 1; omega) hp
  have c2 := h2.2.1
  have f2 := h2.2.2
  clear hp h2 M
  go_wp2
  exact bodyPost_ret (v := .agg #[.float .f64 R.lo, .float .f64 R.hi]) (by simp [results, Tryz.results20, go_sem, c2]) rfl ⟨rfl, (Below.setCell HP.out (by show _ ≤ w.heap.size + 1; omega) _).setCell (by show _ ≤ w.heap.size + 1; omega) _⟩

set_option maxRecDepth 100000 in
set_option maxHeartbeats 1000000 in
theorem asked_nil7 (n : Nat) (al ah bl bh : Nat) (w : World) (h0 : n < 256) (hn : (n : Int) % 11 = 7) :
    Calls Tryz.prog 20 #[.agg #[.int .u8 n, .float .f64 al, .float .f64 ah, .float .f64 bl, .float .f64 bh], .pointer none] w fun r w' => r = .returned (.agg #[.float .f64 0, .float .f64 0]) ∧ Below w.heap.size w w' := by
  have M := Lib.hid (Mem.two w #[.int .u8 n, .float .f64 al, .float .f64 ah, .float .f64 bl, .float .f64 bh] #[.float .f64 0, .float .f64 0] 44 24)
  have cC := Lib.hid (fun w => cSqrt_nil al ah w)
  have t0 : ((n : Int) % 11 == 0) = false := by rw [hn]; rfl
  have t1 : ((n : Int) % 11 == 1) = false := by rw [hn]; rfl
  have t2 : ((n : Int) % 11 == 2) = false := by rw [hn]; rfl
  have t3 : ((n : Int) % 11 == 3) = false := by rw [hn]; rfl
  have t4 : ((n : Int) % 11 == 4) = false := by rw [hn]; rfl
  have t5 : ((n : Int) % 11 == 5) = false := by rw [hn]; rfl
  have t6 : ((n : Int) % 11 == 6) = false := by rw [hn]; rfl
  have t7 : ((n : Int) % 11 == 7) = true := by rw [hn]; rfl
  have g0 : (0 : Int) ≤ n := by omega
  have g1 : (n : Int) ≤ 255 := by omega
  clear h0 hn
  go_enter Tryz.func20, Tryz.ntmps20
  go_wp2_with fail
  refine (cC.out _).mono ?_
  rintro r w1 ⟨rfl, hb⟩
  replace M := Lib.hid (M.out.below hb)
  clear hb
  have c2 := (M.out.nth 1 rfl).2.1
  have f2 := (M.out.nth 1 rfl).2.2
  go_wp2
  exact bodyPost_ret (v := .agg #[.float .f64 0, .float .f64 0]) (by simp [results, Tryz.results20, go_sem, c2]) rfl ⟨rfl, (Below.setCell M.out.base (by show _ ≤ w.heap.size + 1; omega) _).setCell (by show _ ≤ w.heap.size + 1; omega) _⟩

set_option maxRecDepth 100000 in
set_option maxHeartbeats 1000000 in
theorem asked_8 (e : Int) (n : Nat) (al ah bl bh pb po : Nat) (w : World) (h0 : n < 256) (la : al < 18446744073709551616) (ha : ah < 18446744073709551616) (hc : w.cell? ⟨pb, po, none⟩ = some (.int .i64 e)) (hf : w.frozen? ⟨pb, po, none⟩ = false) (hn : (n : Int) % 11 = 8) :
    Calls Tryz.prog 20 #[.agg #[.int .u8 n, .float .f64 al, .float .f64 ah, .float .f64 bl, .float .f64 bh], .pointer (some ⟨pb, po, none⟩)] w (Told (askR e al ah bl bh 8) pb po w) := by
  have M := Lib.hid (Mem.two w #[.int .u8 n, .float .f64 al, .float .f64 ah, .float .f64 bl, .float .f64 bh] #[.float .f64 0, .float .f64 0] 44 24)
  obtain ⟨R, hR⟩ : ∃ R, R = askR e al ah bl bh 8 := ⟨_, rfl⟩
  have cC : Hid (∀ w, w.cell? ⟨pb, po, none⟩ = some (.int .i64 e) → w.frozen? ⟨pb, po, none⟩ = false → Calls Tryz.prog 50 #[.pointer (some ⟨pb, po, none⟩), .agg #[.float .f64 al, .float .f64 ah]] w (Told R pb po w)) := fun w hc hf => by rw [hR]; exact cNeg_any e al ah pb po w la ha hc hf
  rw [← hR]
  have hz : pb < w.heap.size := cell_lt hc
  have HC := Lib.hid ((M.out.base.cell hz).trans hc)
  have HF := Lib.hid ((M.out.base.frozen hz).trans hf)
  clear hR hc hf
  have t0 : ((n : Int) % 11 == 0) = false := by rw [hn]; rfl
  have t1 : ((n : Int) % 11 == 1) = false := by rw [hn]; rfl
  have t2 : ((n : Int) % 11 == 2) = false := by rw [hn]; rfl
  have t3 : ((n : Int) % 11 == 3) = false := by rw [hn]; rfl
  have t4 : ((n : Int) % 11 == 4) = false := by rw [hn]; rfl
  have t5 : ((n : Int) % 11 == 5) = false := by rw [hn]; rfl
  have t6 : ((n : Int) % 11 == 6) = false := by rw [hn]; rfl
  have t7 : ((n : Int) % 11 == 7) = false := by rw [hn]; rfl
  have t8 : ((n : Int) % 11 == 8) = true := by rw [hn]; rfl
  have g0 : (0 : Int) ≤ n := by omega
  have g1 : (n : Int) ≤ 255 := by omega
  clear h0 hn la ha
  go_enter Tryz.func20, Tryz.ntmps20
  go_wp2_with fail
  refine (cC.out _ HC.out HF.out).mono ?_
  rintro r w1 ⟨rfl, hp⟩
  have HP := Lib.hid (Put.after M.out.base hp)
  have h2 := (M.out.nth 1 rfl).put (by show pb ≠ w.heap.size + 1; omega) hp
  have c2 := h2.2.1
  have f2 := h2.2.2
  clear hp h2 M
  go_wp2
  exact bodyPost_ret (v := .agg #[.float .f64 R.lo, .float .f64 R.hi]) (by simp [results, Tryz.results20, go_sem, c2]) rfl ⟨rfl, (Below.setCell HP.out (by show _ ≤ w.heap.size + 1; omega) _).setCell (by show _ ≤ w.heap.size + 1; omega) _⟩

set_option maxRecDepth 100000 in
set_option maxHeartbeats 1000000 in
theorem asked_nil8 (n : Nat) (al ah bl bh : Nat) (w : World) (h0 : n < 256) (hn : (n : Int) % 11 = 8) :
    Calls Tryz.prog 20 #[.agg #[.int .u8 n, .float .f64 al, .float .f64 ah, .float .f64 bl, .float .f64 bh], .pointer none] w fun r w' => r = .returned (.agg #[.float .f64 0, .float .f64 0]) ∧ Below w.heap.size w w' := by
  have M := Lib.hid (Mem.two w #[.int .u8 n, .float .f64 al, .float .f64 ah, .float .f64 bl, .float .f64 bh] #[.float .f64 0, .float .f64 0] 44 24)
  have cC := Lib.hid (fun w => cNeg_nil al ah w)
  have t0 : ((n : Int) % 11 == 0) = false := by rw [hn]; rfl
  have t1 : ((n : Int) % 11 == 1) = false := by rw [hn]; rfl
  have t2 : ((n : Int) % 11 == 2) = false := by rw [hn]; rfl
  have t3 : ((n : Int) % 11 == 3) = false := by rw [hn]; rfl
  have t4 : ((n : Int) % 11 == 4) = false := by rw [hn]; rfl
  have t5 : ((n : Int) % 11 == 5) = false := by rw [hn]; rfl
  have t6 : ((n : Int) % 11 == 6) = false := by rw [hn]; rfl
  have t7 : ((n : Int) % 11 == 7) = false := by rw [hn]; rfl
  have t8 : ((n : Int) % 11 == 8) = true := by rw [hn]; rfl
  have g0 : (0 : Int) ≤ n := by omega
  have g1 : (n : Int) ≤ 255 := by omega
  clear h0 hn
  go_enter Tryz.func20, Tryz.ntmps20
  go_wp2_with fail
  refine (cC.out _).mono ?_
  rintro r w1 ⟨rfl, hb⟩
  replace M := Lib.hid (M.out.below hb)
  clear hb
  have c2 := (M.out.nth 1 rfl).2.1
  have f2 := (M.out.nth 1 rfl).2.2
  go_wp2
  exact bodyPost_ret (v := .agg #[.float .f64 0, .float .f64 0]) (by simp [results, Tryz.results20, go_sem, c2]) rfl ⟨rfl, (Below.setCell M.out.base (by show _ ≤ w.heap.size + 1; omega) _).setCell (by show _ ≤ w.heap.size + 1; omega) _⟩

set_option maxRecDepth 100000 in
set_option maxHeartbeats 1000000 in
theorem asked_9 (e : Int) (n : Nat) (al ah bl bh pb po : Nat) (w : World) (h0 : n < 256) (la : al < 18446744073709551616) (ha : ah < 18446744073709551616) (hc : w.cell? ⟨pb, po, none⟩ = some (.int .i64 e)) (hf : w.frozen? ⟨pb, po, none⟩ = false) (hn : (n : Int) % 11 = 9) :
    Calls Tryz.prog 20 #[.agg #[.int .u8 n, .float .f64 al, .float .f64 ah, .float .f64 bl, .float .f64 bh], .pointer (some ⟨pb, po, none⟩)] w (Told (askR e al ah bl bh 9) pb po w) := by
  have M := Lib.hid (Mem.two w #[.int .u8 n, .float .f64 al, .float .f64 ah, .float .f64 bl, .float .f64 bh] #[.float .f64 0, .float .f64 0] 44 24)
  obtain ⟨R, hR⟩ : ∃ R, R = askR e al ah bl bh 9 := ⟨_, rfl⟩
  have cC : Hid (∀ w, w.cell? ⟨pb, po, none⟩ = some (.int .i64 e) → w.frozen? ⟨pb, po, none⟩ = false → Calls Tryz.prog 51 #[.pointer (some ⟨pb, po, none⟩), .agg #[.float .f64 al, .float .f64 ah]] w (Told R pb po w)) := fun w hc hf => by rw [hR]; exact cAbs_any e al ah pb po w la ha hc hf
  rw [← hR]
  have hz : pb < w.heap.size := cell_lt hc
  have HC := Lib.hid ((M.out.base.cell hz).trans hc)
  have HF := Lib.hid ((M.out.base.frozen hz).trans hf)
  clear hR hc hf
  have t0 : ((n : Int) % 11 == 0) = false := by rw [hn]; rfl
  have t1 : ((n : Int) % 11 == 1) = false := by rw [hn]; rfl
  have t2 : ((n : Int) % 11 == 2) = false := by rw [hn]; rfl
  have t3 : ((n : Int) % 11 == 3) = false := by rw [hn]; rfl
  have t4 : ((n : Int) % 11 == 4) = false := by rw [hn]; rfl
  have t5 : ((n : Int) % 11 == 5) = false := by rw [hn]; rfl
  have t6 : ((n : Int) % 11 == 6) = false := by rw [hn]; rfl
  have t7 : ((n : Int) % 11 == 7) = false := by rw [hn]; rfl
  have t8 : ((n : Int) % 11 == 8) = false := by rw [hn]; rfl
  have t9 : ((n : Int) % 11 == 9) = true := by rw [hn]; rfl
  have g0 : (0 : Int) ≤ n := by omega
  have g1 : (n : Int) ≤ 255 := by omega
  clear h0 hn la ha
  go_enter Tryz.func20, Tryz.ntmps20
  go_wp2_with fail
  refine (cC.out _ HC.out HF.out).mono ?_
  rintro r w1 ⟨rfl, hp⟩
  have HP := Lib.hid (Put.after M.out.base hp)
  have h2 := (M.out.nth 1 rfl).put (by show pb ≠ w.heap.size + 1; omega) hp
  have c2 := h2.2.1
  have f2 := h2.2.2
  clear hp h2 M
  go_wp2
  exact bodyPost_ret (v := .agg #[.float .f64 R.lo, .float .f64 R.hi]) (by simp [results, Tryz.results20, go_sem, c2]) rfl ⟨rfl, (Below.setCell HP.out (by show _ ≤ w.heap.size + 1; omega) _).setCell (by show _ ≤ w.heap.size + 1; omega) _⟩

set_option maxRecDepth 100000 in
set_option maxHeartbeats 1000000 in
theorem asked_nil9 (n : Nat) (al ah bl bh : Nat) (w : World) (h0 : n < 256) (hn : (n : Int) % 11 = 9) :
    Calls Tryz.prog 20 #[.agg #[.int .u8 n, .float .f64 al, .float .f64 ah, .float .f64 bl, .float .f64 bh], .pointer none] w fun r w' => r = .returned (.agg #[.float .f64 0, .float .f64 0]) ∧ Below w.heap.size w w' := by
  have M := Lib.hid (Mem.two w #[.int .u8 n, .float .f64 al, .float .f64 ah, .float .f64 bl, .float .f64 bh] #[.float .f64 0, .float .f64 0] 44 24)
  have cC := Lib.hid (fun w => cAbs_nil al ah w)
  have t0 : ((n : Int) % 11 == 0) = false := by rw [hn]; rfl
  have t1 : ((n : Int) % 11 == 1) = false := by rw [hn]; rfl
  have t2 : ((n : Int) % 11 == 2) = false := by rw [hn]; rfl
  have t3 : ((n : Int) % 11 == 3) = false := by rw [hn]; rfl
  have t4 : ((n : Int) % 11 == 4) = false := by rw [hn]; rfl
  have t5 : ((n : Int) % 11 == 5) = false := by rw [hn]; rfl
  have t6 : ((n : Int) % 11 == 6) = false := by rw [hn]; rfl
  have t7 : ((n : Int) % 11 == 7) = false := by rw [hn]; rfl
  have t8 : ((n : Int) % 11 == 8) = false := by rw [hn]; rfl
  have t9 : ((n : Int) % 11 == 9) = true := by rw [hn]; rfl
  have g0 : (0 : Int) ≤ n := by omega
  have g1 : (n : Int) ≤ 255 := by omega
  clear h0 hn
  go_enter Tryz.func20, Tryz.ntmps20
  go_wp2_with fail
  refine (cC.out _).mono ?_
  rintro r w1 ⟨rfl, hb⟩
  replace M := Lib.hid (M.out.below hb)
  clear hb
  have c2 := (M.out.nth 1 rfl).2.1
  have f2 := (M.out.nth 1 rfl).2.2
  go_wp2
  exact bodyPost_ret (v := .agg #[.float .f64 0, .float .f64 0]) (by simp [results, Tryz.results20, go_sem, c2]) rfl ⟨rfl, (Below.setCell M.out.base (by show _ ≤ w.heap.size + 1; omega) _).setCell (by show _ ≤ w.heap.size + 1; omega) _⟩

set_option maxRecDepth 100000 in
set_option maxHeartbeats 1000000 in
theorem asked_10 (e : Int) (n : Nat) (al ah bl bh pb po : Nat) (w : World) (h0 : n < 256) (la : al < 18446744073709551616) (hc : w.cell? ⟨pb, po, none⟩ = some (.int .i64 e)) (hf : w.frozen? ⟨pb, po, none⟩ = false) (hn : (n : Int) % 11 = 10) :
    Calls Tryz.prog 20 #[.agg #[.int .u8 n, .float .f64 al, .float .f64 ah, .float .f64 bl, .float .f64 bh], .pointer (some ⟨pb, po, none⟩)] w (Told (askR e al ah bl bh 10) pb po w) := by
  have M := Lib.hid (Mem.two w #[.int .u8 n, .float .f64 al, .float .f64 ah, .float .f64 bl, .float .f64 bh] #[.float .f64 0, .float .f64 0] 44 24)
  obtain ⟨R, hR⟩ : ∃ R, R = askR e al ah bl bh 10 := ⟨_, rfl⟩
  have cC : Hid (∀ w, w.cell? ⟨pb, po, none⟩ = some (.int .i64 e) → w.frozen? ⟨pb, po, none⟩ = false → Calls Tryz.prog 52 #[.pointer (some ⟨pb, po, none⟩), .float .f64 al] w (Told R pb po w)) := fun w hc hf => by rw [hR]; exact cNum_any e al pb po w la hc hf
  rw [← hR]
  have hz : pb < w.heap.size := cell_lt hc
  have HC := Lib.hid ((M.out.base.cell hz).trans hc)
  have HF := Lib.hid ((M.out.base.frozen hz).trans hf)
  clear hR hc hf
  have t0 : ((n : Int) % 11 == 0) = false := by rw [hn]; rfl
  have t1 : ((n : Int) % 11 == 1) = false := by rw [hn]; rfl
  have t2 : ((n : Int) % 11 == 2) = false := by rw [hn]; rfl
  have t3 : ((n : Int) % 11 == 3) = false := by rw [hn]; rfl
  have t4 : ((n : Int) % 11 == 4) = false := by rw [hn]; rfl
  have t5 : ((n : Int) % 11 == 5) = false := by rw [hn]; rfl
  have t6 : ((n : Int) % 11 == 6) = false := by rw [hn]; rfl
  have t7 : ((n : Int) % 11 == 7) = false := by rw [hn]; rfl
  have t8 : ((n : Int) % 11 == 8) = false := by rw [hn]; rfl
  have t9 : ((n : Int) % 11 == 9) = false := by rw [hn]; rfl
  have g0 : (0 : Int) ≤ n := by omega
  have g1 : (n : Int) ≤ 255 := by omega
  clear h0 hn la
  go_enter Tryz.func20, Tryz.ntmps20
  go_wp2_with fail
  refine (cC.out _ HC.out HF.out).mono ?_
  rintro r w1 ⟨rfl, hp⟩
  have HP := Lib.hid (Put.after M.out.base hp)
  have h2 := (M.out.nth 1 rfl).put (by show pb ≠ w.heap.size + 1; omega) hp
  have c2 := h2.2.1
  have f2 := h2.2.2
  clear hp h2 M
  go_wp2
  exact bodyPost_ret (v := .agg #[.float .f64 R.lo, .float .f64 R.hi]) (by simp [results, Tryz.results20, go_sem, c2]) rfl ⟨rfl, (Below.setCell HP.out (by show _ ≤ w.heap.size + 1; omega) _).setCell (by show _ ≤ w.heap.size + 1; omega) _⟩

set_option maxRecDepth 100000 in
set_option maxHeartbeats 1000000 in
theorem asked_nil10 (n : Nat) (al ah bl bh : Nat) (w : World) (h0 : n < 256) (hn : (n : Int) % 11 = 10) :
    Calls Tryz.prog 20 #[.agg #[.int .u8 n, .float .f64 al, .float .f64 ah, .float .f64 bl, .float .f64 bh], .pointer none] w fun r w' => r = .returned (.agg #[.float .f64 0, .float .f64 0]) ∧ Below w.heap.size w w' := by
  have M := Lib.hid (Mem.two w #[.int .u8 n, .float .f64 al, .float .f64 ah, .float .f64 bl, .float .f64 bh] #[.float .f64 0, .float .f64 0] 44 24)
  have cC := Lib.hid (fun w => cNum_nil al w)
  have t0 : ((n : Int) % 11 == 0) = false := by rw [hn]; rfl
  have t1 : ((n : Int) % 11 == 1) = false := by rw [hn]; rfl
  have t2 : ((n : Int) % 11 == 2) = false := by rw [hn]; rfl
  have t3 : ((n : Int) % 11 == 3) = false := by rw [hn]; rfl
  have t4 : ((n : Int) % 11 == 4) = false := by rw [hn]; rfl
  have t5 : ((n : Int) % 11 == 5) = false := by rw [hn]; rfl
  have t6 : ((n : Int) % 11 == 6) = false := by rw [hn]; rfl
  have t7 : ((n : Int) % 11 == 7) = false := by rw [hn]; rfl
  have t8 : ((n : Int) % 11 == 8) = false := by rw [hn]; rfl
  have t9 : ((n : Int) % 11 == 9) = false := by rw [hn]; rfl
  have g0 : (0 : Int) ≤ n := by omega
  have g1 : (n : Int) ≤ 255 := by omega
  clear h0 hn
  go_enter Tryz.func20, Tryz.ntmps20
  go_wp2_with fail
  refine (cC.out _).mono ?_
  rintro r w1 ⟨rfl, hb⟩
  replace M := Lib.hid (M.out.below hb)
  clear hb
  have c2 := (M.out.nth 1 rfl).2.1
  have f2 := (M.out.nth 1 rfl).2.2
  go_wp2
  exact bodyPost_ret (v := .agg #[.float .f64 0, .float .f64 0]) (by simp [results, Tryz.results20, go_sem, c2]) rfl ⟨rfl, (Below.setCell M.out.base (by show _ ≤ w.heap.size + 1; omega) _).setCell (by show _ ≤ w.heap.size + 1; omega) _⟩

theorem asked_any (e : Int) (n : Nat) (al ah bl bh pb po : Nat) (w : World) (h0 : n < 256) (la : al < 18446744073709551616) (ha : ah < 18446744073709551616) (lb : bl < 18446744073709551616) (hb : bh < 18446744073709551616) (hc : w.cell? ⟨pb, po, none⟩ = some (.int .i64 e)) (hf : w.frozen? ⟨pb, po, none⟩ = false) :
    Calls Tryz.prog 20 #[.agg #[.int .u8 n, .float .f64 al, .float .f64 ah, .float .f64 bl, .float .f64 bh], .pointer (some ⟨pb, po, none⟩)] w (Told (askR e al ah bl bh (n % 11)) pb po w) := by
  have hj : ∃ j, j = n % 11 := ⟨_, rfl⟩
  obtain ⟨j, hj⟩ := hj
  rw [← hj]
  have hn : (n : Int) % 11 = (j : Int) := by omega
  rcases (show j = 0 ∨ j = 1 ∨ j = 2 ∨ j = 3 ∨ j = 4 ∨ j = 5 ∨ j = 6 ∨ j = 7 ∨ j = 8 ∨ j = 9 ∨ j = 10 by omega) with rfl | rfl | rfl | rfl | rfl | rfl | rfl | rfl | rfl | rfl | rfl
  · exact asked_0 e n al ah bl bh pb po w h0 la ha lb hb hc hf hn
  · exact asked_1 e n al ah bl bh pb po w h0 la ha lb hb hc hf hn
  · exact asked_2 e n al ah bl bh pb po w h0 la ha lb hb hc hf hn
  · exact asked_3 e n al ah bl bh pb po w h0 la ha lb hb hc hf hn
  · exact asked_4 e n al ah bl bh pb po w h0 la ha lb hb hc hf hn
  · exact asked_5 e n al ah bl bh pb po w h0 la ha lb hb hc hf hn
  · exact asked_6 e n al ah bl bh pb po w h0 la ha hc hf hn
  · exact asked_7 e n al ah bl bh pb po w h0 la ha hc hf hn
  · exact asked_8 e n al ah bl bh pb po w h0 la ha hc hf hn
  · exact asked_9 e n al ah bl bh pb po w h0 la ha hc hf hn
  · exact asked_10 e n al ah bl bh pb po w h0 la hc hf hn

theorem asked_nil (n : Nat) (al ah bl bh : Nat) (w : World) (h0 : n < 256) :
    Calls Tryz.prog 20 #[.agg #[.int .u8 n, .float .f64 al, .float .f64 ah, .float .f64 bl, .float .f64 bh], .pointer none] w fun r w' => r = .returned (.agg #[.float .f64 0, .float .f64 0]) ∧ Below w.heap.size w w' := by
  have hj : ∃ j, j = n % 11 := ⟨_, rfl⟩
  obtain ⟨j, hj⟩ := hj
  have hn : (n : Int) % 11 = (j : Int) := by omega
  rcases (show j = 0 ∨ j = 1 ∨ j = 2 ∨ j = 3 ∨ j = 4 ∨ j = 5 ∨ j = 6 ∨ j = 7 ∨ j = 8 ∨ j = 9 ∨ j = 10 by omega) with rfl | rfl | rfl | rfl | rfl | rfl | rfl | rfl | rfl | rfl | rfl
  · exact asked_nil0 n al ah bl bh w h0 hn
  · exact asked_nil1 n al ah bl bh w h0 hn
  · exact asked_nil2 n al ah bl bh w h0 hn
  · exact asked_nil3 n al ah bl bh w h0 hn
  · exact asked_nil4 n al ah bl bh w h0 hn
  · exact asked_nil5 n al ah bl bh w h0 hn
  · exact asked_nil6 n al ah bl bh w h0 hn
  · exact asked_nil7 n al ah bl bh w h0 hn
  · exact asked_nil8 n al ah bl bh w h0 hn
  · exact asked_nil9 n al ah bl bh w h0 hn
  · exact asked_nil10 n al ah bl bh w h0 hn

end Go.Proofs.YtmcecchcbfhfcaaGreat
