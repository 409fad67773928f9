
/- Law file 2: what an op, asked of a calculator, answers: Op.Asked. -/
import Derived.Test.YtdppppaoflhgdaaDirA
import Derived.Test.YtdppppaoflhgdaaPut
import Derived.Test.YtdppppaoflhgdaaQIv
import Derived.Test.YtdppppaoflhgdaaMem
import Derived.Test.YtdppppaoflhgdaaAwakeB
import Derived.Deep.RegionHeld3
namespace Go.Proofs.Ytdppppaoflhgdaa
open Go.RowKit
attribute [local go_sem] run_store_float

/-- The same words. -/
def sameB (a b c d : Nat) : Bool := decide (a = c) && decide (b = d)

theorem same_any (a b : Nat) (w : World) :
    Calls Try.prog 80 #[.float .f64 a, .float .f64 b] w fun r w' => r = .returned (.bool (decide (a = b))) ∧ w = w' := by
  have hb := run_bits
  have e : ((a : Int) == (b : Int)) = decide (a = b) := by
    by_cases h : a = b
    · rw [decide_eq_true h, beq_iff_eq]; omega
    · rw [decide_eq_false h, beq_eq_false_iff_ne]; omega
  have E := Lib.hid e
  clear e
  go_enter Try.func80, Try.ntmps80
  go_wp2
  go_ret
  exact ⟨by rw [← E.out]; rfl, rfl⟩

set_option maxHeartbeats 400000 in
theorem ivSame_any (a b c d : Nat) (w : World) :
    Calls Try.prog 46 #[.agg #[.float .f64 a, .float .f64 b], .agg #[.float .f64 c, .float .f64 d]] w fun r w' => r = .returned (.bool (sameB a b c d)) ∧ Below w.heap.size w w' := by
  have c1 := Lib.hid (fun w => same_any a c w)
  have c2 := Lib.hid (fun w => same_any b d w)
  cases h : decide (a = c)
  · have E := Lib.hid (show sameB a b c d = false by unfold sameB; rw [h]; rfl)
    rw [h] at c1
    clear h
    go_enter Try.func46, Try.ntmps46
    go_wp2_with fail
    refine (c1.out _).mono ?_
    rintro r w1 ⟨rfl, rfl⟩
    go_wp2
    go_ret
    exact ⟨by rw [E.out]; rfl, bel2 _ _ _⟩
  · have E := Lib.hid (show sameB a b c d = decide (b = d) by unfold sameB; rw [h]; rfl)
    rw [h] at c1
    clear h
    go_enter Try.func46, Try.ntmps46
    go_wp2_with fail
    refine (c1.out _).mono ?_
    rintro r w1 ⟨rfl, rfl⟩
    go_wp2_with fail
    refine (c2.out _).mono ?_
    rintro r w1 ⟨rfl, rfl⟩
    go_wp2
    go_ret
    exact ⟨by rw [E.out]; rfl, bel2 _ _ _⟩

end Go.Proofs.Ytdppppaoflhgdaa

namespace Go.Proofs.Ytdppppaoflhgdaa
open Go.RowKit
attribute [local go_sem] run_store_float

theorem res_eq {r : Res} {e : Int} {lo hi : Nat} (h : r.e = e ∧ r.lo = lo ∧ r.hi = hi) : r = ⟨e, lo, hi⟩ := by
  cases r; simp at h; simp [h]

theorem x_num1 : stepI 0 true (ofI 4607182418800017408) = ⟨0, 4607182418800017408, 4607182418800017408⟩ := res_eq (by decide +kernel)
theorem x_num3 : stepI 0 true (ofI 4613937818241073152) = ⟨0, 4613937818241073152, 4613937818241073152⟩ := res_eq (by decide +kernel)
theorem x_div : stepI 0 (ivR 4607182418800017408 4607182418800017408 && ivR 4613937818241073152 4613937818241073152) (divI 4607182418800017408 4607182418800017408 4613937818241073152 4613937818241073152) = ⟨0, 4599676419421066581, 4599676419421066582⟩ := res_eq (by decide +kernel)
theorem x_add : stepI 0 (ivR 4607182418800017408 4611686018427387904 && ivR 4613937818241073152 4616189618054758400) (addI 4607182418800017408 4611686018427387904 4613937818241073152 4616189618054758400) = ⟨0, 4616189618054758400, 4618441417868443648⟩ := res_eq (by decide +kernel)
theorem x_mul : stepI 0 (ivR 13830554455654793216 4611686018427387904 && ivR 13837309855095848960 4616189618054758400) (mulI 13830554455654793216 4611686018427387904 13837309855095848960 4616189618054758400) = ⟨0, 13841813454723219456, 4620693217682128896⟩ := res_eq (by decide +kernel)
theorem x_sqr : stepI 0 (ivR 13835058055282163712 4607182418800017408) (sqrI 13835058055282163712 4607182418800017408) = ⟨0, 0, 4616189618054758400⟩ := res_eq (by decide +kernel)
theorem x_div0 : stepI 0 (ivR 4607182418800017408 4607182418800017408 && ivR 13830554455654793216 4607182418800017408) (divI 4607182418800017408 4607182418800017408 13830554455654793216 4607182418800017408) = ⟨11, 0, 0⟩ := res_eq (by decide +kernel)
theorem x_then : stepI 11 (ivR 4607182418800017408 4607182418800017408 && ivR 4607182418800017408 4607182418800017408) (addI 4607182418800017408 4607182418800017408 4607182418800017408 4607182418800017408) = ⟨11, 0, 0⟩ := res_eq (by decide +kernel)
theorem x_has : hasB 4599676419421066581 4599676419421066582 4599676419421066581 = true := by decide +kernel
theorem x_meet1 : bothB 0 4611686018427387904 4607182418800017408 4613937818241073152 = true ∧ meetLo 0 4611686018427387904 4607182418800017408 4613937818241073152 = 4607182418800017408 ∧ meetHi 0 4611686018427387904 4607182418800017408 4613937818241073152 = 4611686018427387904 := by decide +kernel
theorem x_meet2 : bothB 0 4607182418800017408 4611686018427387904 4613937818241073152 = false ∧ meetLo 0 4607182418800017408 4611686018427387904 4613937818241073152 = 0 ∧ meetHi 0 4607182418800017408 4611686018427387904 4613937818241073152 = 0 := by decide +kernel

end Go.Proofs.Ytdppppaoflhgdaa

namespace Go.Proofs.Ytdppppaoflhgdaa
open Go.RowKit
attribute [local go_sem] run_store_float

theorem pi_down (w : World) : Calls Try.prog 45 #[.float .f64 4843940237547941144, .int .i64 (-51)] w fun r w' => r = .returned (.float .f64 4614256656552045848) ∧ w = w' :=
  ldexp_at 4843940237547941144 2570638124657944 4611686018427387904 4614256656552045848 4614256656552045848 (-51) 1075 1 w (by decide +kernel) (by decide +kernel) (by decide +kernel) (by decide +kernel) (by decide +kernel) (by decide) (by decide) (by decide) (by decide +kernel) (by decide) (by decide) (by decide) (by decide) (by decide) (by decide +kernel) (by decide +kernel) (by decide +kernel) (by decide +kernel)
theorem pi_up (w : World) : Calls Try.prog 45 #[.float .f64 4843940237547941145, .int .i64 (-51)] w fun r w' => r = .returned (.float .f64 4614256656552045849) ∧ w = w' :=
  ldexp_at 4843940237547941145 2570638124657945 4611686018427387904 4614256656552045849 4614256656552045849 (-51) 1075 1 w (by decide +kernel) (by decide +kernel) (by decide +kernel) (by decide +kernel) (by decide +kernel) (by decide) (by decide) (by decide) (by decide +kernel) (by decide) (by decide) (by decide) (by decide) (by decide) (by decide +kernel) (by decide +kernel) (by decide +kernel) (by decide +kernel)

set_option maxRecDepth 100000 in
theorem isNaN_num (a : Nat) (h : (FloatKind.f64.format.order a a != some Ordering.eq) = false) (w : World) : Calls Try.prog 93 #[.float .f64 a] w fun r w' => r = .returned (.bool false) ∧ w = w' := by
  go_enter Try.func93, Try.ntmps93
  go_wp2
  go_ret
  exact ⟨by rw [← h]; rfl, rfl⟩

theorem Has1.set2 {v : World} {b : Nat} {x y : Value} (h : Has1 v (b, #[x, y])) (x' y' : Value) : Has1 ((v.setCell ⟨b, 0, none⟩ x').setCell ⟨b, 1, none⟩ y') (b, #[x', y']) := ⟨by rw [size_set, size_set]; exact h.1, put2 h.2.1 _ _, fun i => by rw [frozen_set, frozen_set]; exact h.2.2 i⟩
theorem Mem.sets {B v : World} {l : List (Nat × Array Value)} {q : Nat} {x y : Value} (h : Mem B l v) (hx : Has1 v (q, #[x, y])) (x' y' : Value) (hB : B.heap.size ≤ q) (k : List (Nat × Array Value)) (hk : ∀ p, p ∈ k → p = (q, #[x', y']) ∨ p ∈ l ∧ q ≠ p.1) : Mem B k ((v.setCell ⟨q, 0, none⟩ x').setCell ⟨q, 1, none⟩ y') :=
  ⟨(h.base.setCell hB _).setCell hB _, fun p hp => by
    rcases hk p hp with e | ⟨e, e'⟩
    · rw [e]; exact hx.set2 _ _
    · exact ((h.blocks p e).set e').set e'⟩
/-- Behind the quotient by what has 0. -/
def AwCut (w : World) (m : Nat) (p : Value) (wx : World) : Prop :=
  ∃ q, p = .pointer (some ⟨q, 0, none⟩) ∧ m < q ∧ Mem w [(w.heap.size, #[.int .i64 0]), (w.heap.size + 1, #[.int .i64 11]), (m, #[.float .f64 4607182418800017408, .float .f64 4607182418800017408]), (q, #[.float .f64 0, .float .f64 0])] wx

/-- What the walk reads of a block of two. -/
theorem Has1.two {v : World} {b : Nat} {x y : Value} (h : Has1 v (b, #[x, y])) : v.cell? ⟨b, 0, none⟩ = some x ∧ v.cell? ⟨b, 1, none⟩ = some y := ⟨h.2.1 0, h.2.1 1⟩
theorem Has1.pc {v : World} {b : Nat} {x : Value} (h : Has1 v (b, #[x])) : v.cell? ⟨b, 0, none⟩ = some x := h.2.1 0
theorem Has1.pf {v : World} {p : Nat × Array Value} (h : Has1 v p) : v.frozen? ⟨p.1, 0, none⟩ = false := h.2.2 0

theorem l_num1 (pb : Nat) (w : World) (hc : w.cell? ⟨pb, 0, none⟩ = some (.int .i64 0)) (hf : w.frozen? ⟨pb, 0, none⟩ = false) :
    Calls Try.prog 19 #[.pointer (some ⟨pb, 0, none⟩), .float .f64 4607182418800017408] w fun r w' => r = .returned (.agg #[.float .f64 4607182418800017408, .float .f64 4607182418800017408]) ∧ Put ⟨pb, 0, none⟩ (.int .i64 0) w w' := by
  have h := (cNum_any 0 4607182418800017408 pb 0 w (by decide) hc hf)
  rw [x_num1] at h
  exact h

theorem l_num3 (pb : Nat) (w : World) (hc : w.cell? ⟨pb, 0, none⟩ = some (.int .i64 0)) (hf : w.frozen? ⟨pb, 0, none⟩ = false) :
    Calls Try.prog 19 #[.pointer (some ⟨pb, 0, none⟩), .float .f64 4613937818241073152] w fun r w' => r = .returned (.agg #[.float .f64 4613937818241073152, .float .f64 4613937818241073152]) ∧ Put ⟨pb, 0, none⟩ (.int .i64 0) w w' := by
  have h := (cNum_any 0 4613937818241073152 pb 0 w (by decide) hc hf)
  rw [x_num3] at h
  exact h

theorem l_div (pb : Nat) (w : World) (hc : w.cell? ⟨pb, 0, none⟩ = some (.int .i64 0)) (hf : w.frozen? ⟨pb, 0, none⟩ = false) :
    Calls Try.prog 33 #[.pointer (some ⟨pb, 0, none⟩), .agg #[.float .f64 4607182418800017408, .float .f64 4607182418800017408], .agg #[.float .f64 4613937818241073152, .float .f64 4613937818241073152]] w fun r w' => r = .returned (.agg #[.float .f64 4599676419421066581, .float .f64 4599676419421066582]) ∧ Put ⟨pb, 0, none⟩ (.int .i64 0) w w' := by
  have h := (cDiv_any 0 4607182418800017408 4607182418800017408 4613937818241073152 4613937818241073152 pb 0 w (by decide) (by decide) (by decide) (by decide) hc hf)
  rw [x_div] at h
  exact h

theorem l_add (pb : Nat) (w : World) (hc : w.cell? ⟨pb, 0, none⟩ = some (.int .i64 0)) (hf : w.frozen? ⟨pb, 0, none⟩ = false) :
    Calls Try.prog 23 #[.pointer (some ⟨pb, 0, none⟩), .agg #[.float .f64 4607182418800017408, .float .f64 4611686018427387904], .agg #[.float .f64 4613937818241073152, .float .f64 4616189618054758400]] w fun r w' => r = .returned (.agg #[.float .f64 4616189618054758400, .float .f64 4618441417868443648]) ∧ Put ⟨pb, 0, none⟩ (.int .i64 0) w w' := by
  have h := (cAdd_any 0 4607182418800017408 4611686018427387904 4613937818241073152 4616189618054758400 pb 0 w (by decide) (by decide) (by decide) (by decide) hc hf)
  rw [x_add] at h
  exact h

theorem l_mul (pb : Nat) (w : World) (hc : w.cell? ⟨pb, 0, none⟩ = some (.int .i64 0)) (hf : w.frozen? ⟨pb, 0, none⟩ = false) :
    Calls Try.prog 18 #[.pointer (some ⟨pb, 0, none⟩), .agg #[.float .f64 13830554455654793216, .float .f64 4611686018427387904], .agg #[.float .f64 13837309855095848960, .float .f64 4616189618054758400]] w fun r w' => r = .returned (.agg #[.float .f64 13841813454723219456, .float .f64 4620693217682128896]) ∧ Put ⟨pb, 0, none⟩ (.int .i64 0) w w' := by
  have h := (cMul_any 0 13830554455654793216 4611686018427387904 13837309855095848960 4616189618054758400 pb 0 w (by decide) (by decide) (by decide) (by decide) hc hf)
  rw [x_mul] at h
  exact h

theorem l_sqr (pb : Nat) (w : World) (hc : w.cell? ⟨pb, 0, none⟩ = some (.int .i64 0)) (hf : w.frozen? ⟨pb, 0, none⟩ = false) :
    Calls Try.prog 34 #[.pointer (some ⟨pb, 0, none⟩), .agg #[.float .f64 13835058055282163712, .float .f64 4607182418800017408]] w fun r w' => r = .returned (.agg #[.float .f64 0, .float .f64 4616189618054758400]) ∧ Put ⟨pb, 0, none⟩ (.int .i64 0) w w' := by
  have h := (cSqr_any 0 13835058055282163712 4607182418800017408 pb 0 w (by decide) (by decide) hc hf)
  rw [x_sqr] at h
  exact h

theorem l_div0 (pb : Nat) (w : World) (hc : w.cell? ⟨pb, 0, none⟩ = some (.int .i64 0)) (hf : w.frozen? ⟨pb, 0, none⟩ = false) :
    Calls Try.prog 33 #[.pointer (some ⟨pb, 0, none⟩), .agg #[.float .f64 4607182418800017408, .float .f64 4607182418800017408], .agg #[.float .f64 13830554455654793216, .float .f64 4607182418800017408]] w fun r w' => r = .returned (.agg #[.float .f64 0, .float .f64 0]) ∧ Put ⟨pb, 0, none⟩ (.int .i64 11) w w' := by
  have h := (cDiv_any 0 4607182418800017408 4607182418800017408 13830554455654793216 4607182418800017408 pb 0 w (by decide) (by decide) (by decide) (by decide) hc hf)
  rw [x_div0] at h
  exact h

theorem l_then (pb : Nat) (w : World) (hc : w.cell? ⟨pb, 0, none⟩ = some (.int .i64 11)) (hf : w.frozen? ⟨pb, 0, none⟩ = false) :
    Calls Try.prog 23 #[.pointer (some ⟨pb, 0, none⟩), .agg #[.float .f64 4607182418800017408, .float .f64 4607182418800017408], .agg #[.float .f64 4607182418800017408, .float .f64 4607182418800017408]] w fun r w' => r = .returned (.agg #[.float .f64 0, .float .f64 0]) ∧ Put ⟨pb, 0, none⟩ (.int .i64 11) w w' := by
  have h := (cAdd_any 11 4607182418800017408 4607182418800017408 4607182418800017408 4607182418800017408 pb 0 w (by decide) (by decide) (by decide) (by decide) hc hf)
  rw [x_then] at h
  exact h

theorem l_has (w : World) : Calls Try.prog 44 #[.agg #[.float .f64 4599676419421066581, .float .f64 4599676419421066582], .float .f64 4599676419421066581] w fun r w' => r = .returned (.bool true) ∧ Below w.heap.size w w' := by
  have h := has_any 4599676419421066581 4599676419421066582 4599676419421066581 w (by decide) (by decide)
  rw [x_has] at h
  exact h
theorem l_same (a b : Nat) (w : World) : Calls Try.prog 46 #[.agg #[.float .f64 a, .float .f64 b], .agg #[.float .f64 a, .float .f64 b]] w fun r w' => r = .returned (.bool true) ∧ Below w.heap.size w w' := by
  have h := ivSame_any a b a b w
  rw [show sameB a b a b = true by unfold sameB; simp] at h
  exact h
theorem l_meet1 (w : World) : Calls Try.prog 40 #[.agg #[.float .f64 0, .float .f64 4611686018427387904], .agg #[.float .f64 4607182418800017408, .float .f64 4613937818241073152]] w fun r w' => r = .returned (.tuple #[.agg #[.float .f64 4607182418800017408, .float .f64 4611686018427387904], .bool true]) ∧ Below w.heap.size w w' := by
  have h := meet_any 0 4611686018427387904 4607182418800017408 4613937818241073152 w (by decide) (by decide) (by decide) (by decide) (by decide) (by decide) (by decide) (by decide)
  rw [x_meet1.1, x_meet1.2.1, x_meet1.2.2] at h
  exact h
theorem l_meet2 (w : World) : Calls Try.prog 40 #[.agg #[.float .f64 0, .float .f64 4607182418800017408], .agg #[.float .f64 4611686018427387904, .float .f64 4613937818241073152]] w fun r w' => r = .returned (.tuple #[.agg #[.float .f64 0, .float .f64 0], .bool false]) ∧ Below w.heap.size w w' := by
  have h := meet_any 0 4607182418800017408 4611686018427387904 4613937818241073152 w (by decide) (by decide) (by decide) (by decide) (by decide) (by decide) (by decide) (by decide)
  rw [x_meet2.1, x_meet2.2.1, x_meet2.2.2] at h
  exact h

end Go.Proofs.Ytdppppaoflhgdaa

namespace Go.Proofs.Ytdppppaoflhgdaa
open Go.RowKit
attribute [local go_sem] run_store_float

/-- What the op number j answers, and what must be right for it. -/
def askI (al ah bl bh : Nat) : Nat → Res
  | 0 => addI al ah bl bh | 1 => subI al ah bl bh | 2 => mulI al ah bl bh | 3 => divI al ah bl bh | 4 => minI al ah bl bh | 5 => maxI al ah bl bh
  | 6 => sqrI al ah | 7 => sqrtI al ah | 8 => negI al ah | 9 => absI al ah | _ => ofI al
def askB (al ah bl bh : Nat) : Nat → Bool
  | 0 => ivR al ah && ivR bl bh | 1 => ivR al ah && ivR bl bh | 2 => ivR al ah && ivR bl bh | 3 => ivR al ah && ivR bl bh | 4 => ivR al ah && ivR bl bh | 5 => ivR al ah && ivR bl bh
  | 6 => ivR al ah | 7 => ivR al ah | 8 => ivR al ah | 9 => ivR al ah | _ => true
def askR (e : Int) (al ah bl bh j : Nat) : Res := stepI e (askB al ah bl bh j) (askI al ah bl bh j)

end Go.Proofs.Ytdppppaoflhgdaa
