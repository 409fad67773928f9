/- burnishref04: what At answers. -/
import Derived.Test.YtcfgahlaiiibiaaGreatKQTA
import Derived.Test.YtcfgahlaiiibiaaGreatKQRc
import Derived.Test.YtcfgahlaiiibiaaGreatKQRcZ
import Derived.Deep.CutRange
import Derived.Deep.CutBlock
namespace Go.Proofs.YtcfgahlaiiibiaaGreat
open Go.RowKit
attribute [local go_sem] run_store_float

abbrev CalcM (f : FuncId) (pb x : Nat) : Prop := ∀ v : World, Has1 v (pb, #[.int .i64 0]) → Calls Tryz.prog f #[.pointer (some ⟨pb, 0, none⟩), .float .f64 x] v fun r w' => r = .returned (.agg #[.float .f64 x, .float .f64 x]) ∧ Put ⟨pb, 0, none⟩ (.int .i64 0) v w'

theorem rc_num {x : Nat} (f : Fit (oneR x)) (pb : Nat) : CalcM 44 pb x := fun v h => by
  have c := rNum_any 0 x pb v f.lo h
  have e : stepI 0 true (ofI x) = ⟨0, x, x⟩ := by
    unfold stepI ofI
    rw [if_pos rfl, if_pos rfl, if_pos (show rightB x = true from f.rlo)]
  rw [e] at c
  exact told_none rfl c
theorem rc_add {a b : Res} (fa : Fit a) (fb : Fit b) (fr : Fit (addR a b)) (pb : Nat) : Calc2 70 pb a.lo a.hi b.lo b.hi (addR a b).lo (addR a b).hi := fun v h => by
  have c := rAdd_any 0 a.lo a.hi b.lo b.hi pb v fa.lo fa.hi fb.lo fb.hi h
  rw [step_two fa fb] at c
  exact told_none fr.e c
theorem rc_sub {a b : Res} (fa : Fit a) (fb : Fit b) (fr : Fit (subR a b)) (pb : Nat) : Calc2 71 pb a.lo a.hi b.lo b.hi (subR a b).lo (subR a b).hi := fun v h => by
  have c := rSub_any 0 a.lo a.hi b.lo b.hi pb v fa.lo fa.hi fb.lo fb.hi h
  rw [step_two fa fb] at c
  exact told_none fr.e c
theorem rc_mul {a b : Res} (fa : Fit a) (fb : Fit b) (fr : Fit (mulR a b)) (pb : Nat) : Calc2 74 pb a.lo a.hi b.lo b.hi (mulR a b).lo (mulR a b).hi := fun v h => by
  have c := rMul_any 0 a.lo a.hi b.lo b.hi pb v fa.lo fa.hi fb.lo fb.hi h
  rw [step_two fa fb] at c
  exact told_none fr.e c
theorem rc_div {a b : Res} (fa : Fit a) (fb : Fit b) (fr : Fit (divR a b)) (pb : Nat) : Calc2 47 pb a.lo a.hi b.lo b.hi (divR a b).lo (divR a b).hi := fun v h => by
  have c := rDiv_any 0 a.lo a.hi b.lo b.hi pb v fa.lo fa.hi fb.lo fb.hi h
  rw [step_two fa fb] at c
  exact told_none fr.e c
theorem rc_sqr {a : Res} (fa : Fit a) (fr : Fit (sqrR a)) (pb : Nat) : Calc1 72 pb a.lo a.hi (sqrR a).lo (sqrR a).hi := fun v h => by
  have c := rSqr_any 0 a.lo a.hi pb v fa.lo fa.hi h
  rw [step_one fa] at c
  exact told_none fr.e c
theorem Env.second {w v : World} {pb q : Nat} {l : List (Nat × Array Value)} {a b : Value} (h : Env w pb ((q, #[a, b]) :: l) v) (hq : w.heap.size ≤ q) (hl : ∀ p, p ∈ l → q ≠ p.1) (y : Value) :
    Env w pb ((q, #[a, y]) :: l) (v.setCell ⟨q, 1, none⟩ y) where
  put := by
    have hb : Below w.heap.size (w.setCell ⟨pb, 0, none⟩ (.int .i64 0)) v := h.put
    exact hb.setCell hq _
  cal := h.cal.set (Ne.symm (h.ne 0 rfl))
  blocks := fun p hp => by
    rcases List.mem_cons.1 hp with e | e
    · subst e
      exact ⟨(h.nth 0 rfl).setIn 1 y, (h.ne 0 rfl : pb ≠ (q, #[a, b]).1)⟩
    · exact ⟨(h.blocks p (List.mem_cons_of_mem _ e)).1.set (hl p e), (h.blocks p (List.mem_cons_of_mem _ e)).2⟩

end Go.Proofs.YtcfgahlaiiibiaaGreat

namespace Go.Proofs.YtcfgahlaiiibiaaGreat
open Go.RowKit
attribute [local go_sem] run_store_float

end Go.Proofs.YtcfgahlaiiibiaaGreat

namespace Go.Proofs.YtcfgahlaiiibiaaGreat
open Go.RowKit
attribute [local go_sem] run_store_float

end Go.Proofs.YtcfgahlaiiibiaaGreat

namespace Go.Proofs.YtcfgahlaiiibiaaGreat
open Go.RowKit
attribute [local go_sem] run_store_float

end Go.Proofs.YtcfgahlaiiibiaaGreat
