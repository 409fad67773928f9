
/- DirTells holds for any two float64, either way: the law answers true, and its arguments read as before. No conditions. -/
import Derived.Test.YtmcecchcbfhfcaaRefZ
import Derived.Test.YtmcecchcbfhfcaaAwakeB
import Derived.Test.YtmcecchcbfhfcaaMem
import Derived.Test.YtmcecchcbfhfcaaSame
import Derived.LoopTactic
import Derived.ProofKit
namespace Go.Proofs.Ytmcecchcbfhfcaa
open Go.RowKit

abbrev Dir3 (F : Nat) (a b : Nat) (up : Bool) (v : Nat) (e : Int) : Prop := ∀ w : World, Calls Try.prog F #[.float .f64 a, .float .f64 b, .bool up] w fun r w' => r = .returned (.tuple #[.float .f64 v, .int .i64 e]) ∧ Below w.heap.size w w'
abbrev Ref3 (F : Nat) (a b : Nat) (up : Bool) (v : Nat) (e : Int) : Prop := ∀ w : World, Calls Try.prog F #[.float .f64 a, .float .f64 b, .bool up] w fun r w' => r = .returned (.tuple #[.float .f64 v, .int .i64 e]) ∧ w = w'
abbrev Dir2 (F : Nat) (a : Nat) (up : Bool) (v : Nat) (e : Int) : Prop := ∀ w : World, Calls Try.prog F #[.float .f64 a, .bool up] w fun r w' => r = .returned (.tuple #[.float .f64 v, .int .i64 e]) ∧ Below w.heap.size w w'
abbrev Ref2 (F : Nat) (a : Nat) (up : Bool) (v : Nat) (e : Int) : Prop := ∀ w : World, Calls Try.prog F #[.float .f64 a, .bool up] w fun r w' => r = .returned (.tuple #[.float .f64 v, .int .i64 e]) ∧ w = w'
abbrev Rgt (F : Nat) (a : Nat) (b : Bool) : Prop := ∀ w : World, Calls Try.prog F #[.float .f64 a] w fun r w' => r = .returned (.bool b) ∧ w = w'

theorem same_word (a : Nat) (w : World) : Calls Try.prog 20 #[.float .f64 a, .float .f64 a] w fun r w' => r = .returned (.bool true) ∧ w = w' := by
  have h := same_any a a w
  rw [decide_eq_true rfl] at h
  exact h

/-- The two rows of functions. -/
def rowD : Array Value := #[.func (.func 12) #[] #[], .func (.func 13) #[] #[], .func (.func 14) #[] #[], .func (.func 15) #[] #[]]
def rowR : Array Value := #[.func (.func 16) #[] #[], .func (.func 17) #[] #[], .func (.func 18) #[] #[], .func (.func 19) #[] #[]]

def TellsRel (w : World) (i : Value) (wr : World) : Prop := (i = .int .i64 0 ∨ i = .int .i64 1 ∨ i = .int .i64 2 ∨ i = .int .i64 3 ∨ i = .int .i64 4) ∧ Mem w [(w.heap.size + 1, rowR), (w.heap.size, rowD)] wr

set_option maxRecDepth 100000 in
set_option maxHeartbeats 4000000 in
theorem tells_walk (a b : Nat) (up : Bool) (v0 v1 v2 v3 v4 v5 : Nat) (e0 e1 e2 e3 e4 e5 : Int) (rt : Bool) (w : World)
    (c0 : Hid (Dir3 12 a b up v0 e0)) (d0 : Hid (Ref3 16 a b up v0 e0))
    (c1 : Hid (Dir3 13 a b up v1 e1)) (d1 : Hid (Ref3 17 a b up v1 e1))
    (c2 : Hid (Dir3 14 a b up v2 e2)) (d2 : Hid (Ref3 18 a b up v2 e2))
    (c3 : Hid (Dir3 15 a b up v3 e3)) (d3 : Hid (Ref3 19 a b up v3 e3))
    (c4 : Hid (Dir2 21 a up v4 e4)) (d4 : Hid (Ref2 22 a up v4 e4))
    (c5 : Hid (Dir2 23 a up v5 e5)) (d5 : Hid (Ref2 24 a up v5 e5))
    (cR : Hid (Rgt 25 a rt)) (dR : Hid (Rgt 26 a rt)) :
    Calls Try.prog 3 #[.float .f64 a, .float .f64 b, .bool up] w fun r w' => r = .returned (.bool true) ∧ Below w.heap.size w w' := by
  have M0 : Mem w [(w.heap.size + 1, rowR), (w.heap.size, rowD)] ((w.alloc (.cells rowD 23)).alloc (.cells rowR 23)) := by
    have h := Mem.two w rowD rowR 23 23
    exact h.sub (fun p hp => by simp at hp ⊢; rcases hp with h | h <;> simp [h])
  replace M0 := Lib.hid M0
  go_enter Try.func3, Try.ntmps3
  go_wp2_with fail
  go_loopw [25] (fun i wr => TellsRel w i wr) (fun i _ => 4 - (intOf i).toNat)
  case atStart => exact ⟨Or.inl rfl, M0.out⟩
  case round =>
    clear M0
    obtain ⟨hi, hM⟩ := hrel
    have M := Lib.hid hM
    clear hM
    have k0 := (M.out.nth 0 rfl).1
    have k1 := (M.out.nth 1 rfl).1
    have f0 : wr.cell? ⟨w.heap.size, 0, none⟩ = some (.func (.func 12) #[] #[]) := (M.out.nth 1 rfl).2.1 0
    have g0 : wr.cell? ⟨w.heap.size + 1, 0, none⟩ = some (.func (.func 16) #[] #[]) := (M.out.nth 0 rfl).2.1 0
    have f1 : wr.cell? ⟨w.heap.size, 1, none⟩ = some (.func (.func 13) #[] #[]) := (M.out.nth 1 rfl).2.1 1
    have g1 : wr.cell? ⟨w.heap.size + 1, 1, none⟩ = some (.func (.func 17) #[] #[]) := (M.out.nth 0 rfl).2.1 1
    have f2 : wr.cell? ⟨w.heap.size, 2, none⟩ = some (.func (.func 14) #[] #[]) := (M.out.nth 1 rfl).2.1 2
    have g2 : wr.cell? ⟨w.heap.size + 1, 2, none⟩ = some (.func (.func 18) #[] #[]) := (M.out.nth 0 rfl).2.1 2
    have f3 : wr.cell? ⟨w.heap.size, 3, none⟩ = some (.func (.func 15) #[] #[]) := (M.out.nth 1 rfl).2.1 3
    have g3 : wr.cell? ⟨w.heap.size + 1, 3, none⟩ = some (.func (.func 19) #[] #[]) := (M.out.nth 0 rfl).2.1 3
    rcases hi with rfl | rfl | rfl | rfl | rfl
    · go_wp2_with fail
      refine (c0.out _).mono ?_
      rintro rr w1 ⟨rfl, hb⟩
      have M' := Lib.hid (M.out.below hb)
      clear hb
      go_wp2_with fail
      refine (d0.out _).mono ?_
      rintro rr ww ⟨rfl, rfl⟩
      go_wp2_with fail
      refine (same_word _ _).mono ?_
      rintro rr ww ⟨rfl, rfl⟩
      go_wp2_with fail
      go_roundw
      case rel => exact ⟨by simp, M'.out⟩
      case measure => decide
    · go_wp2_with fail
      refine (c1.out _).mono ?_
      rintro rr w1 ⟨rfl, hb⟩
      have M' := Lib.hid (M.out.below hb)
      clear hb
      go_wp2_with fail
      refine (d1.out _).mono ?_
      rintro rr ww ⟨rfl, rfl⟩
      go_wp2_with fail
      refine (same_word _ _).mono ?_
      rintro rr ww ⟨rfl, rfl⟩
      go_wp2_with fail
      go_roundw
      case rel => exact ⟨by simp, M'.out⟩
      case measure => decide
    · go_wp2_with fail
      refine (c2.out _).mono ?_
      rintro rr w1 ⟨rfl, hb⟩
      have M' := Lib.hid (M.out.below hb)
      clear hb
      go_wp2_with fail
      refine (d2.out _).mono ?_
      rintro rr ww ⟨rfl, rfl⟩
      go_wp2_with fail
      refine (same_word _ _).mono ?_
      rintro rr ww ⟨rfl, rfl⟩
      go_wp2_with fail
      go_roundw
      case rel => exact ⟨by simp, M'.out⟩
      case measure => decide
    · go_wp2_with fail
      refine (c3.out _).mono ?_
      rintro rr w1 ⟨rfl, hb⟩
      have M' := Lib.hid (M.out.below hb)
      clear hb
      go_wp2_with fail
      refine (d3.out _).mono ?_
      rintro rr ww ⟨rfl, rfl⟩
      go_wp2_with fail
      refine (same_word _ _).mono ?_
      rintro rr ww ⟨rfl, rfl⟩
      go_wp2_with fail
      go_roundw
      case rel => exact ⟨by simp, M'.out⟩
      case measure => decide
    · have M' := M
      go_wp2_with fail
      refine (c4.out _).mono ?_
      rintro rr w1 ⟨rfl, hb⟩
      have M1 := Lib.hid (M'.out.below hb)
      clear hb
      go_wp2_with fail
      refine (d4.out _).mono ?_
      rintro rr ww ⟨rfl, rfl⟩
      go_wp2_with fail
      refine (c5.out _).mono ?_
      rintro rr w2 ⟨rfl, hb⟩
      have M2 := Lib.hid (M1.out.below hb)
      clear hb
      go_wp2_with fail
      refine (d5.out _).mono ?_
      rintro rr ww ⟨rfl, rfl⟩
      go_wp2_with fail
      refine (cR.out _).mono ?_
      rintro rr ww ⟨rfl, rfl⟩
      go_wp2_with fail
      refine (dR.out _).mono ?_
      rintro rr ww ⟨rfl, rfl⟩
      go_wp2_with fail
      refine (same_word _ _).mono ?_
      rintro rr ww ⟨rfl, rfl⟩
      go_wp2_with fail
      refine (same_word _ _).mono ?_
      rintro rr ww ⟨rfl, rfl⟩
      go_wp2_with fail
      refine (awake_any _).mono ?_
      rintro rr w3 ⟨rfl, hb⟩
      have M3 := Lib.hid (M2.out.below hb)
      clear hb
      go_wp2
      go_ret
      exact ⟨rfl, M3.out.base⟩

/-- DirTells, of any words. -/
theorem tells_any (a b : Nat) (up : Bool) (w : World) (la : a < 18446744073709551616) (lb : b < 18446744073709551616) :
    Calls Try.prog 3 #[.float .f64 a, .float .f64 b, .bool up] w fun r w' => r = .returned (.bool true) ∧ Below w.heap.size w w' :=
  tells_walk a b up _ _ _ _ _ _ _ _ _ _ _ _ _ w
    (Lib.hid fun w => add_any a b up w la lb) (Lib.hid fun w => refAdd_all a b up w la lb)
    (Lib.hid fun w => sub_any a b up w la lb) (Lib.hid fun w => refSub_all a b up w la lb)
    (Lib.hid fun w => mul_any a b up w la lb) (Lib.hid fun w => refMul_all a b up w la lb)
    (Lib.hid fun w => div_any a b up w la lb) (Lib.hid fun w => refDiv_all a b up w la lb)
    (Lib.hid fun w => sqrt_any a up w la) (Lib.hid fun w => refSqrt_all a up w la) (Lib.hid fun w => next_any a up w la) (Lib.hid fun w => refNext_any a up w la)
    (Lib.hid fun w => right_any a w la) (Lib.hid fun w => refRight_any a w la)

end Go.Proofs.Ytmcecchcbfhfcaa

namespace Go.Proofs.Ytmcecchcbfhfcaa
open Go.ChangeShapes Go.WideShapes Go.ChangeAt Go.RowKit

theorem Try.own : ownKnob Try.prog.godebug = none := by kernel_rfl

set_option maxRecDepth 100000 in
theorem dirTells_lifted (os : Os) (started : os.Started) (H : Type) (enc : TypeId × Value → H) :
    ReturnsInHanded {} Try.checked os 3 .any (Rows.dirTellsSpec.pre6 enc Try.prog Try.f3 Rows.dirTellsRow.domain false) (Rows.dirTellsSpec.post enc Try.prog Try.f3 false true false false) := by
  refine returnsInHanded_of_change (C := Try.checked) Try.own started (by kernel_rfl) Try.func3
    (ChangeSpec.witness6 (enc := enc) (C := Try.checked) false ⟨#[], #[.float .f64 0, .float .f64 0, .bool false], []⟩ 8 (by kernel_rfl) (by kernel_rfl) (by kernel_rfl) (by kernel_rfl)) ?_
  intro W base args ds gs before hval0 hW hcnd _
  have hval : ∀ (j : Nat) t v, Try.f3.params[j]? = some t → args[j]? = some v → Value.okWide Try.prog W .any base t v := hval0
  have hW' := hW
  obtain ⟨p, q, hA0, hV, rfl, hfz, hnd⟩ := hW
  have hA : DataW.TrodAll enc Try.prog W 0 (fun _ => true) true Try.f3.params.toList args.toList ds p := hA0
  rw [Try.params3] at hA hval
  obtain ⟨v0, v1, v2, d0, d1, d2, p0, p1, p2, rfl, rfl, rfl, h0, h1, h2⟩ := trodAll_three hA
  obtain ⟨rfl, rfl⟩ := trodVars_none hV
  obtain ⟨x0, rfl, rfl, rfl, wf0⟩ := open_float Try.underlying22 (hval 0 22 v0 rfl rfl) h0
  obtain ⟨x1, rfl, rfl, rfl, wf1⟩ := open_float Try.underlying22 (hval 1 22 v1 rfl rfl) h1
  obtain ⟨x2, rfl, rfl, rfl⟩ := open_bool Try.underlying4 (hval 2 4 v2 rfl rfl) h2
  clear hA0 hval0
  simp only [List.append_nil] at hW'
  have l0 : x0 < 18446744073709551616 := by simpa [Lit.wf] using wf0
  have l1 : x1 < 18446744073709551616 := by simpa [Lit.wf] using wf1
  refine (tells_any x0 x1 x2 W l0 l1).mono fun e W' ⟨he, hw⟩ => ?_
  subst he
  refine ⟨_, rfl, _, _, _, [], [], [], hW', trodAll_mk1 (shut_bool Try.underlying4 _), trodAll_mk3 (shut_float Try.underlying22 wf0) (shut_float Try.underlying22 wf1) (shut_bool Try.underlying4 _), rfl, hw.frame _, fun h => by cases h⟩

theorem dirTells_holds : Rows.DirTellsSaid :=
  OpenClaim.holds_of_wide 3 Try.f3 rfl rfl rfl rfl rfl rfl rfl ⟨rfl, rfl, rfl, rfl, rfl⟩ rfl rfl rfl rfl rfl (by kernel_rfl) Try.func3 (by kernel_rfl)
    (of_decide_eq_true (by kernel_rfl)) (by unfold Func.isWrapper; first | (rw [if_pos (by decide +kernel)]; kernel_rfl) | (rw [if_neg (by decide +kernel)]; exact ⟨rfl, rfl⟩))
    (fun os started H enc _ => dirTells_lifted os started H enc)

end Go.Proofs.Ytmcecchcbfhfcaa
