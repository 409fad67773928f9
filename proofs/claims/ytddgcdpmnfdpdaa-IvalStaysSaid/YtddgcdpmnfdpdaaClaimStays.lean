
/- IvalStays holds for every slice of ops, nil with them: the law answers true, and its argument reads as before. No conditions. -/
import Derived.Test.YtddgcdpmnfdpdaaBase
import Derived.ProofKit
import Derived.Lib.SmallJoins
import Derived.Laws.Cover2
import Derived.Test.YtddgcdpmnfdpdaaStaysB
import Derived.Deep.Slices
import Derived.Carry
import Derived.LoopTactic
namespace Go.Proofs.Ytddgcdpmnfdpdaa
open Go.ChangeShapes Go.WideShapes Go.ChangeAt Go.RowKit Go.Joins

theorem Try.own : ownKnob Try.prog.godebug = none := by kernel_rfl
theorem Try.cellsIv : Try.prog.cellsOf 39 = 2 := by kernel_rfl

theorem trod_float {H : Type} {enc : TypeId × Value → H} {P : Program} {w : World} {base : Nat} {spare : Nat → Bool} {held : Bool} {fuel : Nat} {t : TypeId} {k : FloatKind} {v : Value} {x : DataW H × List MemPlace} (ht : P.underlying t = some (.float k)) (h : DataW.trod enc P w base spare held fuel t [v] = some x) :
    ∃ n, v = .float k n ∧ x = (.lit (.float k n), []) ∧ (Lit.float k n).wf = true := by
  cases fuel with
  | zero => simp [DataW.trod] at h
  | succ n =>
    unfold DataW.trod at h
    rw [ht] at h
    split at h <;> simp_all

set_option maxRecDepth 100000 in
theorem open_iv {H : Type} {enc : TypeId × Value → H} {W : World} {base : Nat} {spare : Nat → Bool} {held : Bool} {r : Reach} {b0 : Nat} {v : Value} {d : DataW H} {p : List MemPlace} (hv : Value.okWide Try.prog W r b0 39 v) (h : DataW.Trod enc Try.prog W base spare held 39 v d p) :
    ∃ lo hi, v = .agg #[.float .f64 lo, .float .f64 hi] ∧ d = .agg [.lit (.float .f64 lo), .lit (.float .f64 hi)] ∧ p = [] ∧ (Lit.float .f64 lo).wf = true ∧ (Lit.float .f64 hi).wf = true := by
  obtain ⟨c0, c1, y0, y1, m, rfl, rfl, rfl, hy0, hy1⟩ := open_agg2 Try.underlying39 (by kernel_rfl) Try.cellsIv hv h
  obtain ⟨lo, rfl, rfl, w0⟩ := trod_float Try.underlying22 hy0
  obtain ⟨hi, rfl, rfl, w1⟩ := trod_float Try.underlying22 hy1
  exact ⟨lo, hi, rfl, rfl, rfl, w0, w1⟩

set_option maxRecDepth 100000 in
theorem shut_iv {H : Type} {enc : TypeId × Value → H} {W : World} {base : Nat} {spare : Nat → Bool} {held : Bool} {lo hi : Nat} (w0 : (Lit.float .f64 lo).wf = true) (w1 : (Lit.float .f64 hi).wf = true) :
    DataW.Trod enc Try.prog W base spare held 39 (.agg #[.float .f64 lo, .float .f64 hi]) (.agg [.lit (.float .f64 lo), .lit (.float .f64 hi)]) [] :=
  shut_agg2 (y0 := (.lit (.float .f64 lo), [])) (y1 := (.lit (.float .f64 hi), [])) Try.underlying39 (by kernel_rfl) Try.cellsIv ⟨1, by simp [DataW.trod, Try.underlying22, w0]⟩ ⟨1, by simp [DataW.trod, Try.underlying22, w1]⟩

end Go.Proofs.Ytddgcdpmnfdpdaa

namespace Go.Proofs.Ytddgcdpmnfdpdaa
open Go.ChangeShapes Go.WideShapes Go.ChangeAt Go.RowKit Go.Joins Go.Deep

theorem Try.cellsOp : Try.prog.cellsOf 41 = 5 := by kernel_rfl
theorem Try.cellsU8 : Try.prog.cellsOf 5 = 1 := by kernel_rfl

theorem array5 {α : Type} {cs : Array α} (h : cs.size = 5) : ∃ c0 c1 c2 c3 c4, cs = #[c0, c1, c2, c3, c4] := by
  obtain ⟨l⟩ := cs
  match l, h with
  | [c0, c1, c2, c3, c4], _ => exact ⟨c0, c1, c2, c3, c4, rfl⟩

/-- The two cells of an interval. -/
theorem trod_iv {H : Type} {enc : TypeId × Value → H} {w : World} {base : Nat} {spare : Nat → Bool} {held : Bool} {fuel : Nat} {v0 v1 : Value} {x : DataW H × List MemPlace} (h : DataW.trod enc Try.prog w base spare held fuel 39 [v0, v1] = some x) :
    ∃ lo hi, v0 = .float .f64 lo ∧ v1 = .float .f64 hi ∧ x = (.agg [.lit (.float .f64 lo), .lit (.float .f64 hi)], []) ∧ (Lit.float .f64 lo).wf = true ∧ (Lit.float .f64 hi).wf = true := by
  obtain ⟨y0, y1, n, hx, _, h0, h1⟩ := trod_struct2 Try.underlying39 h
  have k : Try.prog.cellsOf 22 = 1 := by kernel_rfl
  have h0' : DataW.trod enc Try.prog w base spare held n 22 [v0] = some y0 := by rw [k] at h0; exact h0
  have h1' : DataW.trod enc Try.prog w base spare held n 22 [v1] = some y1 := by rw [k] at h1; exact h1
  obtain ⟨lo, rfl, rfl, w0⟩ := trod_float Try.underlying22 h0'
  obtain ⟨hi, rfl, rfl, w1⟩ := trod_float Try.underlying22 h1'
  exact ⟨lo, hi, rfl, rfl, hx, w0, w1⟩

set_option maxRecDepth 100000 in
/-- The five cells of an op. -/
theorem trod_op {H : Type} {enc : TypeId × Value → H} {w : World} {base : Nat} {spare : Nat → Bool} {held : Bool} {fuel : Nat} {v0 v1 v2 v3 v4 : Value} {x : DataW H × List MemPlace} (h : DataW.trod enc Try.prog w base spare held fuel 41 [v0, v1, v2, v3, v4] = some x) :
    ∃ n al ah bl bh, v0 = .int .u8 n ∧ v1 = .float .f64 al ∧ v2 = .float .f64 ah ∧ v3 = .float .f64 bl ∧ v4 = .float .f64 bh ∧
      x = (.agg [.lit (.int .u8 n), .agg [.lit (.float .f64 al), .lit (.float .f64 ah)], .agg [.lit (.float .f64 bl), .lit (.float .f64 bh)]], []) ∧ (Lit.int .u8 n).wf = true ∧
      (Lit.float .f64 al).wf = true ∧ (Lit.float .f64 ah).wf = true ∧ (Lit.float .f64 bl).wf = true ∧ (Lit.float .f64 bh).wf = true := by
  obtain ⟨y0, y1, y2, n, hx, _, h0, h1, h2⟩ := trod_struct3 Try.underlying41 h
  have h0' : DataW.trod enc Try.prog w base spare held n 5 [v0] = some y0 := by rw [Try.cellsU8] at h0; exact h0
  have h1' : DataW.trod enc Try.prog w base spare held n 39 [v1, v2] = some y1 := by rw [Try.cellsIv] at h1; exact h1
  have h2' : DataW.trod enc Try.prog w base spare held n 39 [v3, v4] = some y2 := by rw [Try.cellsIv] at h2; exact h2
  obtain ⟨m, e0, rfl, w0⟩ := DataW.trod_int Try.underlying5 h0'
  obtain ⟨al, ah, rfl, rfl, rfl, w1, w2⟩ := trod_iv h1'
  obtain ⟨bl, bh, rfl, rfl, rfl, w3, w4⟩ := trod_iv h2'
  have e0' : v0 = .int .u8 m := by simpa using e0
  exact ⟨m, al, ah, bl, bh, e0', rfl, rfl, rfl, rfl, hx, w0, w1, w2, w3, w4⟩

set_option maxRecDepth 100000 in
theorem open_op {H : Type} {enc : TypeId × Value → H} {W : World} {base : Nat} {spare : Nat → Bool} {held : Bool} {r : Reach} {b0 : Nat} {v : Value} {d : DataW H} {p : List MemPlace} (hv : Value.okWide Try.prog W r b0 41 v) (h : DataW.Trod enc Try.prog W base spare held 41 v d p) :
    ∃ n al ah bl bh, v = .agg #[.int .u8 n, .float .f64 al, .float .f64 ah, .float .f64 bl, .float .f64 bh] ∧
      d = .agg [.lit (.int .u8 n), .agg [.lit (.float .f64 al), .lit (.float .f64 ah)], .agg [.lit (.float .f64 bl), .lit (.float .f64 bh)]] ∧ p = [] ∧ (Lit.int .u8 n).wf = true ∧
      (Lit.float .f64 al).wf = true ∧ (Lit.float .f64 ah).wf = true ∧ (Lit.float .f64 bl).wf = true ∧ (Lit.float .f64 bh).wf = true := by
  obtain ⟨cs, rfl, hsz⟩ := okWide_struct Try.underlying41 hv
  obtain ⟨c0, c1, c2, c3, c4, rfl⟩ := array5 (hsz.trans Try.cellsOp)
  obtain ⟨fuel, hf⟩ := h
  have hf' : DataW.trod enc Try.prog W base spare held fuel 41 [c0, c1, c2, c3, c4] = some (d, p) := hf
  obtain ⟨n, al, ah, bl, bh, rfl, rfl, rfl, rfl, rfl, hx, w0, w1, w2, w3, w4⟩ := trod_op hf'
  simp only [Prod.mk.injEq] at hx
  exact ⟨n, al, ah, bl, bh, rfl, hx.1, hx.2, w0, w1, w2, w3, w4⟩

theorem trod_float_mk {H : Type} {enc : TypeId × Value → H} {P : Program} {w : World} {base : Nat} {spare : Nat → Bool} {held : Bool} {t : TypeId} {k : FloatKind} {n : Nat} (m : Nat) (ht : P.underlying t = some (.float k)) (hw : (Lit.float k n).wf = true) : DataW.trod enc P w base spare held (m + 1) t [.float k n] = some (.lit (.float k n), []) := by
  simp [DataW.trod, ht, hw]

set_option maxRecDepth 100000 in
theorem trod_iv_mk {H : Type} {enc : TypeId × Value → H} {w : World} {base : Nat} {spare : Nat → Bool} {held : Bool} {lo hi : Nat} (w0 : (Lit.float .f64 lo).wf = true) (w1 : (Lit.float .f64 hi).wf = true) :
    DataW.trod enc Try.prog w base spare held 2 39 [.float .f64 lo, .float .f64 hi] = some (.agg [.lit (.float .f64 lo), .lit (.float .f64 hi)], []) := by
  have k : Try.prog.cellsOf 22 = 1 := by kernel_rfl
  have h0 : DataW.trod enc Try.prog w base spare held 1 22 (([.float .f64 lo, .float .f64 hi].drop 0).take (Try.prog.cellsOf 22)) = some (.lit (.float .f64 lo), []) := by rw [k]; exact trod_float_mk 0 Try.underlying22 w0
  have h1 : DataW.trod enc Try.prog w base spare held 1 22 (([.float .f64 lo, .float .f64 hi].drop 1).take (Try.prog.cellsOf 22)) = some (.lit (.float .f64 hi), []) := by rw [k]; exact trod_float_mk 0 Try.underlying22 w1
  exact trod_struct2_mk Try.underlying39 (by rw [Try.cellsIv]; rfl) h0 h1

set_option maxRecDepth 100000 in
theorem shut_op {H : Type} {enc : TypeId × Value → H} {W : World} {base : Nat} {spare : Nat → Bool} {held : Bool} {n : Int} {al ah bl bh : Nat} (w0 : (Lit.int .u8 n).wf = true) (w1 : (Lit.float .f64 al).wf = true) (w2 : (Lit.float .f64 ah).wf = true) (w3 : (Lit.float .f64 bl).wf = true) (w4 : (Lit.float .f64 bh).wf = true) :
    DataW.Trod enc Try.prog W base spare held 41 (.agg #[.int .u8 n, .float .f64 al, .float .f64 ah, .float .f64 bl, .float .f64 bh]) (.agg [.lit (.int .u8 n), .agg [.lit (.float .f64 al), .lit (.float .f64 ah)], .agg [.lit (.float .f64 bl), .lit (.float .f64 bh)]]) [] := by
  have h0 : DataW.trod enc Try.prog W base spare held 2 5 (([.int .u8 n, .float .f64 al, .float .f64 ah, .float .f64 bl, .float .f64 bh].drop 0).take (Try.prog.cellsOf 5)) = some (.lit (.int .u8 n), []) := by rw [Try.cellsU8]; exact trod_int_mk 1 Try.underlying5 w0
  have h1 : DataW.trod enc Try.prog W base spare held 2 39 (([.int .u8 n, .float .f64 al, .float .f64 ah, .float .f64 bl, .float .f64 bh].drop 1).take (Try.prog.cellsOf 39)) = some (.agg [.lit (.float .f64 al), .lit (.float .f64 ah)], []) := by rw [Try.cellsIv]; exact trod_iv_mk w1 w2
  have h2 : DataW.trod enc Try.prog W base spare held 2 39 (([.int .u8 n, .float .f64 al, .float .f64 ah, .float .f64 bl, .float .f64 bh].drop 3).take (Try.prog.cellsOf 39)) = some (.agg [.lit (.float .f64 bl), .lit (.float .f64 bh)], []) := by rw [Try.cellsIv]; exact trod_iv_mk w3 w4
  exact ⟨3, trod_struct3_mk Try.underlying41 (by rw [Try.cellsOp]; rfl) h0 h1 h2⟩

end Go.Proofs.Ytddgcdpmnfdpdaa

namespace Go.Proofs.Ytddgcdpmnfdpdaa
open Go.ChangeShapes Go.WideShapes Go.ChangeAt Go.RowKit Go.Joins Go.Deep

set_option maxRecDepth 100000 in
set_option maxHeartbeats 1000000 in
theorem stays_nil (w : World) :
    Calls Try.prog 7 #[.slice none 0 0] w fun r w' => r = .returned (.bool true) ∧ Below w.heap.size w w' := by
  have M0 := Lib.hid ((Mem.nil w).made #[.int .i64 0] 45)
  go_enter Try.func7, Try.ntmps7
  go_wp2_with fail
  go_loopw [17] (fun i wr => i = .int .i64 0 ∧ Below w.heap.size w wr) (fun _ _ => 0)
  case atStart => exact ⟨rfl, M0.out.base⟩
  case round =>
    obtain ⟨rfl, hb⟩ := hrel
    have HB := Lib.hid hb
    clear hb M0
    go_wp2_with fail
    refine (err_nil _).mono ?_
    rintro rr ww ⟨rfl, rfl⟩
    go_wp2_with fail
    refine (awake2_any _).mono ?_
    rintro rr w12 ⟨rfl, hb⟩
    have HB2 := Lib.hid (HB.out.trans (hb.mono HB.out.size))
    clear hb
    go_wp2
    go_ret
    exact ⟨rfl, HB2.out⟩

theorem run_min30 (len : Nat) (ts : Array TypeId) (t : TypeId) (w : World) : (Builtin.min_ ts t #[.int .i64 len, .int .i64 30]).run Try.prog w = .ok (.int .i64 (min len 30 : Nat)) w := by
  rcases Nat.lt_or_ge len 30 with h | h
  · rw [Nat.min_eq_left (by omega)]
    simp [Builtin.min_, Builtin.min2]
    omega
  · rw [Nat.min_eq_right h]
    simp [Builtin.min_, Builtin.min2]
    omega

set_option maxRecDepth 100000 in
/-- A slice of ops comes in. -/
theorem open_ops {H : Type} {enc : TypeId × Value → H} {W : World} {base : Nat} {held : Bool} {r : Reach} {b0 : Nat} {v : Value} {d : DataW H} {p : List MemPlace} (hv : Value.okWide Try.prog W r b0 56 v) (h : DataW.Trod enc Try.prog W base (fun _ => true) held 56 v d p) :
    v = .slice none 0 0 ∨ ∃ (a : Addr) (len cap : Nat), v = .slice (some a) len cap ∧ len ≤ cap ∧ ∀ i, i < len → ∃ n al ah bl bh, OpAt W (a.add (i * 5)) n al ah bl bh := by
  obtain ⟨a0, len, cap, rfl⟩ := okWide_slice Try.underlying56 hv
  obtain ⟨fuel, hf⟩ := h
  have hf' : DataW.trod enc Try.prog W base (fun _ => true) held fuel 56 [.slice a0 len cap] = some (d, p) := by simpa [Value.cells] using hf
  rcases open_slice Try.underlying56 hf' with ⟨h0, _⟩ | ⟨a, len', cap', m, n, D, Pl, hcs, _, hl, _, hmm, _, hi⟩
  · left
    simpa using h0
  · right
    have he : Value.slice a0 len cap = .slice (some a) len' cap' := by simpa using hcs
    refine ⟨a, len', cap', he, hl, fun i hil => ?_⟩
    have hm : m = cap' := by rw [hmm]; rfl
    obtain ⟨cs', hc, ht⟩ := hi i (by omega)
    rw [Try.cellsOp] at hc
    obtain ⟨_, hlen, hat⟩ := World.cells?_some hc
    match cs', hlen with
    | [c0, c1, c2, c3, c4], _ =>
      obtain ⟨n, al, ah, bl, bh, rfl, rfl, rfl, rfl, rfl, _, w0, w1, w2, w3, w4⟩ := trod_op ht
      have hn : 0 ≤ n ∧ n < 256 := by
        have h := w0
        simp [Lit.wf] at h
        have e1 : IntKind.u8.min = 0 := by decide
        have e2 : IntKind.u8.max = 255 := by decide
        omega
      obtain ⟨x, rfl⟩ := Int.eq_ofNat_of_zero_le hn.1
      have a0 := hat 0 (by decide)
      have a1 := hat 1 (by decide)
      have a2 := hat 2 (by decide)
      have a3 := hat 3 (by decide)
      have a4 := hat 4 (by decide)
      have z : W.cell? (a.add (i * 5)) = some (.int .u8 (x : Int)) := a0
      exact ⟨x, al, ah, bl, bh, z, a1, a2, a3, a4, by omega, by simpa [Lit.wf] using w1, by simpa [Lit.wf] using w2, by simpa [Lit.wf] using w3, by simpa [Lit.wf] using w4, cell_lt z⟩

theorem stays_some (a : Addr) (len cap : Nat) (w : World) (hc : len ≤ cap) (h : ∀ i, i < len → ∃ n al ah bl bh, OpAt w (a.add (i * 5)) n al ah bl bh) :
    Calls Try.prog 7 #[.slice (some a) len cap] w fun r w' => r = .returned (.bool true) ∧ Below w.heap.size w w' :=
  stays_walk a len cap (min len 30) w (Nat.min_le_left _ _) (Nat.min_le_right _ _) hc (fun ts t w => run_min30 len ts t w) (Lib.hid h)

theorem Try.laidOut' : laidOutB Try.prog = true := by kernel_rfl

set_option maxRecDepth 100000 in
theorem ivalStays_lifted (os : Os) (started : os.Started) (H : Type) (enc : TypeId × Value → H) :
    ReturnsInHanded {} Try.checked os 7 .any (Rows.ivalStaysSpec.pre6 enc Try.prog Try.f7 Rows.ivalStaysRow.domain false) (Rows.ivalStaysSpec.post enc Try.prog Try.f7 false true false false) := by
  refine returnsInHanded_of_change (C := Try.checked) Try.own started (by kernel_rfl) Try.func7
    (ChangeSpec.witness6 (enc := enc) (C := Try.checked) false ⟨#[], #[.slice none 0 0], []⟩ 8 (by kernel_rfl) (by kernel_rfl) (by kernel_rfl) (by kernel_rfl)) ?_
  intro W base args ds gs before hval0 hW hcnd _
  have hval : ∀ (j : Nat) t v, Try.f7.params[j]? = some t → args[j]? = some v → Value.okWide Try.prog W .any base t v := hval0
  have hW' := hW
  obtain ⟨p, q, hA0, hV, rfl, hfz, hnd⟩ := hW
  have hA : DataW.TrodAll enc Try.prog W 0 (fun _ => true) true Try.f7.params.toList args.toList ds p := hA0
  rw [Try.params7] at hA hval
  obtain ⟨v0, d0, rfl, rfl, h0⟩ := trodAll_one hA
  obtain ⟨rfl, rfl⟩ := trodVars_none hV
  clear hA0 hval0
  simp only [List.append_nil] at hW'
  have hlt : ∀ x ∈ p, x.block < W.heap.size := fun x hx => by simpa using hW'.lt x hx
  have hargs : ∀ (W' : World), Below W.heap.size W W' → DataW.TrodAll enc Try.prog W' 0 (fun b => decide (b < W.heap.size)) true [56] [v0] [d0] p :=
    fun W' hn => trodAll_mk1 (Below.trod Try.laidOut' (by kernel_rfl) (of_decide_eq_true (by kernel_rfl)) h0 hn hlt)
  have hcall : Calls Try.prog 7 #[v0] W fun r w' => r = .returned (.bool true) ∧ Below W.heap.size W w' := by
    rcases open_ops (hval 0 56 v0 rfl rfl) h0 with rfl | ⟨a, len, cap, rfl, hc, hi⟩
    · exact stays_nil W
    · exact stays_some a len cap W hc hi
  refine hcall.mono fun e W' ⟨he, hw⟩ => ?_
  subst he
  refine ⟨_, rfl, _, _, _, [], p, [], hW', trodAll_mk1 (shut_bool Try.underlying4 _), hargs _ hw, rfl, hw.frame _, fun h => by cases h⟩

theorem ivalStays_holds : Rows.IvalStaysSaid :=
  OpenClaim.holds_of_wide 7 Try.f7 rfl rfl rfl rfl rfl rfl rfl ⟨rfl, rfl, rfl, rfl, rfl⟩ rfl rfl rfl rfl rfl (by kernel_rfl) Try.func7 (by kernel_rfl)
    (of_decide_eq_true (by kernel_rfl)) (by unfold Func.isWrapper; first | (rw [if_pos (by decide +kernel)]; kernel_rfl) | (rw [if_neg (by decide +kernel)]; exact ⟨rfl, rfl⟩))
    (fun os started H enc _ => ivalStays_lifted os started H enc)

end Go.Proofs.Ytddgcdpmnfdpdaa
