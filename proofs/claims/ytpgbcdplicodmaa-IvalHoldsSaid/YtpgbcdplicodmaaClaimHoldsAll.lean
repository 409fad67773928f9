
/- IvalHolds holds for every op of any two intervals and any two parts: the law answers true, and its arguments read as before. No conditions. -/
import Derived.Test.YtpgbcdplicodmaaHoldsC
import Derived.Test.YtpgbcdplicodmaaBase
import Derived.ProofKit
import Derived.Lib.SmallJoins
import Derived.Laws.Cover2
import Derived.Carry
namespace Go.Proofs.Ytpgbcdplicodmaa
open Go.RowKit

set_option maxRecDepth 100000 in
set_option maxHeartbeats 1000000 in
theorem holds_bad (n al ah bl bh p q : Nat) (w : World) (la : al < 18446744073709551616) (ha : ah < 18446744073709551616) (lb : bl < 18446744073709551616) (hb : bh < 18446744073709551616) (h : (ivR al ah && ivR bl bh) = false) :
    Calls Try.prog 5 #[.agg #[.int .u8 n, .float .f64 al, .float .f64 ah, .float .f64 bl, .float .f64 bh], .int .u16 p, .int .u16 q] w fun r w' => r = .returned (.bool true) ∧ Below w.heap.size w w' := by
  have cA := Lib.hid (fun w => ivRight_any al ah w la ha)
  have cB := Lib.hid (fun w => ivRight_any bl bh w lb hb)
  have M := Lib.hid ((Mem.nil w).made #[.int .u8 n, .float .f64 al, .float .f64 ah, .float .f64 bl, .float .f64 bh] 41)
  clear la ha lb hb
  cases hr : ivR al ah
  · rw [hr] at cA
    clear h hr
    go_enter Try.func5, Try.ntmps5
    go_wp2_with fail
    refine (cA.out _).mono ?_
    rintro r w1 ⟨rfl, hb⟩
    replace M := Lib.hid (M.out.below hb)
    clear hb
    go_wp2_with fail
    refine (awake2_any _).mono ?_
    rintro r w2 ⟨rfl, hb⟩
    replace M := Lib.hid (M.out.below hb)
    clear hb
    go_wp2
    go_ret
    exact ⟨rfl, M.out.base⟩
  · rw [hr, Bool.true_and] at h
    rw [hr] at cA
    rw [h] at cB
    clear h hr
    go_enter Try.func5, Try.ntmps5
    go_wp2_with fail
    refine (cA.out _).mono ?_
    rintro r w1 ⟨rfl, hb⟩
    replace M := Lib.hid (M.out.below hb)
    have c1 := (M.out.nth 0 rfl).2.1
    clear hb
    go_wp2_with fail
    refine (cB.out _).mono ?_
    rintro r w2 ⟨rfl, hb⟩
    replace M := Lib.hid (M.out.below hb)
    clear hb c1
    go_wp2_with fail
    refine (awake2_any _).mono ?_
    rintro r w3 ⟨rfl, hb⟩
    replace M := Lib.hid (M.out.below hb)
    clear hb
    go_wp2
    go_ret
    exact ⟨rfl, M.out.base⟩

/-- Was one of the first p pairs met? -/
def hitN (a : Bool) (f : Nat → Nat → Bool) : Nat → Bool
  | 0 => a
  | p + 1 => hitN a f p || f (p / 2) (p % 2)
theorem hit_next (a : Bool) (f : Nat → Nat → Bool) (i j : Nat) (hj : j < 2) : hitN a f (2 * i + (j + 1)) = (hitN a f (2 * i + j) || f i j) := by
  show (hitN a f (2 * i + j) || f ((2 * i + j) / 2) ((2 * i + j) % 2)) = _
  rw [show (2 * i + j) / 2 = i by omega, show (2 * i + j) % 2 = j by omega]
theorem hit_four (a : Bool) (f : Nat → Nat → Bool) (h : a = true ∨ ∃ i j, i < 2 ∧ j < 2 ∧ f i j = true) : hitN a f 4 = true := by
  show (((((a || f 0 0) || f 0 1) || f 1 0) || f 1 1)) = true
  rcases h with rfl | ⟨i, j, hi, hj, h⟩
  · simp
  · rcases (show i = 0 ∨ i = 1 by omega) with rfl | rfl <;> rcases (show j = 0 ∨ j = 1 by omega) with rfl | rfl <;> simp [h]

/-- An end that was chosen is met by one of the pairs. -/
theorem chosen_met {al ah bl bh j : Nat} {up : Bool} {r : Nat} (h : Chosen al ah bl bh j up r) (ho : (FloatKind.f64.format.order r r == some Ordering.eq) = true) :
    ∃ i k, i < 2 ∧ k < 2 ∧ ((pointE (pick2 al ah i) (pick2 bl bh k) up j == 0) && (FloatKind.f64.format.order (pointW (pick2 al ah i) (pick2 bl bh k) up j) r == some Ordering.eq)) = true := by
  obtain ⟨u, v, hu, hv, he, hw⟩ := h
  have hi : ∃ i, i < 2 ∧ pick2 al ah i = u := by
    rcases hu with rfl | rfl
    · exact ⟨0, by decide, rfl⟩
    · exact ⟨1, by decide, rfl⟩
  have hk : ∃ k, k < 2 ∧ pick2 bl bh k = v := by
    rcases hv with rfl | rfl
    · exact ⟨0, by decide, rfl⟩
    · exact ⟨1, by decide, rfl⟩
  obtain ⟨i, hi, ei⟩ := hi
  obtain ⟨k, hk, ek⟩ := hk
  refine ⟨i, k, hi, hk, ?_⟩
  rw [ei, ek, he, hw, ho]; rfl

theorem pick2_num {a b i : Nat} (la : a < 18446744073709551616) (lb : b < 18446744073709551616) (ra : rightB a = true) (rb : rightB b = true) : pick2 a b i < 18446744073709551616 ∧ rightB (pick2 a b i) = true := by
  unfold pick2; split
  · exact ⟨la, ra⟩
  · exact ⟨lb, rb⟩

theorem holds_any (n al ah bl bh p q : Nat) (w : World) (hn : n < 256) (la : al < 18446744073709551616) (ha : ah < 18446744073709551616) (lb : bl < 18446744073709551616) (hb : bh < 18446744073709551616) (hp : p < 65536) (hq : q < 65536) :
    Calls Try.prog 5 #[.agg #[.int .u8 n, .float .f64 al, .float .f64 ah, .float .f64 bl, .float .f64 bh], .int .u16 p, .int .u16 q] w fun r w' => r = .returned (.bool true) ∧ Below w.heap.size w w' := by
  cases h : (ivR al ah && ivR bl bh)
  · exact holds_bad n al ah bl bh p q w la ha lb hb h
  · rw [Bool.and_eq_true] at h
    obtain ⟨r1, r2⟩ := h
    obtain ⟨a1, a2, a3⟩ := ivR_parts r1
    obtain ⟨b1, b2, b3⟩ := ivR_parts r2
    obtain ⟨t, ht⟩ : ∃ t, t = if (((n : Int) % 11 == 10) = true) then al else ah := ⟨_, rfl⟩
    have lt : t < 18446744073709551616 := by rw [ht]; split <;> assumption
    have rt : rightB t = true := by rw [ht]; split <;> assumption
    have r1' : ivR al t = true := by
      rw [ht]; split
      · unfold ivR leB; rw [a1, decide_eq_true (Int.le_refl _)]; rfl
      · exact r1
    have hj : n % 11 < 11 := Nat.mod_lt _ (by decide)
    have h10 : n % 11 = 10 → al = t := fun h => by rw [ht, if_pos (by rw [beq_iff_eq]; omega)]
    obtain ⟨x1, x2, x3, x4⟩ := btw_in al t p la lt r1'
    obtain ⟨y1, y2, y3, y4⟩ := btw_in bl bh q lb hb r2
    have cA := fun w => ivRight_any al ah w la ha
    have cB := fun w => ivRight_any bl bh w lb hb
    rw [r1] at cA
    rw [r2] at cB
    have hold : (askI al t bl bh (n % 11)).e = 0 → _ := fun he => ask_holds al t bl bh (btwW al t p) (btwW bl bh q) (n % 11) hj la lt lb hb x1 y1 r1' r2 x2 y2 x3 x4 y3 y4 h10 he
    have nums := ask_nums al t bl bh (n % 11) hj la lt lb hb r1' r2
    have l0 := lt_zero al la a1
    have l1 := gt_zero t lt rt
    refine holds_walk n al ah t bl bh p q (btwW al t p) (btwW bl bh q) (pointW (btwW al t p) (btwW bl bh q) false (n % 11)) (pointW (btwW al t p) (btwW bl bh q) true (n % 11)) (askI al t bl bh (n % 11)) _ _ _ _ _
      (hitN (((n : Int) % 11 == 6) && ltB al 0 && ltB 0 t || ((n : Int) % 11 == 9) && ltB al 0 && ltB 0 t) (fun i k => (pointE (pick2 al t i) (pick2 bl bh k) false (n % 11) == 0) && (FloatKind.f64.format.order (pointW (pick2 al t i) (pick2 bl bh k) false (n % 11)) (askI al t bl bh (n % 11)).lo == some Ordering.eq)))
      (hitN false (fun i k => (pointE (pick2 al t i) (pick2 bl bh k) true (n % 11) == 0) && (FloatKind.f64.format.order (pointW (pick2 al t i) (pick2 bl bh k) true (n % 11)) (askI al t bl bh (n % 11)).hi == some Ordering.eq)))
      (fun i k => pointW (pick2 al t i) (pick2 bl bh k) false (n % 11)) (fun i k => pointW (pick2 al t i) (pick2 bl bh k) true (n % 11)) (fun i k => pointE (pick2 al t i) (pick2 bl bh k) false (n % 11) == 0) (fun i k => pointE (pick2 al t i) (pick2 bl bh k) true (n % 11) == 0)
      w (Lib.hid cA) (Lib.hid cB) rfl rfl rfl (by omega) (by omega) (Lib.hid ht) l0 l1 (Lib.hid fun pb w hc hf => ?_) (Lib.hid ?_) (Lib.hid fun w => between_any al t p w la lt hp) (Lib.hid fun w => between_any bl bh q w lb hb hq)
      (Lib.hid fun he w => ?_) (Lib.hid fun he w => ?_) (Lib.hid fun he w => ?_) (Lib.hid fun he => ?_) (Lib.hid fun i k hi hk w => ?_) (Lib.hid fun i k hi hk w => ?_) (Lib.hid ⟨rfl, rfl⟩) (Lib.hid fun i k _ hk => ⟨hit_next _ _ _ _ hk, hit_next _ _ _ _ hk⟩) (Lib.hid fun he => ?_)
    · have := asked_any 0 n al t bl bh pb 0 w hn la lt lb hb hc hf
      rw [ask_ok _ _ _ _ _ hj r1' r2] at this
      exact this
    · have := ask_nil 0 al t bl bh (n % 11) hj
      rw [ask_ok _ _ _ _ _ hj r1' r2] at this
      exact this
    · obtain ⟨_, e1, _⟩ := hold he
      have c := point_any n (btwW al t p) (btwW bl bh q) false w hn x1 y1 x2 y2
      rw [e1] at c
      exact c
    · obtain ⟨_, _, e1, _⟩ := hold he
      have c := point_any n (btwW al t p) (btwW bl bh q) true w hn x1 y1 x2 y2
      rw [e1] at c
      exact c
    · obtain ⟨n1, n2, n3, n4⟩ := nums he
      have c := ivRight_any _ _ w n1 n3
      rw [(hold he).1] at c
      exact c
    · obtain ⟨i1, i2, i3, i4, i5⟩ := hold he
      obtain ⟨n1, n2, n3, n4⟩ := nums he
      obtain ⟨m1, m2⟩ := point_num (btwW al t p) (btwW bl bh q) (n % 11) false hj x1 y1 x2 y2 i2
      obtain ⟨m3, m4⟩ := point_num (btwW al t p) (btwW bl bh q) (n % 11) true hj x1 y1 x2 y2 i3
      refine ⟨?_, ?_⟩
      · rw [order_gt _ _ n1 m1 n2 m2]; exact decide_eq_false (by omega)
      · rw [order_lt _ _ n3 m3 n4 m4]; exact decide_eq_false (by omega)
    · obtain ⟨u1, u2⟩ := pick2_num (i := i) la lt a1 rt
      obtain ⟨v1, v2⟩ := pick2_num (i := k) lb hb b1 b2
      exact point_any n _ _ false w hn u1 v1 u2 v2
    · obtain ⟨u1, u2⟩ := pick2_num (i := i) la lt a1 rt
      obtain ⟨v1, v2⟩ := pick2_num (i := k) lb hb b1 b2
      exact point_any n _ _ true w hn u1 v1 u2 v2
    · obtain ⟨n1, n2, n3, n4⟩ := nums he
      obtain ⟨c1, c2⟩ := ask_ends al t bl bh (n % 11) hj la lt r1' he
      have o1 : ∀ r, r < 18446744073709551616 → rightB r = true → (FloatKind.f64.format.order r r == some Ordering.eq) = true := fun r h1 h2 => by rw [order_eq r r h1 h1 h2 h2]; exact decide_eq_true rfl
      refine ⟨hit_four _ _ ?_, hit_four _ _ (Or.inr (chosen_met c2 (o1 _ n3 n4)))⟩
      rcases c1 with ⟨hj', g1, g2⟩ | c1
      · left
        have e1 : ltB al 0 = true := by unfold ltB; rw [val_nil]; exact decide_eq_true g1
        have e2 : ltB 0 t = true := by unfold ltB; rw [val_nil]; exact decide_eq_true g2
        rw [e1, e2]
        rcases hj' with g | g
        · have : ((n : Int) % 11 == 6) = true := by rw [beq_iff_eq]; omega
          rw [this]; rfl
        · have : ((n : Int) % 11 == 9) = true := by rw [beq_iff_eq]; omega
          rw [this]; simp
      · exact Or.inr (chosen_met c1 (o1 _ n1 n2))

end Go.Proofs.Ytpgbcdplicodmaa

namespace Go.Proofs.Ytpgbcdplicodmaa
open Go.ChangeShapes Go.WideShapes Go.ChangeAt Go.RowKit Go.Joins

theorem Try.own : ownKnob Try.prog.godebug = none := by kernel_rfl
theorem Try.cellsIv : Try.prog.cellsOf 39 = 2 := by kernel_rfl

theorem trod_float {H : Type} {enc : TypeId × Value → H} {P : Program} {w : World} {base : Nat} {spare : Nat → Bool} {held : Bool} {fuel : Nat} {t : TypeId} {k : FloatKind} {v : Value} {x : DataW H × List MemPlace} (ht : P.underlying t = some (.float k)) (h : DataW.trod enc P w base spare held fuel t [v] = some x) :
    ∃ n, v = .float k n ∧ x = (.lit (.float k n), []) ∧ (Lit.float k n).wf = true := by
  cases fuel with
  | zero => simp [DataW.trod] at h
  | succ n =>
    unfold DataW.trod at h
    rw [ht] at h
    split at h <;> simp_all

set_option maxRecDepth 100000 in
theorem open_iv {H : Type} {enc : TypeId × Value → H} {W : World} {base : Nat} {spare : Nat → Bool} {held : Bool} {r : Reach} {b0 : Nat} {v : Value} {d : DataW H} {p : List MemPlace} (hv : Value.okWide Try.prog W r b0 39 v) (h : DataW.Trod enc Try.prog W base spare held 39 v d p) :
    ∃ lo hi, v = .agg #[.float .f64 lo, .float .f64 hi] ∧ d = .agg [.lit (.float .f64 lo), .lit (.float .f64 hi)] ∧ p = [] ∧ (Lit.float .f64 lo).wf = true ∧ (Lit.float .f64 hi).wf = true := by
  obtain ⟨c0, c1, y0, y1, m, rfl, rfl, rfl, hy0, hy1⟩ := open_agg2 Try.underlying39 (by kernel_rfl) Try.cellsIv hv h
  obtain ⟨lo, rfl, rfl, w0⟩ := trod_float Try.underlying22 hy0
  obtain ⟨hi, rfl, rfl, w1⟩ := trod_float Try.underlying22 hy1
  exact ⟨lo, hi, rfl, rfl, rfl, w0, w1⟩

set_option maxRecDepth 100000 in
theorem shut_iv {H : Type} {enc : TypeId × Value → H} {W : World} {base : Nat} {spare : Nat → Bool} {held : Bool} {lo hi : Nat} (w0 : (Lit.float .f64 lo).wf = true) (w1 : (Lit.float .f64 hi).wf = true) :
    DataW.Trod enc Try.prog W base spare held 39 (.agg #[.float .f64 lo, .float .f64 hi]) (.agg [.lit (.float .f64 lo), .lit (.float .f64 hi)]) [] :=
  shut_agg2 (y0 := (.lit (.float .f64 lo), [])) (y1 := (.lit (.float .f64 hi), [])) Try.underlying39 (by kernel_rfl) Try.cellsIv ⟨1, by simp [DataW.trod, Try.underlying22, w0]⟩ ⟨1, by simp [DataW.trod, Try.underlying22, w1]⟩

end Go.Proofs.Ytpgbcdplicodmaa

namespace Go.Proofs.Ytpgbcdplicodmaa
open Go.ChangeShapes Go.WideShapes Go.ChangeAt Go.RowKit Go.Joins Go.Deep

theorem Try.cellsOp : Try.prog.cellsOf 41 = 5 := by kernel_rfl
theorem Try.cellsU8 : Try.prog.cellsOf 5 = 1 := by kernel_rfl

theorem array5 {α : Type} {cs : Array α} (h : cs.size = 5) : ∃ c0 c1 c2 c3 c4, cs = #[c0, c1, c2, c3, c4] := by
  obtain ⟨l⟩ := cs
  match l, h with
  | [c0, c1, c2, c3, c4], _ => exact ⟨c0, c1, c2, c3, c4, rfl⟩

/-- The two cells of an interval. -/
theorem trod_iv {H : Type} {enc : TypeId × Value → H} {w : World} {base : Nat} {spare : Nat → Bool} {held : Bool} {fuel : Nat} {v0 v1 : Value} {x : DataW H × List MemPlace} (h : DataW.trod enc Try.prog w base spare held fuel 39 [v0, v1] = some x) :
    ∃ lo hi, v0 = .float .f64 lo ∧ v1 = .float .f64 hi ∧ x = (.agg [.lit (.float .f64 lo), .lit (.float .f64 hi)], []) ∧ (Lit.float .f64 lo).wf = true ∧ (Lit.float .f64 hi).wf = true := by
  obtain ⟨y0, y1, n, hx, _, h0, h1⟩ := trod_struct2 Try.underlying39 h
  have k : Try.prog.cellsOf 22 = 1 := by kernel_rfl
  have h0' : DataW.trod enc Try.prog w base spare held n 22 [v0] = some y0 := by rw [k] at h0; exact h0
  have h1' : DataW.trod enc Try.prog w base spare held n 22 [v1] = some y1 := by rw [k] at h1; exact h1
  obtain ⟨lo, rfl, rfl, w0⟩ := trod_float Try.underlying22 h0'
  obtain ⟨hi, rfl, rfl, w1⟩ := trod_float Try.underlying22 h1'
  exact ⟨lo, hi, rfl, rfl, hx, w0, w1⟩

set_option maxRecDepth 100000 in
/-- The five cells of an op. -/
theorem trod_op {H : Type} {enc : TypeId × Value → H} {w : World} {base : Nat} {spare : Nat → Bool} {held : Bool} {fuel : Nat} {v0 v1 v2 v3 v4 : Value} {x : DataW H × List MemPlace} (h : DataW.trod enc Try.prog w base spare held fuel 41 [v0, v1, v2, v3, v4] = some x) :
    ∃ n al ah bl bh, v0 = .int .u8 n ∧ v1 = .float .f64 al ∧ v2 = .float .f64 ah ∧ v3 = .float .f64 bl ∧ v4 = .float .f64 bh ∧
      x = (.agg [.lit (.int .u8 n), .agg [.lit (.float .f64 al), .lit (.float .f64 ah)], .agg [.lit (.float .f64 bl), .lit (.float .f64 bh)]], []) ∧ (Lit.int .u8 n).wf = true ∧
      (Lit.float .f64 al).wf = true ∧ (Lit.float .f64 ah).wf = true ∧ (Lit.float .f64 bl).wf = true ∧ (Lit.float .f64 bh).wf = true := by
  obtain ⟨y0, y1, y2, n, hx, _, h0, h1, h2⟩ := trod_struct3 Try.underlying41 h
  have h0' : DataW.trod enc Try.prog w base spare held n 5 [v0] = some y0 := by rw [Try.cellsU8] at h0; exact h0
  have h1' : DataW.trod enc Try.prog w base spare held n 39 [v1, v2] = some y1 := by rw [Try.cellsIv] at h1; exact h1
  have h2' : DataW.trod enc Try.prog w base spare held n 39 [v3, v4] = some y2 := by rw [Try.cellsIv] at h2; exact h2
  obtain ⟨m, e0, rfl, w0⟩ := DataW.trod_int Try.underlying5 h0'
  obtain ⟨al, ah, rfl, rfl, rfl, w1, w2⟩ := trod_iv h1'
  obtain ⟨bl, bh, rfl, rfl, rfl, w3, w4⟩ := trod_iv h2'
  have e0' : v0 = .int .u8 m := by simpa using e0
  exact ⟨m, al, ah, bl, bh, e0', rfl, rfl, rfl, rfl, hx, w0, w1, w2, w3, w4⟩

set_option maxRecDepth 100000 in
theorem open_op {H : Type} {enc : TypeId × Value → H} {W : World} {base : Nat} {spare : Nat → Bool} {held : Bool} {r : Reach} {b0 : Nat} {v : Value} {d : DataW H} {p : List MemPlace} (hv : Value.okWide Try.prog W r b0 41 v) (h : DataW.Trod enc Try.prog W base spare held 41 v d p) :
    ∃ n al ah bl bh, v = .agg #[.int .u8 n, .float .f64 al, .float .f64 ah, .float .f64 bl, .float .f64 bh] ∧
      d = .agg [.lit (.int .u8 n), .agg [.lit (.float .f64 al), .lit (.float .f64 ah)], .agg [.lit (.float .f64 bl), .lit (.float .f64 bh)]] ∧ p = [] ∧ (Lit.int .u8 n).wf = true ∧
      (Lit.float .f64 al).wf = true ∧ (Lit.float .f64 ah).wf = true ∧ (Lit.float .f64 bl).wf = true ∧ (Lit.float .f64 bh).wf = true := by
  obtain ⟨cs, rfl, hsz⟩ := okWide_struct Try.underlying41 hv
  obtain ⟨c0, c1, c2, c3, c4, rfl⟩ := array5 (hsz.trans Try.cellsOp)
  obtain ⟨fuel, hf⟩ := h
  have hf' : DataW.trod enc Try.prog W base spare held fuel 41 [c0, c1, c2, c3, c4] = some (d, p) := hf
  obtain ⟨n, al, ah, bl, bh, rfl, rfl, rfl, rfl, rfl, hx, w0, w1, w2, w3, w4⟩ := trod_op hf'
  simp only [Prod.mk.injEq] at hx
  exact ⟨n, al, ah, bl, bh, rfl, hx.1, hx.2, w0, w1, w2, w3, w4⟩

theorem trod_float_mk {H : Type} {enc : TypeId × Value → H} {P : Program} {w : World} {base : Nat} {spare : Nat → Bool} {held : Bool} {t : TypeId} {k : FloatKind} {n : Nat} (m : Nat) (ht : P.underlying t = some (.float k)) (hw : (Lit.float k n).wf = true) : DataW.trod enc P w base spare held (m + 1) t [.float k n] = some (.lit (.float k n), []) := by
  simp [DataW.trod, ht, hw]

set_option maxRecDepth 100000 in
theorem trod_iv_mk {H : Type} {enc : TypeId × Value → H} {w : World} {base : Nat} {spare : Nat → Bool} {held : Bool} {lo hi : Nat} (w0 : (Lit.float .f64 lo).wf = true) (w1 : (Lit.float .f64 hi).wf = true) :
    DataW.trod enc Try.prog w base spare held 2 39 [.float .f64 lo, .float .f64 hi] = some (.agg [.lit (.float .f64 lo), .lit (.float .f64 hi)], []) := by
  have k : Try.prog.cellsOf 22 = 1 := by kernel_rfl
  have h0 : DataW.trod enc Try.prog w base spare held 1 22 (([.float .f64 lo, .float .f64 hi].drop 0).take (Try.prog.cellsOf 22)) = some (.lit (.float .f64 lo), []) := by rw [k]; exact trod_float_mk 0 Try.underlying22 w0
  have h1 : DataW.trod enc Try.prog w base spare held 1 22 (([.float .f64 lo, .float .f64 hi].drop 1).take (Try.prog.cellsOf 22)) = some (.lit (.float .f64 hi), []) := by rw [k]; exact trod_float_mk 0 Try.underlying22 w1
  exact trod_struct2_mk Try.underlying39 (by rw [Try.cellsIv]; rfl) h0 h1

set_option maxRecDepth 100000 in
theorem shut_op {H : Type} {enc : TypeId × Value → H} {W : World} {base : Nat} {spare : Nat → Bool} {held : Bool} {n : Int} {al ah bl bh : Nat} (w0 : (Lit.int .u8 n).wf = true) (w1 : (Lit.float .f64 al).wf = true) (w2 : (Lit.float .f64 ah).wf = true) (w3 : (Lit.float .f64 bl).wf = true) (w4 : (Lit.float .f64 bh).wf = true) :
    DataW.Trod enc Try.prog W base spare held 41 (.agg #[.int .u8 n, .float .f64 al, .float .f64 ah, .float .f64 bl, .float .f64 bh]) (.agg [.lit (.int .u8 n), .agg [.lit (.float .f64 al), .lit (.float .f64 ah)], .agg [.lit (.float .f64 bl), .lit (.float .f64 bh)]]) [] := by
  have h0 : DataW.trod enc Try.prog W base spare held 2 5 (([.int .u8 n, .float .f64 al, .float .f64 ah, .float .f64 bl, .float .f64 bh].drop 0).take (Try.prog.cellsOf 5)) = some (.lit (.int .u8 n), []) := by rw [Try.cellsU8]; exact trod_int_mk 1 Try.underlying5 w0
  have h1 : DataW.trod enc Try.prog W base spare held 2 39 (([.int .u8 n, .float .f64 al, .float .f64 ah, .float .f64 bl, .float .f64 bh].drop 1).take (Try.prog.cellsOf 39)) = some (.agg [.lit (.float .f64 al), .lit (.float .f64 ah)], []) := by rw [Try.cellsIv]; exact trod_iv_mk w1 w2
  have h2 : DataW.trod enc Try.prog W base spare held 2 39 (([.int .u8 n, .float .f64 al, .float .f64 ah, .float .f64 bl, .float .f64 bh].drop 3).take (Try.prog.cellsOf 39)) = some (.agg [.lit (.float .f64 bl), .lit (.float .f64 bh)], []) := by rw [Try.cellsIv]; exact trod_iv_mk w3 w4
  exact ⟨3, trod_struct3_mk Try.underlying41 (by rw [Try.cellsOp]; rfl) h0 h1 h2⟩

end Go.Proofs.Ytpgbcdplicodmaa

namespace Go.Proofs.Ytpgbcdplicodmaa
open Go.ChangeShapes Go.WideShapes Go.ChangeAt Go.RowKit

theorem u16_in {y : Int} (wf : (Lit.int .u16 y).wf = true) : ∃ x : Nat, y = (x : Int) ∧ x < 65536 := by
  have h := wf
  simp [Lit.wf] at h
  have e1 : IntKind.u16.min = 0 := by decide
  have e2 : IntKind.u16.max = 65535 := by decide
  obtain ⟨x, rfl⟩ := Int.eq_ofNat_of_zero_le (by omega : 0 ≤ y)
  exact ⟨x, rfl, by omega⟩
theorem u8_in {y : Int} (wf : (Lit.int .u8 y).wf = true) : ∃ x : Nat, y = (x : Int) ∧ x < 256 := by
  have h := wf
  simp [Lit.wf] at h
  have e1 : IntKind.u8.min = 0 := by decide
  have e2 : IntKind.u8.max = 255 := by decide
  obtain ⟨x, rfl⟩ := Int.eq_ofNat_of_zero_le (by omega : 0 ≤ y)
  exact ⟨x, rfl, by omega⟩

set_option maxRecDepth 100000 in
theorem ivalHolds_lifted (os : Os) (started : os.Started) (H : Type) (enc : TypeId × Value → H) :
    ReturnsInHanded {} Try.checked os 5 .any (Rows.ivalHoldsSpec.pre6 enc Try.prog Try.f5 Rows.ivalHoldsRow.domain false) (Rows.ivalHoldsSpec.post enc Try.prog Try.f5 false true false false) := by
  refine returnsInHanded_of_change (C := Try.checked) Try.own started (by kernel_rfl) Try.func5
    (ChangeSpec.witness6 (enc := enc) (C := Try.checked) false ⟨#[], #[.agg #[.int .u8 0, .float .f64 0, .float .f64 0, .float .f64 0, .float .f64 0], .int .u16 0, .int .u16 0], []⟩ 8 (by kernel_rfl) (by kernel_rfl) (by kernel_rfl) (by kernel_rfl)) ?_
  intro W base args ds gs before hval0 hW hcnd _
  have hval : ∀ (j : Nat) t v, Try.f5.params[j]? = some t → args[j]? = some v → Value.okWide Try.prog W .any base t v := hval0
  have hW' := hW
  obtain ⟨p, q, hA0, hV, rfl, hfz, hnd⟩ := hW
  have hA : DataW.TrodAll enc Try.prog W 0 (fun _ => true) true Try.f5.params.toList args.toList ds p := hA0
  rw [Try.params5] at hA hval
  obtain ⟨v0, v1, v2, d0, d1, d2, p0, p1, p2, rfl, rfl, rfl, h0, h1, h2⟩ := trodAll_three hA
  obtain ⟨rfl, rfl⟩ := trodVars_none hV
  obtain ⟨n, al, ah, bl, bh, rfl, rfl, rfl, w0, wa, wb, wc, wd⟩ := open_op (hval 0 41 v0 rfl rfl) h0
  obtain ⟨y1, rfl, rfl, rfl, w1⟩ := open_int Try.underlying42 (hval 1 42 v1 rfl rfl) h1
  obtain ⟨y2, rfl, rfl, rfl, w2⟩ := open_int Try.underlying42 (hval 2 42 v2 rfl rfl) h2
  clear hA0 hval0
  simp only [List.append_nil] at hW'
  obtain ⟨x0, rfl, l0⟩ := u8_in w0
  obtain ⟨x1, rfl, l1⟩ := u16_in w1
  obtain ⟨x2, rfl, l2⟩ := u16_in w2
  have la : al < 18446744073709551616 := by simpa [Lit.wf] using wa
  have lb : ah < 18446744073709551616 := by simpa [Lit.wf] using wb
  have lc : bl < 18446744073709551616 := by simpa [Lit.wf] using wc
  have ld : bh < 18446744073709551616 := by simpa [Lit.wf] using wd
  refine (holds_any x0 al ah bl bh x1 x2 W l0 la lb lc ld l1 l2).mono fun e W' ⟨he, hw⟩ => ?_
  subst he
  refine ⟨_, rfl, _, _, _, [], [], [], hW', trodAll_mk1 (shut_bool Try.underlying4 _), trodAll_mk3 (shut_op w0 wa wb wc wd) (shut_int Try.underlying42 w1) (shut_int Try.underlying42 w2), rfl, hw.frame _, fun h => by cases h⟩

theorem ivalHolds_holds : Rows.IvalHoldsSaid :=
  OpenClaim.holds_of_wide 5 Try.f5 rfl rfl rfl rfl rfl rfl rfl ⟨rfl, rfl, rfl, rfl, rfl⟩ rfl rfl rfl rfl rfl (by kernel_rfl) Try.func5 (by kernel_rfl)
    (of_decide_eq_true (by kernel_rfl)) (by unfold Func.isWrapper; first | (rw [if_pos (by decide +kernel)]; kernel_rfl) | (rw [if_neg (by decide +kernel)]; exact ⟨rfl, rfl⟩))
    (fun os started H enc _ => ivalHolds_lifted os started H enc)

end Go.Proofs.Ytpgbcdplicodmaa
