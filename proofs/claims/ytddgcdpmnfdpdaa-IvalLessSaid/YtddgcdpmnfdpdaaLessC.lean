
/- The walk of the law IvalLess. -/
import Derived.Test.YtddgcdpmnfdpdaaLessB
namespace Go.Proofs.Ytddgcdpmnfdpdaa
open Go.RowKit
attribute [local go_sem] run_store_float

set_option maxRecDepth 100000 in
set_option maxHeartbeats 1000000 in
theorem less_bad (n al ah bl bh p q r s : Nat) (w : World) (la : al < 18446744073709551616) (ha : ah < 18446744073709551616) (lb : bl < 18446744073709551616) (hb : bh < 18446744073709551616) (h : (ivR al ah && ivR bl bh) = false) :
    Calls Try.prog 6 #[.agg #[.int .u8 n, .float .f64 al, .float .f64 ah, .float .f64 bl, .float .f64 bh], .int .u16 p, .int .u16 q, .int .u16 r, .int .u16 s] w fun r w' => r = .returned (.bool true) ∧ Below w.heap.size w w' := by
  have cA := Lib.hid (fun w => ivRight_any al ah w la ha)
  have cB := Lib.hid (fun w => ivRight_any bl bh w lb hb)
  have M := Lib.hid ((Mem.nil w).made #[.int .u8 n, .float .f64 al, .float .f64 ah, .float .f64 bl, .float .f64 bh] 41)
  clear la ha lb hb
  cases hr : ivR al ah
  · rw [hr] at cA
    clear h hr
    go_enter Try.func6, Try.ntmps6
    go_wp2_with fail
    refine (cA.out _).mono ?_
    rintro r w1 ⟨rfl, hb⟩
    replace M := Lib.hid (M.out.below hb)
    clear hb
    go_wp2_with fail
    refine (awake2_any _).mono ?_
    rintro r w2 ⟨rfl, hb⟩
    replace M := Lib.hid (M.out.below hb)
    clear hb
    go_wp2
    go_ret
    exact ⟨rfl, M.out.base⟩
  · rw [hr, Bool.true_and] at h
    rw [hr] at cA
    rw [h] at cB
    clear h hr
    go_enter Try.func6, Try.ntmps6
    go_wp2_with fail
    refine (cA.out _).mono ?_
    rintro r w1 ⟨rfl, hb⟩
    replace M := Lib.hid (M.out.below hb)
    have c1 := (M.out.nth 0 rfl).2.1
    clear hb
    go_wp2_with fail
    refine (cB.out _).mono ?_
    rintro r w2 ⟨rfl, hb⟩
    replace M := Lib.hid (M.out.below hb)
    clear hb c1
    go_wp2_with fail
    refine (awake2_any _).mono ?_
    rintro r w3 ⟨rfl, hb⟩
    replace M := Lib.hid (M.out.below hb)
    clear hb
    go_wp2
    go_ret
    exact ⟨rfl, M.out.base⟩

/-- Behind what turns Num's op. -/
def LessA (w : World) (n al ah bl bh : Nat) (wx : World) : Prop := Mem w [(w.heap.size, #[.int .u8 n, .float .f64 al, .float .f64 ah, .float .f64 bl, .float .f64 bh])] wx
/-- Behind the lesser op. -/
def LessB (w : World) (n al ah bl bh xl xh yl yh : Nat) (p : Value) (wx : World) : Prop :=
  ∃ b, p = .pointer (some ⟨b, 0, none⟩) ∧ Mem w [(w.heap.size, #[.int .u8 n, .float .f64 al, .float .f64 ah, .float .f64 bl, .float .f64 bh]), (b, #[.int .u8 n, .float .f64 xl, .float .f64 xh, .float .f64 yl, .float .f64 yh])] wx ∧ w.heap.size ≠ b ∧ w.heap.size ≤ b
set_option maxRecDepth 100000 in
set_option maxHeartbeats 8000000 in
theorem less_walk (n al ah h bl bh p q r s xl xh yl yh : Nat) (R S : Res) (ten : Bool) (w : World)
    (cA : Hid (∀ w, Calls Try.prog 36 #[.agg #[.float .f64 al, .float .f64 ah]] w fun r w' => r = .returned (.bool true) ∧ Below w.heap.size w w'))
    (cB : Hid (∀ w, Calls Try.prog 36 #[.agg #[.float .f64 bl, .float .f64 bh]] w fun r w' => r = .returned (.bool true) ∧ Below w.heap.size w w'))
    (ht : ((n : Int) % 11 == 10) = ten) (g0 : (0 : Int) ≤ n) (g1 : (n : Int) ≤ 255) (hh : Hid (h = if ten then al else ah))
    (cX : Hid (∀ w, Calls Try.prog 43 #[.agg #[.float .f64 al, .float .f64 h], .int .u16 p, .int .u16 q] w fun r w' => r = .returned (.agg #[.float .f64 xl, .float .f64 xh]) ∧ Below w.heap.size w w'))
    (cY : Hid (∀ w, Calls Try.prog 43 #[.agg #[.float .f64 bl, .float .f64 bh], .int .u16 r, .int .u16 s] w fun r w' => r = .returned (.agg #[.float .f64 yl, .float .f64 yh]) ∧ Below w.heap.size w w'))
    (cR : Hid (∀ pb w, w.cell? ⟨pb, 0, none⟩ = some (.int .i64 0) → w.frozen? ⟨pb, 0, none⟩ = false → Calls Try.prog 38 #[.agg #[.int .u8 n, .float .f64 al, .float .f64 h, .float .f64 bl, .float .f64 bh], .pointer (some ⟨pb, 0, none⟩)] w (Told R pb 0 w)))
    (cS : Hid (∀ pb w, w.cell? ⟨pb, 0, none⟩ = some (.int .i64 0) → w.frozen? ⟨pb, 0, none⟩ = false → Calls Try.prog 38 #[.agg #[.int .u8 n, .float .f64 xl, .float .f64 xh, .float .f64 yl, .float .f64 yh], .pointer (some ⟨pb, 0, none⟩)] w (Told S pb 0 w)))
    (hW : Hid (R.e = 0 → S.e = 0 ∧ ((FloatKind.f64.format.order R.lo S.lo == some Ordering.lt) || (FloatKind.f64.format.order R.lo S.lo == some Ordering.eq)) = true ∧ ((FloatKind.f64.format.order S.hi R.hi == some Ordering.lt) || (FloatKind.f64.format.order S.hi R.hi == some Ordering.eq)) = true)) :
    Calls Try.prog 6 #[.agg #[.int .u8 n, .float .f64 al, .float .f64 ah, .float .f64 bl, .float .f64 bh], .int .u16 p, .int .u16 q, .int .u16 r, .int .u16 s] w fun r w' => r = .returned (.bool true) ∧ Below w.heap.size w w' := by
  have M := Lib.hid ((Mem.nil w).made #[.int .u8 n, .float .f64 al, .float .f64 ah, .float .f64 bl, .float .f64 bh] 41)
  go_enter Try.func6, Try.ntmps6
  go_wp2_with fail
  refine (cA.out _).mono ?_
  rintro r w1 ⟨rfl, hb⟩
  replace M := Lib.hid (M.out.below hb)
  have c1 := (M.out.nth 0 rfl).2.1
  clear hb
  go_wp2_with fail
  refine (cB.out _).mono ?_
  rintro r w2 ⟨rfl, hb⟩
  replace M := Lib.hid (M.out.below hb)
  clear hb c1
  have c1 := (M.out.nth 0 rfl).2.1
  have f1 := (M.out.nth 0 rfl).2.2
  go_upto_if 31 with (fail)
  go_cut [] (LessA w n al h bl bh)
  case first =>
    cases ten
    · have e : h = ah := hh.out
      subst e
      go_wp2_with fail
      go_meet
      exact M.out
    · have e : h = al := hh.out
      subst e
      go_wp2_with fail
      go_meet
      exact M.out.setIn (M.out.nth 0 rfl) (Nat.le_refl _) _ (by simp)
  case rest =>
    obtain ⟨w3, rfl⟩ : ∃ x : World, x = wc := ⟨_, rfl⟩
    have M' := hcut
    unfold LessA at M'
    replace M := Lib.hid M'
    clear M' hcut c1 f1 cA cB hh ht
    go_upto_region 6 with fail
    obtain ⟨k0, k1, k2, k3, k4⟩ := (M.out.drew.blocks (w.heap.size, #[.int .u8 n, .float .f64 al, .float .f64 h, .float .f64 bl, .float .f64 bh]) (by simp)).five
    go_cut [12] (LessB w n al h bl bh xl xh yl yh)
    case first =>
      have zc := (M.out.nth 0 rfl).2.1
      have zf := (M.out.nth 0 rfl).2.2
      have zn : w.heap.size < w3.heap.size := (M.out.blocks (w.heap.size, #[.int .u8 n, .float .f64 al, .float .f64 h, .float .f64 bl, .float .f64 bh]) (by simp)).1
      go_region_held3 (fun w' => w'.cell? ⟨w.heap.size, 0, none⟩ = some (.int .u8 n) ∧ w'.cell? ⟨w.heap.size, 1, none⟩ = some (.float .f64 al) ∧ w'.cell? ⟨w.heap.size, 2, none⟩ = some (.float .f64 h) ∧ w'.cell? ⟨w.heap.size, 3, none⟩ = some (.float .f64 bl) ∧ w'.cell? ⟨w.heap.size, 4, none⟩ = some (.float .f64 bh)) (first | (with_reducible exact keepD k0 k1 k2 k3 k4) | (with_reducible exact keepA k0 k1 k2 k3 k4) | (with_reducible exact keepS za k0 k1 k2 k3 k4) | go_keep)
        (first
          | (go_at_call 43; (with_reducible refine (cX.out _).mono ?_); rintro rr w5 ⟨rfl, hb⟩; (first | (with_reducible have M' := Lib.hid (M.out.below hb)) | (with_reducible have M' := Lib.hid (M.out.drew.below hb)) | ((with_reducible have M' := Lib.hid ((M.out.made _ _).below hb)); have za := Nat.ne_of_gt zn; have zb := zn) | ((with_reducible have M' := Lib.hid ((M.out.made _ _).drew.below hb)); have za := Nat.ne_of_gt zn; have zb := zn)); clear M hb zc zf zn; have M := M'; clear M'; have zc := (M.out.nth 0 rfl).2.1; have zf := (M.out.nth 0 rfl).2.2; have zn := (M.out.blocks (w.heap.size, #[.int .u8 n, .float .f64 al, .float .f64 h, .float .f64 bl, .float .f64 bh]) (by simp)).1; clear k0 k1 k2 k3 k4; obtain ⟨k0, k1, k2, k3, k4⟩ := (M.out.blocks (w.heap.size, #[.int .u8 n, .float .f64 al, .float .f64 h, .float .f64 bl, .float .f64 bh]) (by simp)).five)
          | (go_at_call 43; (with_reducible refine (cY.out _).mono ?_); rintro rr w5 ⟨rfl, hb⟩; (first | (with_reducible have M' := Lib.hid (M.out.below hb)) | (with_reducible have M' := Lib.hid (M.out.drew.below hb)) | ((with_reducible have M' := Lib.hid ((M.out.made _ _).below hb)); have za := Nat.ne_of_gt zn; have zb := zn) | ((with_reducible have M' := Lib.hid ((M.out.made _ _).drew.below hb)); have za := Nat.ne_of_gt zn; have zb := zn)); clear M hb zc zf zn; have M := M'; clear M'; have zc := (M.out.nth 0 rfl).2.1; have zf := (M.out.nth 0 rfl).2.2; have zn := (M.out.blocks (w.heap.size, #[.int .u8 n, .float .f64 al, .float .f64 h, .float .f64 bl, .float .f64 bh]) (by simp)).1; clear k0 k1 k2 k3 k4; obtain ⟨k0, k1, k2, k3, k4⟩ := (M.out.blocks (w.heap.size, #[.int .u8 n, .float .f64 al, .float .f64 h, .float .f64 bl, .float .f64 bh]) (by simp)).five))
      all_goals (go_wp2_with fail; go_meet)
      all_goals first | exact ⟨_, rfl, (M.out.made _ _).sub (by simp), Nat.ne_of_lt zn, Nat.le_of_lt zn⟩ | exact ⟨_, rfl, M.out.five5 (M.out.nth 0 rfl) (Nat.le_of_lt zb) _ (by simp [za]), Nat.ne_of_lt zb, Nat.le_of_lt zb⟩
    case rest =>
      obtain ⟨w4, rfl⟩ : ∃ x : World, x = wc := ⟨_, rfl⟩
      obtain ⟨b, rfl, hM, hne, hle⟩ := hcut
      clear k0 k1 k2 k3 k4 M
      have M := Lib.hid (St.start hM (by simp [hne]) (by simp [hle]) 45 45)
      clear hM cX cY
      have e1 : (w4.alloc (.cells #[.int .i64 0] 45)).heap.size = w4.heap.size + 1 := by simp
      go_upto_region 8 with fail
      clear e1
      obtain ⟨k0, k1, k2, k3, k4⟩ := ((M.out.drew).mem.blocks (w.heap.size, #[.int .u8 n, .float .f64 al, .float .f64 h, .float .f64 bl, .float .f64 bh]) (by simp)).five
      obtain ⟨m0, m1, m2, m3, m4⟩ := ((M.out.drew).mem.blocks (b, #[.int .u8 n, .float .f64 xl, .float .f64 xh, .float .f64 yl, .float .f64 yh]) (by simp)).five
      have zc := ((M.out.drew).mem.nth 0 rfl).2.1
      have zf := ((M.out.drew).mem.nth 0 rfl).2.2
      have zd := ((M.out.drew).mem.nth 1 rfl).2.1
      have zg := ((M.out.drew).mem.nth 1 rfl).2.2
      have y0 := ((M.out.drew).mem.nth 0 rfl).1
      have y1 := ((M.out.drew).mem.nth 1 rfl).1
      have y2 := (M.out.drew).two.1
      have y3 := (M.out.drew).two.2
      have zn := ((M.out.drew).mem.blocks (w.heap.size, #[.int .u8 n, .float .f64 al, .float .f64 h, .float .f64 bl, .float .f64 bh]) (by simp)).1
      have zm := ((M.out.drew).mem.blocks (b, #[.int .u8 n, .float .f64 xl, .float .f64 xh, .float .f64 yl, .float .f64 yh]) (by simp)).1
      go_cut [15, 16] (LessC w w4.heap.size (w4.heap.size + 1) R.e S.e R.lo R.hi S.lo S.hi)
      case first =>
        go_region_held3 (fun w' => w'.cell? ⟨w.heap.size, 0, none⟩ = some (.int .u8 n) ∧ w'.cell? ⟨w.heap.size, 1, none⟩ = some (.float .f64 al) ∧ w'.cell? ⟨w.heap.size, 2, none⟩ = some (.float .f64 h) ∧ w'.cell? ⟨w.heap.size, 3, none⟩ = some (.float .f64 bl) ∧ w'.cell? ⟨w.heap.size, 4, none⟩ = some (.float .f64 bh) ∧ w'.cell? ⟨b, 0, none⟩ = some (.int .u8 n) ∧ w'.cell? ⟨b, 1, none⟩ = some (.float .f64 xl) ∧ w'.cell? ⟨b, 2, none⟩ = some (.float .f64 xh) ∧ w'.cell? ⟨b, 3, none⟩ = some (.float .f64 yl) ∧ w'.cell? ⟨b, 4, none⟩ = some (.float .f64 yh)) (((try dsimp only); (repeat' apply And.intro); all_goals (repeat (first | (with_reducible assumption) | ((with_reducible refine keep_undrew ?_); (with_reducible assumption)) | (with_reducible refine keep_drew ?_) | (with_reducible refine keep_alloc _ ?_) | (with_reducible refine keep_set _ (by first | (with_reducible assumption) | omega) ?_)))))
          (first
          | (go_at_call 38; (with_reducible refine (cR.out _ _ (M.out).hc.pc (M.out).hc.pf).mono ?_); rintro rr w7 hT; obtain ⟨rfl, hp⟩ := hT.open; have M' := Lib.hid ((M.out).putc hp); clear M hp hT k0 k1 k2 k3 k4 m0 m1 m2 m3 m4 zc zf zd zg y0 y1 y2 y3 zn zm; have M := M'; clear M'; obtain ⟨k0, k1, k2, k3, k4⟩ := ((M.out).mem.blocks (w.heap.size, #[.int .u8 n, .float .f64 al, .float .f64 h, .float .f64 bl, .float .f64 bh]) (by simp)).five; obtain ⟨m0, m1, m2, m3, m4⟩ := ((M.out).mem.blocks (b, #[.int .u8 n, .float .f64 xl, .float .f64 xh, .float .f64 yl, .float .f64 yh]) (by simp)).five; have zc := ((M.out).mem.nth 0 rfl).2.1; have zf := ((M.out).mem.nth 0 rfl).2.2; have zd := ((M.out).mem.nth 1 rfl).2.1; have zg := ((M.out).mem.nth 1 rfl).2.2; have y0 := ((M.out).mem.nth 0 rfl).1; have y1 := ((M.out).mem.nth 1 rfl).1; have y2 := (M.out).two.1; have y3 := (M.out).two.2; have zn := ((M.out).mem.blocks (w.heap.size, #[.int .u8 n, .float .f64 al, .float .f64 h, .float .f64 bl, .float .f64 bh]) (by simp)).1; have zm := ((M.out).mem.blocks (b, #[.int .u8 n, .float .f64 xl, .float .f64 xh, .float .f64 yl, .float .f64 yh]) (by simp)).1)
          | (go_at_call 38; (with_reducible refine (cR.out _ _ (M.out.drew).hc.pc (M.out.drew).hc.pf).mono ?_); rintro rr w7 hT; obtain ⟨rfl, hp⟩ := hT.open; have M' := Lib.hid ((M.out.drew).putc hp); clear M hp hT k0 k1 k2 k3 k4 m0 m1 m2 m3 m4 zc zf zd zg y0 y1 y2 y3 zn zm; have M := M'; clear M'; obtain ⟨k0, k1, k2, k3, k4⟩ := ((M.out).mem.blocks (w.heap.size, #[.int .u8 n, .float .f64 al, .float .f64 h, .float .f64 bl, .float .f64 bh]) (by simp)).five; obtain ⟨m0, m1, m2, m3, m4⟩ := ((M.out).mem.blocks (b, #[.int .u8 n, .float .f64 xl, .float .f64 xh, .float .f64 yl, .float .f64 yh]) (by simp)).five; have zc := ((M.out).mem.nth 0 rfl).2.1; have zf := ((M.out).mem.nth 0 rfl).2.2; have zd := ((M.out).mem.nth 1 rfl).2.1; have zg := ((M.out).mem.nth 1 rfl).2.2; have y0 := ((M.out).mem.nth 0 rfl).1; have y1 := ((M.out).mem.nth 1 rfl).1; have y2 := (M.out).two.1; have y3 := (M.out).two.2; have zn := ((M.out).mem.blocks (w.heap.size, #[.int .u8 n, .float .f64 al, .float .f64 h, .float .f64 bl, .float .f64 bh]) (by simp)).1; have zm := ((M.out).mem.blocks (b, #[.int .u8 n, .float .f64 xl, .float .f64 xh, .float .f64 yl, .float .f64 yh]) (by simp)).1)
          | (go_at_call 38; (with_reducible refine (cR.out _ _ ((M.out.made _ _)).hc.pc ((M.out.made _ _)).hc.pf).mono ?_); rintro rr w7 hT; obtain ⟨rfl, hp⟩ := hT.open; have M' := Lib.hid (((M.out.made _ _)).putc hp); have zp := zn; have zq := zm; (try simp only [World.size_alloc] at M' zp zq); clear M hp hT k0 k1 k2 k3 k4 m0 m1 m2 m3 m4 zc zf zd zg y0 y1 y2 y3 zn zm; have M := M'; clear M'; obtain ⟨k0, k1, k2, k3, k4⟩ := ((M.out).mem.blocks (w.heap.size, #[.int .u8 n, .float .f64 al, .float .f64 h, .float .f64 bl, .float .f64 bh]) (by simp)).five; obtain ⟨m0, m1, m2, m3, m4⟩ := ((M.out).mem.blocks (b, #[.int .u8 n, .float .f64 xl, .float .f64 xh, .float .f64 yl, .float .f64 yh]) (by simp)).five; have zc := ((M.out).mem.nth 0 rfl).2.1; have zf := ((M.out).mem.nth 0 rfl).2.2; have zd := ((M.out).mem.nth 1 rfl).2.1; have zg := ((M.out).mem.nth 1 rfl).2.2; have y0 := ((M.out).mem.nth 0 rfl).1; have y1 := ((M.out).mem.nth 1 rfl).1; have y2 := (M.out).two.1; have y3 := (M.out).two.2; have zn := ((M.out).mem.blocks (w.heap.size, #[.int .u8 n, .float .f64 al, .float .f64 h, .float .f64 bl, .float .f64 bh]) (by simp)).1; have zm := ((M.out).mem.blocks (b, #[.int .u8 n, .float .f64 xl, .float .f64 xh, .float .f64 yl, .float .f64 yh]) (by simp)).1)
          | (go_at_call 38; (with_reducible refine (cR.out _ _ ((M.out.made _ _).drew).hc.pc ((M.out.made _ _).drew).hc.pf).mono ?_); rintro rr w7 hT; obtain ⟨rfl, hp⟩ := hT.open; have M' := Lib.hid (((M.out.made _ _).drew).putc hp); have zp := zn; have zq := zm; (try simp only [World.size_alloc, World.size_drew] at M' zp zq); clear M hp hT k0 k1 k2 k3 k4 m0 m1 m2 m3 m4 zc zf zd zg y0 y1 y2 y3 zn zm; have M := M'; clear M'; obtain ⟨k0, k1, k2, k3, k4⟩ := ((M.out).mem.blocks (w.heap.size, #[.int .u8 n, .float .f64 al, .float .f64 h, .float .f64 bl, .float .f64 bh]) (by simp)).five; obtain ⟨m0, m1, m2, m3, m4⟩ := ((M.out).mem.blocks (b, #[.int .u8 n, .float .f64 xl, .float .f64 xh, .float .f64 yl, .float .f64 yh]) (by simp)).five; have zc := ((M.out).mem.nth 0 rfl).2.1; have zf := ((M.out).mem.nth 0 rfl).2.2; have zd := ((M.out).mem.nth 1 rfl).2.1; have zg := ((M.out).mem.nth 1 rfl).2.2; have y0 := ((M.out).mem.nth 0 rfl).1; have y1 := ((M.out).mem.nth 1 rfl).1; have y2 := (M.out).two.1; have y3 := (M.out).two.2; have zn := ((M.out).mem.blocks (w.heap.size, #[.int .u8 n, .float .f64 al, .float .f64 h, .float .f64 bl, .float .f64 bh]) (by simp)).1; have zm := ((M.out).mem.blocks (b, #[.int .u8 n, .float .f64 xl, .float .f64 xh, .float .f64 yl, .float .f64 yh]) (by simp)).1)
          | (go_at_call 38; (with_reducible refine (cR.out _ _ (((M.out.made _ _).made _ _)).hc.pc (((M.out.made _ _).made _ _)).hc.pf).mono ?_); rintro rr w7 hT; obtain ⟨rfl, hp⟩ := hT.open; have M' := Lib.hid ((((M.out.made _ _).made _ _)).putc hp); have zp := zn; have zq := zm; (try simp only [World.size_alloc] at M' zp zq); clear M hp hT k0 k1 k2 k3 k4 m0 m1 m2 m3 m4 zc zf zd zg y0 y1 y2 y3 zn zm; have M := M'; clear M'; obtain ⟨k0, k1, k2, k3, k4⟩ := ((M.out).mem.blocks (w.heap.size, #[.int .u8 n, .float .f64 al, .float .f64 h, .float .f64 bl, .float .f64 bh]) (by simp)).five; obtain ⟨m0, m1, m2, m3, m4⟩ := ((M.out).mem.blocks (b, #[.int .u8 n, .float .f64 xl, .float .f64 xh, .float .f64 yl, .float .f64 yh]) (by simp)).five; have zc := ((M.out).mem.nth 0 rfl).2.1; have zf := ((M.out).mem.nth 0 rfl).2.2; have zd := ((M.out).mem.nth 1 rfl).2.1; have zg := ((M.out).mem.nth 1 rfl).2.2; have y0 := ((M.out).mem.nth 0 rfl).1; have y1 := ((M.out).mem.nth 1 rfl).1; have y2 := (M.out).two.1; have y3 := (M.out).two.2; have zn := ((M.out).mem.blocks (w.heap.size, #[.int .u8 n, .float .f64 al, .float .f64 h, .float .f64 bl, .float .f64 bh]) (by simp)).1; have zm := ((M.out).mem.blocks (b, #[.int .u8 n, .float .f64 xl, .float .f64 xh, .float .f64 yl, .float .f64 yh]) (by simp)).1)
          | (go_at_call 38; (with_reducible refine (cR.out _ _ (((M.out.made _ _).made _ _).drew).hc.pc (((M.out.made _ _).made _ _).drew).hc.pf).mono ?_); rintro rr w7 hT; obtain ⟨rfl, hp⟩ := hT.open; have M' := Lib.hid ((((M.out.made _ _).made _ _).drew).putc hp); have zp := zn; have zq := zm; (try simp only [World.size_alloc, World.size_drew] at M' zp zq); clear M hp hT k0 k1 k2 k3 k4 m0 m1 m2 m3 m4 zc zf zd zg y0 y1 y2 y3 zn zm; have M := M'; clear M'; obtain ⟨k0, k1, k2, k3, k4⟩ := ((M.out).mem.blocks (w.heap.size, #[.int .u8 n, .float .f64 al, .float .f64 h, .float .f64 bl, .float .f64 bh]) (by simp)).five; obtain ⟨m0, m1, m2, m3, m4⟩ := ((M.out).mem.blocks (b, #[.int .u8 n, .float .f64 xl, .float .f64 xh, .float .f64 yl, .float .f64 yh]) (by simp)).five; have zc := ((M.out).mem.nth 0 rfl).2.1; have zf := ((M.out).mem.nth 0 rfl).2.2; have zd := ((M.out).mem.nth 1 rfl).2.1; have zg := ((M.out).mem.nth 1 rfl).2.2; have y0 := ((M.out).mem.nth 0 rfl).1; have y1 := ((M.out).mem.nth 1 rfl).1; have y2 := (M.out).two.1; have y3 := (M.out).two.2; have zn := ((M.out).mem.blocks (w.heap.size, #[.int .u8 n, .float .f64 al, .float .f64 h, .float .f64 bl, .float .f64 bh]) (by simp)).1; have zm := ((M.out).mem.blocks (b, #[.int .u8 n, .float .f64 xl, .float .f64 xh, .float .f64 yl, .float .f64 yh]) (by simp)).1)
          | (go_at_call 38; (with_reducible refine (cS.out _ _ (M.out).hd.pc (M.out).hd.pf).mono ?_); rintro rr w7 hT; obtain ⟨rfl, hp⟩ := hT.open; have M' := Lib.hid ((M.out).putd hp); clear M hp hT k0 k1 k2 k3 k4 m0 m1 m2 m3 m4 zc zf zd zg y0 y1 y2 y3 zn zm; have M := M'; clear M'; obtain ⟨k0, k1, k2, k3, k4⟩ := ((M.out).mem.blocks (w.heap.size, #[.int .u8 n, .float .f64 al, .float .f64 h, .float .f64 bl, .float .f64 bh]) (by simp)).five; obtain ⟨m0, m1, m2, m3, m4⟩ := ((M.out).mem.blocks (b, #[.int .u8 n, .float .f64 xl, .float .f64 xh, .float .f64 yl, .float .f64 yh]) (by simp)).five; have zc := ((M.out).mem.nth 0 rfl).2.1; have zf := ((M.out).mem.nth 0 rfl).2.2; have zd := ((M.out).mem.nth 1 rfl).2.1; have zg := ((M.out).mem.nth 1 rfl).2.2; have y0 := ((M.out).mem.nth 0 rfl).1; have y1 := ((M.out).mem.nth 1 rfl).1; have y2 := (M.out).two.1; have y3 := (M.out).two.2; have zn := ((M.out).mem.blocks (w.heap.size, #[.int .u8 n, .float .f64 al, .float .f64 h, .float .f64 bl, .float .f64 bh]) (by simp)).1; have zm := ((M.out).mem.blocks (b, #[.int .u8 n, .float .f64 xl, .float .f64 xh, .float .f64 yl, .float .f64 yh]) (by simp)).1)
          | (go_at_call 38; (with_reducible refine (cS.out _ _ (M.out.drew).hd.pc (M.out.drew).hd.pf).mono ?_); rintro rr w7 hT; obtain ⟨rfl, hp⟩ := hT.open; have M' := Lib.hid ((M.out.drew).putd hp); clear M hp hT k0 k1 k2 k3 k4 m0 m1 m2 m3 m4 zc zf zd zg y0 y1 y2 y3 zn zm; have M := M'; clear M'; obtain ⟨k0, k1, k2, k3, k4⟩ := ((M.out).mem.blocks (w.heap.size, #[.int .u8 n, .float .f64 al, .float .f64 h, .float .f64 bl, .float .f64 bh]) (by simp)).five; obtain ⟨m0, m1, m2, m3, m4⟩ := ((M.out).mem.blocks (b, #[.int .u8 n, .float .f64 xl, .float .f64 xh, .float .f64 yl, .float .f64 yh]) (by simp)).five; have zc := ((M.out).mem.nth 0 rfl).2.1; have zf := ((M.out).mem.nth 0 rfl).2.2; have zd := ((M.out).mem.nth 1 rfl).2.1; have zg := ((M.out).mem.nth 1 rfl).2.2; have y0 := ((M.out).mem.nth 0 rfl).1; have y1 := ((M.out).mem.nth 1 rfl).1; have y2 := (M.out).two.1; have y3 := (M.out).two.2; have zn := ((M.out).mem.blocks (w.heap.size, #[.int .u8 n, .float .f64 al, .float .f64 h, .float .f64 bl, .float .f64 bh]) (by simp)).1; have zm := ((M.out).mem.blocks (b, #[.int .u8 n, .float .f64 xl, .float .f64 xh, .float .f64 yl, .float .f64 yh]) (by simp)).1)
          | (go_at_call 38; (with_reducible refine (cS.out _ _ ((M.out.made _ _)).hd.pc ((M.out.made _ _)).hd.pf).mono ?_); rintro rr w7 hT; obtain ⟨rfl, hp⟩ := hT.open; have M' := Lib.hid (((M.out.made _ _)).putd hp); have zp := zn; have zq := zm; (try simp only [World.size_alloc] at M' zp zq); clear M hp hT k0 k1 k2 k3 k4 m0 m1 m2 m3 m4 zc zf zd zg y0 y1 y2 y3 zn zm; have M := M'; clear M'; obtain ⟨k0, k1, k2, k3, k4⟩ := ((M.out).mem.blocks (w.heap.size, #[.int .u8 n, .float .f64 al, .float .f64 h, .float .f64 bl, .float .f64 bh]) (by simp)).five; obtain ⟨m0, m1, m2, m3, m4⟩ := ((M.out).mem.blocks (b, #[.int .u8 n, .float .f64 xl, .float .f64 xh, .float .f64 yl, .float .f64 yh]) (by simp)).five; have zc := ((M.out).mem.nth 0 rfl).2.1; have zf := ((M.out).mem.nth 0 rfl).2.2; have zd := ((M.out).mem.nth 1 rfl).2.1; have zg := ((M.out).mem.nth 1 rfl).2.2; have y0 := ((M.out).mem.nth 0 rfl).1; have y1 := ((M.out).mem.nth 1 rfl).1; have y2 := (M.out).two.1; have y3 := (M.out).two.2; have zn := ((M.out).mem.blocks (w.heap.size, #[.int .u8 n, .float .f64 al, .float .f64 h, .float .f64 bl, .float .f64 bh]) (by simp)).1; have zm := ((M.out).mem.blocks (b, #[.int .u8 n, .float .f64 xl, .float .f64 xh, .float .f64 yl, .float .f64 yh]) (by simp)).1)
          | (go_at_call 38; (with_reducible refine (cS.out _ _ ((M.out.made _ _).drew).hd.pc ((M.out.made _ _).drew).hd.pf).mono ?_); rintro rr w7 hT; obtain ⟨rfl, hp⟩ := hT.open; have M' := Lib.hid (((M.out.made _ _).drew).putd hp); have zp := zn; have zq := zm; (try simp only [World.size_alloc, World.size_drew] at M' zp zq); clear M hp hT k0 k1 k2 k3 k4 m0 m1 m2 m3 m4 zc zf zd zg y0 y1 y2 y3 zn zm; have M := M'; clear M'; obtain ⟨k0, k1, k2, k3, k4⟩ := ((M.out).mem.blocks (w.heap.size, #[.int .u8 n, .float .f64 al, .float .f64 h, .float .f64 bl, .float .f64 bh]) (by simp)).five; obtain ⟨m0, m1, m2, m3, m4⟩ := ((M.out).mem.blocks (b, #[.int .u8 n, .float .f64 xl, .float .f64 xh, .float .f64 yl, .float .f64 yh]) (by simp)).five; have zc := ((M.out).mem.nth 0 rfl).2.1; have zf := ((M.out).mem.nth 0 rfl).2.2; have zd := ((M.out).mem.nth 1 rfl).2.1; have zg := ((M.out).mem.nth 1 rfl).2.2; have y0 := ((M.out).mem.nth 0 rfl).1; have y1 := ((M.out).mem.nth 1 rfl).1; have y2 := (M.out).two.1; have y3 := (M.out).two.2; have zn := ((M.out).mem.blocks (w.heap.size, #[.int .u8 n, .float .f64 al, .float .f64 h, .float .f64 bl, .float .f64 bh]) (by simp)).1; have zm := ((M.out).mem.blocks (b, #[.int .u8 n, .float .f64 xl, .float .f64 xh, .float .f64 yl, .float .f64 yh]) (by simp)).1)
          | (go_at_call 38; (with_reducible refine (cS.out _ _ (((M.out.made _ _).made _ _)).hd.pc (((M.out.made _ _).made _ _)).hd.pf).mono ?_); rintro rr w7 hT; obtain ⟨rfl, hp⟩ := hT.open; have M' := Lib.hid ((((M.out.made _ _).made _ _)).putd hp); have zp := zn; have zq := zm; (try simp only [World.size_alloc] at M' zp zq); clear M hp hT k0 k1 k2 k3 k4 m0 m1 m2 m3 m4 zc zf zd zg y0 y1 y2 y3 zn zm; have M := M'; clear M'; obtain ⟨k0, k1, k2, k3, k4⟩ := ((M.out).mem.blocks (w.heap.size, #[.int .u8 n, .float .f64 al, .float .f64 h, .float .f64 bl, .float .f64 bh]) (by simp)).five; obtain ⟨m0, m1, m2, m3, m4⟩ := ((M.out).mem.blocks (b, #[.int .u8 n, .float .f64 xl, .float .f64 xh, .float .f64 yl, .float .f64 yh]) (by simp)).five; have zc := ((M.out).mem.nth 0 rfl).2.1; have zf := ((M.out).mem.nth 0 rfl).2.2; have zd := ((M.out).mem.nth 1 rfl).2.1; have zg := ((M.out).mem.nth 1 rfl).2.2; have y0 := ((M.out).mem.nth 0 rfl).1; have y1 := ((M.out).mem.nth 1 rfl).1; have y2 := (M.out).two.1; have y3 := (M.out).two.2; have zn := ((M.out).mem.blocks (w.heap.size, #[.int .u8 n, .float .f64 al, .float .f64 h, .float .f64 bl, .float .f64 bh]) (by simp)).1; have zm := ((M.out).mem.blocks (b, #[.int .u8 n, .float .f64 xl, .float .f64 xh, .float .f64 yl, .float .f64 yh]) (by simp)).1)
          | (go_at_call 38; (with_reducible refine (cS.out _ _ (((M.out.made _ _).made _ _).drew).hd.pc (((M.out.made _ _).made _ _).drew).hd.pf).mono ?_); rintro rr w7 hT; obtain ⟨rfl, hp⟩ := hT.open; have M' := Lib.hid ((((M.out.made _ _).made _ _).drew).putd hp); have zp := zn; have zq := zm; (try simp only [World.size_alloc, World.size_drew] at M' zp zq); clear M hp hT k0 k1 k2 k3 k4 m0 m1 m2 m3 m4 zc zf zd zg y0 y1 y2 y3 zn zm; have M := M'; clear M'; obtain ⟨k0, k1, k2, k3, k4⟩ := ((M.out).mem.blocks (w.heap.size, #[.int .u8 n, .float .f64 al, .float .f64 h, .float .f64 bl, .float .f64 bh]) (by simp)).five; obtain ⟨m0, m1, m2, m3, m4⟩ := ((M.out).mem.blocks (b, #[.int .u8 n, .float .f64 xl, .float .f64 xh, .float .f64 yl, .float .f64 yh]) (by simp)).five; have zc := ((M.out).mem.nth 0 rfl).2.1; have zf := ((M.out).mem.nth 0 rfl).2.2; have zd := ((M.out).mem.nth 1 rfl).2.1; have zg := ((M.out).mem.nth 1 rfl).2.2; have y0 := ((M.out).mem.nth 0 rfl).1; have y1 := ((M.out).mem.nth 1 rfl).1; have y2 := (M.out).two.1; have y3 := (M.out).two.2; have zn := ((M.out).mem.blocks (w.heap.size, #[.int .u8 n, .float .f64 al, .float .f64 h, .float .f64 bl, .float .f64 bh]) (by simp)).1; have zm := ((M.out).mem.blocks (b, #[.int .u8 n, .float .f64 xl, .float .f64 xh, .float .f64 yl, .float .f64 yh]) (by simp)).1))
        all_goals (go_wp2_with fail; go_meet)
        all_goals first | exact LessC.both M.out | exact LessC.both' M.out | exact LessC.one M.out | exact LessC.one' M.out | exact LessC.two M.out | exact LessC.two' M.out
      case rest =>
        obtain ⟨w8, rfl⟩ : ∃ x : World, x = wc := ⟨_, rfl⟩
        obtain ⟨i, j, rfl, rfl, hM⟩ := hcut
        clear M k0 k1 k2 k3 k4 m0 m1 m2 m3 m4 zc zf zd zg y0 y1 y2 y3 zn zm cR cS
        have M := Lib.hid hM
        clear hM
        by_cases he : R.e = 0
        · obtain ⟨s1, s2, s3⟩ := hW.out he
          have hR : Hid (∀ w', w'.cell? ⟨w4.heap.size, 0, none⟩ = some (.int .i64 R.e) → Calls Try.prog 39 #[.pointer (some ⟨w4.heap.size, 0, none⟩)] w' fun r w'' => r = .returned (.int .i64 0) ∧ w' = w'') := Lib.hid fun w' hc => by
            have := err_any R.e w4.heap.size 0 w' hc
            rw [he] at this
            exact this
          have hS : Hid (∀ w', w'.cell? ⟨w4.heap.size + 1, 0, none⟩ = some (.int .i64 S.e) → Calls Try.prog 39 #[.pointer (some ⟨w4.heap.size + 1, 0, none⟩)] w' fun r w'' => r = .returned (.int .i64 0) ∧ w' = w'') := Lib.hid fun w' hc => by
            have := err_any S.e (w4.heap.size + 1) 0 w' hc
            rw [s1] at this
            exact this
          clear he s1 hW
          have q1 := (M.out.nth 2 rfl).2.1
          have q2 := (M.out.nth 3 rfl).2.1
          go_wp2_with fail
          refine (hR.out _ (M.out.nth 0 rfl).pc).mono ?_
          rintro r ww ⟨rfl, rfl⟩
          go_wp2_with fail
          refine (hS.out _ (M.out.nth 1 rfl).pc).mono ?_
          rintro r ww ⟨rfl, rfl⟩
          go_wp2_with fail
          refine (awake2_any _).mono ?_
          rintro r w9 ⟨rfl, hb⟩
          replace M := Lib.hid (M.out.below hb)
          clear hb
          go_wp2
          go_ret
          exact ⟨rfl, M.out.base⟩
        · have he' : (R.e != 0) = true := by simpa using he
          clear he hW
          go_wp2_with fail
          refine (err_any R.e _ 0 _ (M.out.nth 0 rfl).pc).mono ?_
          rintro r ww ⟨rfl, rfl⟩
          go_wp2_with fail
          refine (awake2_any _).mono ?_
          rintro r w9 ⟨rfl, hb⟩
          replace M := Lib.hid (M.out.below hb)
          clear hb
          go_wp2
          go_ret
          exact ⟨rfl, M.out.base⟩

end Go.Proofs.Ytddgcdpmnfdpdaa
