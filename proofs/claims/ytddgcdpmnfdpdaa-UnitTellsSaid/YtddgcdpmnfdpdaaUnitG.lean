
/- The law UnitOf answers true, for any two draws. -/
import Derived.Test.YtddgcdpmnfdpdaaUnitE
import Derived.Test.YtddgcdpmnfdpdaaUnitF
namespace Go.Proofs.Ytddgcdpmnfdpdaa
open Go.RowKit
attribute [local go_sem] run_store_float

set_option maxRecDepth 100000 in
set_option maxHeartbeats 2000000 in
/-- x: the lesser draw, al to ah; L: 2^64 al, ul: its whole part; eq: are both ends the same; top: is the upper one 1. -/
theorem oflaw_walk (u t x y al ah bl bh n L Lh ul uh D : Nat) (eq top : Bool) (w : World)
    (m1 : ∀ ts t' w, (Builtin.min_ ts t' #[.int .u64 u, .int .u64 t]).run Try.prog w = .ok (.int .u64 x) w) (m2 : ∀ ts t' w, (Builtin.max_ ts t' #[.int .u64 u, .int .u64 t]).run Try.prog w = .ok (.int .u64 y) w)
    (c1 : Hid (∀ w, Calls Try.prog 49 #[.int .u64 x] w fun r w' => r = .returned (.agg #[.float .f64 al, .float .f64 ah]) ∧ Below w.heap.size w w'))
    (c2 : Hid (∀ w, Calls Try.prog 49 #[.int .u64 y] w fun r w' => r = .returned (.agg #[.float .f64 bl, .float .f64 bh]) ∧ Below w.heap.size w w'))
    (c3 : Hid (∀ w, Calls Try.prog 23 #[.float .f64 al, .bool true] w fun r w' => r = .returned (.tuple #[.float .f64 n, .int .i64 0]) ∧ Below w.heap.size w w'))
    (c4 : Hid (∀ w, Calls Try.prog 52 #[.float .f64 al, .int .i64 64] w fun r w' => r = .returned (.float .f64 L) ∧ w = w'))
    (c5 : Hid (∀ w, Calls Try.prog 52 #[.float .f64 ah, .int .i64 64] w fun r w' => r = .returned (.float .f64 Lh) ∧ w = w'))
    (o1 : (FloatKind.f64.format.order al 0 == some Ordering.lt) = false) (o2 : (FloatKind.f64.format.order ah 4607182418800017408 == some Ordering.gt) = false)
    (o3 : (FloatKind.f64.format.order ah al != some Ordering.eq) = !eq) (o4 : Hid (eq = false → (FloatKind.f64.format.order ah n != some Ordering.eq) = false))
    (o5 : (FloatKind.f64.format.order al bl == some Ordering.gt) = false) (o6 : (FloatKind.f64.format.order ah bh == some Ordering.gt) = false)
    (k1 : ∀ w, (convert 22 58 (.float .f64 L)).run Try.prog w = .ok (.int .u64 ul) w) (g1 : decide (x < ul) = false)
    (o7 : (FloatKind.f64.format.order al ah == some Ordering.eq) = eq) (g2 : Hid (eq = true → ((ul : Int) != (x : Int)) = false))
    (o8 : (FloatKind.f64.format.order ah 4607182418800017408 == some Ordering.eq) = top)
    (g3 : IntKind.u64.wrap ((x : Int) - ul) = (D : Int)) (g4 : Hid (eq = false → decide (0 < D) = true))
    (k2 : Hid (eq = false → top = false → (∀ w, (convert 22 58 (.float .f64 Lh)).run Try.prog w = .ok (.int .u64 uh) w) ∧ decide (x < uh) = true ∧ decide (ul < x) = true)) :
    Calls Try.prog 9 #[.int .u64 u, .int .u64 t] w fun r w' => r = .returned (.bool true) ∧ Below w.heap.size w w' := by
  go_enter Try.func9, Try.ntmps9
  go_wp2_with fail
  refine (c1.out _).mono ?_
  rintro r w1 ⟨rfl, hb⟩
  have B1 := Lib.hid hb; clear hb
  go_wp2_with fail
  refine (c2.out _).mono ?_
  rintro r w2 ⟨rfl, hb⟩
  have B2 := Lib.hid (B1.out.trans (hb.mono B1.out.size)); clear hb B1
  have M := Lib.hid (Mem.two w2 #[.float .f64 al, .float .f64 ah] #[.float .f64 bl, .float .f64 bh] 39 39)
  clear m1 m2
  go_wp2_with fail
  refine (c3.out _).mono ?_
  rintro r w3 ⟨rfl, hb⟩
  replace M := Lib.hid (M.out.below hb)
  clear hb
  have q1 := (M.out.nth 0 rfl).2.1
  have q2 := (M.out.nth 1 rfl).2.1
  cases eq
  · have p4 := o4.out rfl
    have h4 := g4.out rfl
    clear o4 g4 g2
    go_wp2_with fail
    refine (c4.out _).mono ?_
    rintro r ww ⟨rfl, rfl⟩
    cases top
    · obtain ⟨k3, h5, h6⟩ := k2.out (by simp) (by simp)
      clear k2
      go_wp2_with fail
      refine (c5.out _).mono ?_
      rintro r ww ⟨rfl, rfl⟩
      go_wp2_with fail
      refine (awake3_any _).mono ?_
      rintro r w4 ⟨rfl, hb⟩
      replace M := Lib.hid (M.out.below hb)
      clear hb
      go_wp2
      go_ret
      exact ⟨rfl, B2.out.trans (M.out.base.mono B2.out.size)⟩
    · clear k2
      go_wp2_with fail
      refine (awake3_any _).mono ?_
      rintro r w4 ⟨rfl, hb⟩
      replace M := Lib.hid (M.out.below hb)
      clear hb
      go_wp2
      go_ret
      exact ⟨rfl, B2.out.trans (M.out.base.mono B2.out.size)⟩
  · have h2 := g2.out rfl
    clear o4 g4 g2 k2
    go_wp2_with fail
    refine (c4.out _).mono ?_
    rintro r ww ⟨rfl, rfl⟩
    go_wp2_with fail
    refine (awake3_any _).mono ?_
    rintro r w4 ⟨rfl, hb⟩
    replace M := Lib.hid (M.out.below hb)
    clear hb
    go_wp2
    go_ret
    exact ⟨rfl, B2.out.trans (M.out.base.mono B2.out.size)⟩

theorem oflaw_any (u t : Nat) (w : World) (hu : u < 18446744073709551616) (ht : t < 18446744073709551616) :
    Calls Try.prog 9 #[.int .u64 u, .int .u64 t] w fun r w' => r = .returned (.bool true) ∧ Below w.heap.size w w' := by
  obtain ⟨x, hx⟩ : ∃ x, x = min u t := ⟨_, rfl⟩
  obtain ⟨y, hy⟩ : ∃ y, y = max u t := ⟨_, rfl⟩
  have m := run_minmax u t
  rw [← hx, ← hy] at m
  have lx : x < 18446744073709551616 := by omega
  have ly : y < 18446744073709551616 := by omega
  have hxy : x ≤ y := by omega
  clear hx hy hu ht
  have F := of_facts x lx
  have G := of_facts y ly
  obtain ⟨a1, a2, _, _, a5⟩ := pos_facts _ F.lo
  obtain ⟨b1, b2, _, _, b5⟩ := pos_facts _ F.hi
  obtain ⟨d1, d2, _, _, d5⟩ := pos_facts _ G.lo
  obtain ⟨e1, e2, _, _, e5⟩ := pos_facts _ G.hi
  obtain ⟨n1, n2, n3, n4⟩ := F.next
  obtain ⟨L, l1, l2, l3⟩ := ldexp_end (ofLo x) F.lonorm F.lo (Nat.le_of_lt F.less)
  obtain ⟨Lh, r1, r2, r3⟩ := ldexp_end (ofHi x) F.hinorm F.hi F.one
  have k1 := cut_end (ofLo x) L l2 l3 F.less
  have hT := Nat.two_pow_pos dr
  have hul : bnd (ofLo x) ≤ x := by
    unfold bnd
    have := Nat.div_le_div_right (c := 2 ^ dr) F.below
    rw [Nat.mul_div_cancel _ hT] at this
    exact this
  have hgr : u = u := rfl
  have hTT : ((x * 2 ^ dr : Nat) : Int) ≤ ((y * 2 ^ dr : Nat) : Int) := Int.ofNat_le.2 (Nat.mul_le_mul_right _ hxy)
  have gl := (of_tight x lx).1.grows (of_tight y ly).1 hTT
  have gh := (of_tight x lx).2.1.grows (of_tight y ly).2.1 hTT
  have hsame : val (ofLo x) = val (ofHi x) ↔ ofLo x = ofHi x := ⟨fun h => val_inj a1 b1 a2 b2 h, fun h => by rw [h]⟩
  have heq : (FloatKind.f64.format.order (ofHi x) (ofLo x) != some Ordering.eq) = !(decide (ofLo x = ofHi x)) := by
    rw [bne, order_eq _ _ b1 a1 b2 a2]
    by_cases h : ofLo x = ofHi x
    · rw [decide_eq_true h, decide_eq_true (hsame.2 h).symm]
    · rw [decide_eq_false h, decide_eq_false (fun h' => h (hsame.1 h'.symm))]
  have heq2 : (FloatKind.f64.format.order (ofLo x) (ofHi x) == some Ordering.eq) = decide (ofLo x = ofHi x) := by
    rw [order_eq _ _ a1 b1 a2 b2]
    by_cases h : ofLo x = ofHi x
    · rw [decide_eq_true h, decide_eq_true (hsame.2 h)]
    · rw [decide_eq_false h, decide_eq_false (fun h' => h (hsame.1 h'))]
  refine oflaw_walk u t x y (ofLo x) (ofHi x) (ofLo y) (ofHi y) (addW (ofLo x) 1 true) L Lh (bnd (ofLo x)) (bnd (ofHi x)) (x - bnd (ofLo x)) (decide (ofLo x = ofHi x)) _ w (fun ts t' w => (m ts t' w).1) (fun ts t' w => (m ts t' w).2)
    (Lib.hid (fun w => of_any x w lx)) (Lib.hid (fun w => of_any y w ly)) (Lib.hid (fun w => next_lit _ _ 0 true w a1 rfl n1)) (Lib.hid l1) (Lib.hid r1)
    ?_ ?_ heq (Lib.hid ?_) ?_ ?_ (fun w => run_convert_float_int w _ _ _ _ _ _ (by rw [Try.underlying22]; rfl) Try.underlying58 k1) (decide_eq_false (by omega)) heq2 (Lib.hid ?_) rfl (sub_le_word _ _ hul lx) (Lib.hid ?_) (Lib.hid ?_)
  · rw [order_lt _ _ a1 (by decide) a2 right_0, val_0, a5]; exact decide_eq_false (by omega)
  · rw [order_gt _ _ b1 (by decide) b2 right_one, val_one, b5]; exact decide_eq_false (by have := F.one; omega)
  · intro h
    have hne : ofLo x ≠ ofHi x := by rw [decide_eq_false_iff_not] at h; exact h
    rw [← n4 hne, bne, order_eq _ _ b1 b1 b2 b2, decide_eq_true rfl]; rfl
  · rw [order_gt _ _ a1 d1 a2 d2]; exact decide_eq_false (by omega)
  · rw [order_gt _ _ b1 e1 b2 e2]; exact decide_eq_false (by omega)
  · intro h
    have he : ofLo x = ofHi x := by rw [decide_eq_true_eq] at h; exact h
    have hs : steps (ofLo x) = x * 2 ^ dr := by
      have h1 := F.below
      have h2 := F.above
      rw [← he] at h2
      omega
    have hb : bnd (ofLo x) = x := by unfold bnd; rw [hs, Nat.mul_div_cancel _ hT]
    rw [hb, bne_eq_false_iff_eq]
  · intro h
    have hne : ofLo x ≠ ofHi x := by rw [decide_eq_false_iff_not] at h; exact h
    have h1 : bnd (ofLo x) < x := by unfold bnd; exact (Nat.div_lt_iff_lt_mul hT).2 (F.ne hne).1
    exact decide_eq_true (by omega)
  · intro h htop
    have hne : ofLo x ≠ ofHi x := by rw [decide_eq_false_iff_not] at h; exact h
    have h1 : bnd (ofLo x) < x := by unfold bnd; exact (Nat.div_lt_iff_lt_mul hT).2 (F.ne hne).1
    have h3 : steps (ofHi x) < 2 ^ sq := by
      rw [order_eq _ _ b1 (by decide) b2 right_one, val_one, b5, decide_eq_false_iff_not] at htop
      have := F.one
      rcases Nat.eq_or_lt_of_le this with g | g
      · exact absurd (by rw [g]) htop
      · exact g
    exact ⟨fun w => run_convert_float_int w _ _ _ _ _ _ (by rw [Try.underlying22]; rfl) Try.underlying58 (cut_end (ofHi x) Lh r2 r3 h3), decide_eq_true (F.ne hne).2, decide_eq_true h1⟩

end Go.Proofs.Ytddgcdpmnfdpdaa
