
/- Package trig: ofNumber and SinCos, for all that they are given; what the laws of trig ask: iv, fine, Exact, awake. -/
import Derived.Test.YtpgbcdplicodmaaTrigAll
import Derived.Deep.RegionHeld3
namespace Go.Proofs.Ytpgbcdplicodmaa
open Go.RowKit
attribute [local go_sem] run_store_float

/-- A store of a function's value. -/
theorem run_store_fn (P : Program) (w : World) (a : Addr) (m : Mode) (f : Fn) (t c : Array Value) : (store a (.func f t c) m).run P w = stored P w a (.func f t c) m := run_store P w a _ m rfl
attribute [local go_sem] run_store_fn

/-- A calculator without an error, and blocks of the call's own, each apart from the others. -/
structure EnvL (B : World) (pb : Nat) (l : List (Nat × Array Value)) (v : World) : Prop where
  env : Env B pb l v
  apart : l.Pairwise fun p q => p.1 ≠ q.1
  low : ∀ p, p ∈ l → B.heap.size ≤ p.1
section
variable {B v v' : World} {pb : Nat} {l : List (Nat × Array Value)}
theorem EnvL.drew (h : EnvL B pb l v) : EnvL B pb l v.drew := ⟨h.env.drew, h.apart, h.low⟩
theorem EnvL.drewN (h : EnvL B pb l v) (n : Nat) : EnvL B pb l (v.drewN n) := ⟨h.env.drewN n, h.apart, h.low⟩
theorem EnvL.below (h : EnvL B pb l v) (hb : Below v.heap.size v v') : EnvL B pb l v' := ⟨h.env.below hb, h.apart, h.low⟩
theorem EnvL.putc (h : EnvL B pb l v) (hp : Put ⟨pb, 0, none⟩ (.int .i64 0) v v') : EnvL B pb l v' := ⟨h.env.putc hp, h.apart, h.low⟩
theorem EnvL.cal (h : EnvL B pb l v) : Has1 v (pb, #[.int .i64 0]) := h.env.cal
theorem EnvL.made (h : EnvL B pb l v) (c : Array Value) (t : TypeId) : EnvL B pb ((v.heap.size, c) :: l) (v.alloc (.cells c t)) :=
  ⟨h.env.made c t, List.pairwise_cons.2 ⟨h.env.fresh.2, h.apart⟩, fun p hp => by
    rcases List.mem_cons.1 hp with e | e
    · rw [e]; exact h.env.fresh.1
    · exact h.low p e⟩
theorem EnvL.start (h : Has1 B (pb, #[.int .i64 0])) : EnvL B pb [] B := ⟨Env.start h, List.Pairwise.nil, fun p hp => by cases hp⟩
theorem EnvL.twoA {p q : Nat × Array Value} (h : EnvL B pb (p :: q :: l) v) : p.1 ≠ q.1 ∧ q.1 ≠ p.1 :=
  ⟨(List.pairwise_cons.1 h.apart).1 q (List.mem_cons_self ..), Ne.symm ((List.pairwise_cons.1 h.apart).1 q (List.mem_cons_self ..))⟩
theorem EnvL.swap {p q : Nat × Array Value} (h : EnvL B pb (p :: q :: l) v) : EnvL B pb (q :: p :: l) v := by
  refine ⟨h.env.sub (fun r hr => ?_), ?_, fun r hr => h.low r ?_⟩
  · simp only [List.mem_cons] at hr ⊢
    rcases hr with e | e | e <;> simp [e]
  · have h1 := List.pairwise_cons.1 h.apart
    have h2 := List.pairwise_cons.1 h1.2
    refine List.pairwise_cons.2 ⟨fun r hr => ?_, List.pairwise_cons.2 ⟨fun r hr => h1.1 r (List.mem_cons_of_mem _ hr), h2.2⟩⟩
    rcases List.mem_cons.1 hr with e | e
    · rw [e]; exact Ne.symm (h1.1 q (List.mem_cons_self ..))
    · exact h2.1 r e
  · simp only [List.mem_cons] at hr ⊢
    rcases hr with e | e | e <;> simp [e]
theorem EnvL.reset {q : Nat} {a b : Value} (h : EnvL B pb ((q, #[a, b]) :: l) v) (x y : Value) : EnvL B pb ((q, #[x, y]) :: l) ((v.setCell ⟨q, 0, none⟩ x).setCell ⟨q, 1, none⟩ y) :=
  ⟨h.env.reset (h.low _ (List.mem_cons_self ..)) (List.pairwise_cons.1 h.apart).1 x y, List.pairwise_cons.2 ⟨(List.pairwise_cons.1 h.apart).1, (List.pairwise_cons.1 h.apart).2⟩, fun p hp => by
    rcases List.mem_cons.1 hp with e | e
    · rw [e]; exact h.low (q, #[a, b]) (List.mem_cons_self ..)
    · exact h.low p (List.mem_cons_of_mem _ e)⟩

/-- Behind two intervals that are kept in new blocks. -/
def KeptTwo (w : World) (pb : Nat) (l : List (Nat × Array Value)) (a b x y : Nat) (p q : Value) (wx : World) : Prop :=
  ∃ i j, p = .pointer (some ⟨i, 0, none⟩) ∧ q = .pointer (some ⟨j, 0, none⟩) ∧ EnvL w pb ((i, #[.float .f64 a, .float .f64 b]) :: (j, #[.float .f64 x, .float .f64 y]) :: l) wx
variable {a b x y q r : Nat} {z0 z1 z2 z3 : Value} {t u : TypeId}
theorem KeptTwo.both (h : EnvL B pb l v) : KeptTwo B pb l a b x y (.pointer (some ⟨v.heap.size, 0, none⟩)) (.pointer (some ⟨v.heap.size + 1, 0, none⟩)) ((v.alloc (.cells #[.float .f64 a, .float .f64 b] t)).alloc (.cells #[.float .f64 x, .float .f64 y] u)) := by
  have k := ((h.made #[.float .f64 a, .float .f64 b] t).made #[.float .f64 x, .float .f64 y] u).swap
  rw [World.size_alloc] at k
  exact ⟨_, _, rfl, rfl, k⟩
theorem KeptTwo.both' (h : EnvL B pb l v) : KeptTwo B pb l a b x y (.pointer (some ⟨v.heap.size + 1, 0, none⟩)) (.pointer (some ⟨v.heap.size, 0, none⟩)) ((v.alloc (.cells #[.float .f64 x, .float .f64 y] t)).alloc (.cells #[.float .f64 a, .float .f64 b] u)) := by
  have k := (h.made #[.float .f64 x, .float .f64 y] t).made #[.float .f64 a, .float .f64 b] u
  rw [World.size_alloc] at k
  exact ⟨_, _, rfl, rfl, k⟩
theorem KeptTwo.one (h : EnvL B pb ((q, #[z0, z1]) :: l) v) : KeptTwo B pb l a b x y (.pointer (some ⟨q, 0, none⟩)) (.pointer (some ⟨v.heap.size, 0, none⟩)) (((v.setCell ⟨q, 0, none⟩ (.float .f64 a)).setCell ⟨q, 1, none⟩ (.float .f64 b)).alloc (.cells #[.float .f64 x, .float .f64 y] u)) := by
  have k := ((h.reset (.float .f64 a) (.float .f64 b)).made #[.float .f64 x, .float .f64 y] u).swap
  rw [size_two] at k
  exact ⟨_, _, rfl, rfl, k⟩
theorem KeptTwo.one' (h : EnvL B pb ((q, #[z0, z1]) :: l) v) : KeptTwo B pb l a b x y (.pointer (some ⟨v.heap.size, 0, none⟩)) (.pointer (some ⟨q, 0, none⟩)) (((v.setCell ⟨q, 0, none⟩ (.float .f64 x)).setCell ⟨q, 1, none⟩ (.float .f64 y)).alloc (.cells #[.float .f64 a, .float .f64 b] u)) := by
  have k := (h.reset (.float .f64 x) (.float .f64 y)).made #[.float .f64 a, .float .f64 b] u
  rw [size_two] at k
  exact ⟨_, _, rfl, rfl, k⟩
theorem KeptTwo.two (h : EnvL B pb ((r, #[z2, z3]) :: (q, #[z0, z1]) :: l) v) : KeptTwo B pb l a b x y (.pointer (some ⟨q, 0, none⟩)) (.pointer (some ⟨r, 0, none⟩)) ((((v.setCell ⟨q, 0, none⟩ (.float .f64 a)).setCell ⟨q, 1, none⟩ (.float .f64 b)).setCell ⟨r, 0, none⟩ (.float .f64 x)).setCell ⟨r, 1, none⟩ (.float .f64 y)) :=
  ⟨_, _, rfl, rfl, ((h.swap.reset (.float .f64 a) (.float .f64 b)).swap.reset (.float .f64 x) (.float .f64 y)).swap⟩
theorem KeptTwo.two' (h : EnvL B pb ((q, #[z0, z1]) :: (r, #[z2, z3]) :: l) v) : KeptTwo B pb l a b x y (.pointer (some ⟨q, 0, none⟩)) (.pointer (some ⟨r, 0, none⟩)) ((((v.setCell ⟨q, 0, none⟩ (.float .f64 a)).setCell ⟨q, 1, none⟩ (.float .f64 b)).setCell ⟨r, 0, none⟩ (.float .f64 x)).setCell ⟨r, 1, none⟩ (.float .f64 y)) :=
  ⟨_, _, rfl, rfl, ((h.reset (.float .f64 a) (.float .f64 b)).swap.reset (.float .f64 x) (.float .f64 y)).swap⟩
end

/-- What series answers. -/
abbrev CalcS (pb : Nat) (m : Int) (tl th rl rh : Nat) : Prop := ∀ v : World, Has1 v (pb, #[.int .i64 0]) → Calls Try.prog 129 #[.pointer (some ⟨pb, 0, none⟩), .agg #[.float .f64 tl, .float .f64 th], .int .i64 m] v fun r w' => r = .returned (.agg #[.float .f64 rl, .float .f64 rh]) ∧ Put ⟨pb, 0, none⟩ (.int .i64 0) v w'

/-- What bounded answers. -/
abbrev CalcB (xl xh yl yh : Nat) : Prop := ∀ w : World, Calls Try.prog 134 #[.agg #[.float .f64 xl, .float .f64 xh]] w fun r w' => r = .returned (.agg #[.float .f64 yl, .float .f64 yh]) ∧ Below w.heap.size w w'

set_option maxRecDepth 100000 in
set_option maxHeartbeats 8000000 in
theorem of_walk (x j tl th s0l s0h sl sh kl kh xl xh yl yh sml smh kml kmh xml xmh yml ymh al ah bl bh pb : Nat) (w : World) (hC : Has1 w (pb, #[.int .i64 0])) (hj : j ≤ 4)
    (cJ : Hid (∀ w, Calls Try.prog 127 #[.float .f64 x] w fun r w' => r = .returned (.int .i64 j) ∧ w = w'))
    (cA : Hid (∀ v, Has1 v (pb, #[.int .i64 0]) → Calls Try.prog 128 #[.pointer (some ⟨pb, 0, none⟩), .float .f64 x, .int .i64 j] v fun r w' => r = .returned (.agg #[.float .f64 tl, .float .f64 th]) ∧ Put ⟨pb, 0, none⟩ (.int .i64 0) v w'))
    (c20 : Hid (CalcS pb 20 tl th s0l s0h)) (cM : Hid (Calc2 53 pb tl th s0l s0h sl sh)) (c19 : Hid (CalcS pb 19 tl th kl kh))
    (cNs : Hid (Calc1 51 pb sl sh xl xh)) (cNk : Hid (Calc1 51 pb kl kh yl yh))
    (bS : Hid (CalcB sl sh sml smh)) (bK : Hid (CalcB kl kh kml kmh)) (bX : Hid (CalcB xl xh xml xmh)) (bY : Hid (CalcB yl yh yml ymh))
    (hR : Hid ((j = 0 ∨ j = 4) ∧ al = sml ∧ ah = smh ∧ bl = kml ∧ bh = kmh ∨ j = 1 ∧ al = kml ∧ ah = kmh ∧ bl = xml ∧ bh = xmh ∨ j = 2 ∧ al = xml ∧ ah = xmh ∧ bl = yml ∧ bh = ymh ∨ j = 3 ∧ al = yml ∧ ah = ymh ∧ bl = sml ∧ bh = smh)) :
    Calls Try.prog 93 #[.pointer (some ⟨pb, 0, none⟩), .float .f64 x] w fun r w' => r = .returned (.tuple #[.agg #[.float .f64 al, .float .f64 ah], .agg #[.float .f64 bl, .float .f64 bh]]) ∧ Put ⟨pb, 0, none⟩ (.int .i64 0) w w' := by
  have n1 : pb ≠ w.heap.size := Nat.ne_of_lt hC.1
  have E : Hid (EnvL w pb [(w.heap.size + 1 + 1, #[.float .f64 0, .float .f64 0]), (w.heap.size + 1, #[.float .f64 0, .float .f64 0]), (w.heap.size, #[.pointer (some ⟨pb, 0, none⟩)])] (((w.alloc (.cells #[.pointer (some ⟨pb, 0, none⟩)] 47)).alloc (.cells #[.float .f64 0, .float .f64 0] 39)).alloc (.cells #[.float .f64 0, .float .f64 0] 39))) := by
    have h := (((EnvL.start hC).made #[.pointer (some ⟨pb, 0, none⟩)] 47).made #[.float .f64 0, .float .f64 0] 39).made #[.float .f64 0, .float .f64 0] 39
    simp only [World.size_alloc] at h
    exact Lib.hid h
  have k1 := (E.out.env.nth 2 rfl).pc
  clear hC
  go_enter Try.func93, Try.ntmps93
  go_wp2_with fail
  refine (cJ.out _).mono ?_
  rintro r w1 ⟨rfl, rfl⟩
  go_wp2_with fail
  refine (cA.out _ E.out.cal).mono ?_
  rintro r w2 ⟨rfl, hp⟩
  replace E : Hid (EnvL w pb [(w2.heap.size, #[.float .f64 tl, .float .f64 th]), (w.heap.size + 1 + 1, #[.float .f64 0, .float .f64 0]), (w.heap.size + 1, #[.float .f64 0, .float .f64 0]), (w.heap.size, #[.pointer (some ⟨pb, 0, none⟩)])] (w2.alloc (.cells #[.float .f64 tl, .float .f64 th] 39))) := Lib.hid ((E.out.putc hp).made #[.float .f64 tl, .float .f64 th] 39)
  clear hp k1 cJ cA
  go_upto_region 3 with fail
  revert E
  generalize w2.alloc (.cells #[.float .f64 tl, .float .f64 th] 39) = W
  intro E
  have k1 := (E.out.env.blocks (w.heap.size, #[.pointer (some ⟨pb, 0, none⟩)]) (by simp)).1.pc
  obtain ⟨k2, k3⟩ := (E.out.env.blocks (w2.heap.size, #[.float .f64 tl, .float .f64 th]) (by simp)).1.two
  have z1 := (E.out.env.blocks (w.heap.size, #[.pointer (some ⟨pb, 0, none⟩)]) (by simp)).1.1
  have z2 := (E.out.env.blocks (w2.heap.size, #[.float .f64 tl, .float .f64 th]) (by simp)).1.1
  have k4 := (E.out.env.nth 0 rfl).2.1
  have k5 := (E.out.env.nth 0 rfl).2.2
  have k6 := (E.out.env.nth 1 rfl).2.1
  have k7 := (E.out.env.nth 1 rfl).2.2
  have y0 := (E.out.env.nth 0 rfl).1
  have y1 := (E.out.env.nth 1 rfl).1
  have y2 := E.out.twoA.1
  have y3 := E.out.twoA.2
  go_cut [8, 9] (KeptTwo w pb [(w2.heap.size, #[.float .f64 tl, .float .f64 th]), (w.heap.size + 1 + 1, #[.float .f64 0, .float .f64 0]), (w.heap.size + 1, #[.float .f64 0, .float .f64 0]), (w.heap.size, #[.pointer (some ⟨pb, 0, none⟩)])] sl sh kl kh)
  case first =>
    go_region_held3 (fun w' => w'.cell? ⟨w.heap.size, 0, none⟩ = some (.pointer (some ⟨pb, 0, none⟩)) ∧ w'.cell? ⟨w2.heap.size, 0, none⟩ = some (.float .f64 tl) ∧ w'.cell? ⟨w2.heap.size, 1, none⟩ = some (.float .f64 th)) (((try dsimp only); (repeat' apply And.intro); all_goals (repeat (first | (with_reducible assumption) | ((with_reducible refine keep_undrew ?_); (with_reducible assumption)) | (with_reducible refine keep_drew ?_) | (with_reducible refine keep_alloc _ ?_) | (with_reducible refine keep_set _ (by first | (with_reducible assumption) | omega) ?_)))))
      (first
        | (go_at_call 129; (with_reducible refine (c20.out _ (E.out).cal).mono ?_); rintro rr w5 ⟨rfl, hp⟩; have E' := Lib.hid ((E.out).putc hp); clear E hp; clear k1 k2 k3 z1 z2 k4 k5 k6 k7 y0 y1 y2 y3; have E := E'; clear E'; have k1 := (E.out.env.blocks (w.heap.size, #[.pointer (some ⟨pb, 0, none⟩)]) (by simp)).1.pc; obtain ⟨k2, k3⟩ := (E.out.env.blocks (w2.heap.size, #[.float .f64 tl, .float .f64 th]) (by simp)).1.two; have z1 := (E.out.env.blocks (w.heap.size, #[.pointer (some ⟨pb, 0, none⟩)]) (by simp)).1.1; have z2 := (E.out.env.blocks (w2.heap.size, #[.float .f64 tl, .float .f64 th]) (by simp)).1.1; have k4 := (E.out.env.nth 0 rfl).2.1; have k5 := (E.out.env.nth 0 rfl).2.2; have k6 := (E.out.env.nth 1 rfl).2.1; have k7 := (E.out.env.nth 1 rfl).2.2; have y0 := (E.out.env.nth 0 rfl).1; have y1 := (E.out.env.nth 1 rfl).1; have y2 := E.out.twoA.1; have y3 := E.out.twoA.2)
        | (go_at_call 129; (with_reducible refine (c20.out _ (E.out.drew).cal).mono ?_); rintro rr w5 ⟨rfl, hp⟩; have E' := Lib.hid ((E.out.drew).putc hp); clear E hp; clear k1 k2 k3 z1 z2 k4 k5 k6 k7 y0 y1 y2 y3; have E := E'; clear E'; have k1 := (E.out.env.blocks (w.heap.size, #[.pointer (some ⟨pb, 0, none⟩)]) (by simp)).1.pc; obtain ⟨k2, k3⟩ := (E.out.env.blocks (w2.heap.size, #[.float .f64 tl, .float .f64 th]) (by simp)).1.two; have z1 := (E.out.env.blocks (w.heap.size, #[.pointer (some ⟨pb, 0, none⟩)]) (by simp)).1.1; have z2 := (E.out.env.blocks (w2.heap.size, #[.float .f64 tl, .float .f64 th]) (by simp)).1.1; have k4 := (E.out.env.nth 0 rfl).2.1; have k5 := (E.out.env.nth 0 rfl).2.2; have k6 := (E.out.env.nth 1 rfl).2.1; have k7 := (E.out.env.nth 1 rfl).2.2; have y0 := (E.out.env.nth 0 rfl).1; have y1 := (E.out.env.nth 1 rfl).1; have y2 := E.out.twoA.1; have y3 := E.out.twoA.2)
        | (go_at_call 129; (with_reducible refine (c20.out _ ((E.out.made _ _)).cal).mono ?_); rintro rr w5 ⟨rfl, hp⟩; have zp := z1; have zq := z2; have E' := Lib.hid (((E.out.made _ _)).putc hp); clear E hp; clear k1 k2 k3 z1 z2 k4 k5 k6 k7 y0 y1 y2 y3; have E := E'; clear E'; have k1 := (E.out.env.blocks (w.heap.size, #[.pointer (some ⟨pb, 0, none⟩)]) (by simp)).1.pc; obtain ⟨k2, k3⟩ := (E.out.env.blocks (w2.heap.size, #[.float .f64 tl, .float .f64 th]) (by simp)).1.two; have z1 := (E.out.env.blocks (w.heap.size, #[.pointer (some ⟨pb, 0, none⟩)]) (by simp)).1.1; have z2 := (E.out.env.blocks (w2.heap.size, #[.float .f64 tl, .float .f64 th]) (by simp)).1.1; have k4 := (E.out.env.nth 0 rfl).2.1; have k5 := (E.out.env.nth 0 rfl).2.2; have k6 := (E.out.env.nth 1 rfl).2.1; have k7 := (E.out.env.nth 1 rfl).2.2; have y0 := (E.out.env.nth 0 rfl).1; have y1 := (E.out.env.nth 1 rfl).1; have y2 := E.out.twoA.1; have y3 := E.out.twoA.2)
        | (go_at_call 129; (with_reducible refine (c20.out _ ((E.out.made _ _).drew).cal).mono ?_); rintro rr w5 ⟨rfl, hp⟩; have zp := z1; have zq := z2; have E' := Lib.hid (((E.out.made _ _).drew).putc hp); clear E hp; clear k1 k2 k3 z1 z2 k4 k5 k6 k7 y0 y1 y2 y3; have E := E'; clear E'; have k1 := (E.out.env.blocks (w.heap.size, #[.pointer (some ⟨pb, 0, none⟩)]) (by simp)).1.pc; obtain ⟨k2, k3⟩ := (E.out.env.blocks (w2.heap.size, #[.float .f64 tl, .float .f64 th]) (by simp)).1.two; have z1 := (E.out.env.blocks (w.heap.size, #[.pointer (some ⟨pb, 0, none⟩)]) (by simp)).1.1; have z2 := (E.out.env.blocks (w2.heap.size, #[.float .f64 tl, .float .f64 th]) (by simp)).1.1; have k4 := (E.out.env.nth 0 rfl).2.1; have k5 := (E.out.env.nth 0 rfl).2.2; have k6 := (E.out.env.nth 1 rfl).2.1; have k7 := (E.out.env.nth 1 rfl).2.2; have y0 := (E.out.env.nth 0 rfl).1; have y1 := (E.out.env.nth 1 rfl).1; have y2 := E.out.twoA.1; have y3 := E.out.twoA.2)
        | (go_at_call 129; (with_reducible refine (c20.out _ (((E.out.made _ _).made _ _)).cal).mono ?_); rintro rr w5 ⟨rfl, hp⟩; have zp := z1; have zq := z2; have E' := Lib.hid ((((E.out.made _ _).made _ _)).putc hp); (try simp only [World.size_alloc] at E' zp zq); clear E hp; clear k1 k2 k3 z1 z2 k4 k5 k6 k7 y0 y1 y2 y3; have E := E'; clear E'; have k1 := (E.out.env.blocks (w.heap.size, #[.pointer (some ⟨pb, 0, none⟩)]) (by simp)).1.pc; obtain ⟨k2, k3⟩ := (E.out.env.blocks (w2.heap.size, #[.float .f64 tl, .float .f64 th]) (by simp)).1.two; have z1 := (E.out.env.blocks (w.heap.size, #[.pointer (some ⟨pb, 0, none⟩)]) (by simp)).1.1; have z2 := (E.out.env.blocks (w2.heap.size, #[.float .f64 tl, .float .f64 th]) (by simp)).1.1; have k4 := (E.out.env.nth 0 rfl).2.1; have k5 := (E.out.env.nth 0 rfl).2.2; have k6 := (E.out.env.nth 1 rfl).2.1; have k7 := (E.out.env.nth 1 rfl).2.2; have y0 := (E.out.env.nth 0 rfl).1; have y1 := (E.out.env.nth 1 rfl).1; have y2 := E.out.twoA.1; have y3 := E.out.twoA.2)
        | (go_at_call 129; (with_reducible refine (c20.out _ (((E.out.made _ _).made _ _).drew).cal).mono ?_); rintro rr w5 ⟨rfl, hp⟩; have zp := z1; have zq := z2; have E' := Lib.hid ((((E.out.made _ _).made _ _).drew).putc hp); (try simp only [World.size_alloc] at E' zp zq); clear E hp; clear k1 k2 k3 z1 z2 k4 k5 k6 k7 y0 y1 y2 y3; have E := E'; clear E'; have k1 := (E.out.env.blocks (w.heap.size, #[.pointer (some ⟨pb, 0, none⟩)]) (by simp)).1.pc; obtain ⟨k2, k3⟩ := (E.out.env.blocks (w2.heap.size, #[.float .f64 tl, .float .f64 th]) (by simp)).1.two; have z1 := (E.out.env.blocks (w.heap.size, #[.pointer (some ⟨pb, 0, none⟩)]) (by simp)).1.1; have z2 := (E.out.env.blocks (w2.heap.size, #[.float .f64 tl, .float .f64 th]) (by simp)).1.1; have k4 := (E.out.env.nth 0 rfl).2.1; have k5 := (E.out.env.nth 0 rfl).2.2; have k6 := (E.out.env.nth 1 rfl).2.1; have k7 := (E.out.env.nth 1 rfl).2.2; have y0 := (E.out.env.nth 0 rfl).1; have y1 := (E.out.env.nth 1 rfl).1; have y2 := E.out.twoA.1; have y3 := E.out.twoA.2)
        | (go_at_call 53; (with_reducible refine (cM.out _ (E.out).cal).mono ?_); rintro rr w5 ⟨rfl, hp⟩; have E' := Lib.hid ((E.out).putc hp); clear E hp; clear k1 k2 k3 z1 z2 k4 k5 k6 k7 y0 y1 y2 y3; have E := E'; clear E'; have k1 := (E.out.env.blocks (w.heap.size, #[.pointer (some ⟨pb, 0, none⟩)]) (by simp)).1.pc; obtain ⟨k2, k3⟩ := (E.out.env.blocks (w2.heap.size, #[.float .f64 tl, .float .f64 th]) (by simp)).1.two; have z1 := (E.out.env.blocks (w.heap.size, #[.pointer (some ⟨pb, 0, none⟩)]) (by simp)).1.1; have z2 := (E.out.env.blocks (w2.heap.size, #[.float .f64 tl, .float .f64 th]) (by simp)).1.1; have k4 := (E.out.env.nth 0 rfl).2.1; have k5 := (E.out.env.nth 0 rfl).2.2; have k6 := (E.out.env.nth 1 rfl).2.1; have k7 := (E.out.env.nth 1 rfl).2.2; have y0 := (E.out.env.nth 0 rfl).1; have y1 := (E.out.env.nth 1 rfl).1; have y2 := E.out.twoA.1; have y3 := E.out.twoA.2)
        | (go_at_call 53; (with_reducible refine (cM.out _ (E.out.drew).cal).mono ?_); rintro rr w5 ⟨rfl, hp⟩; have E' := Lib.hid ((E.out.drew).putc hp); clear E hp; clear k1 k2 k3 z1 z2 k4 k5 k6 k7 y0 y1 y2 y3; have E := E'; clear E'; have k1 := (E.out.env.blocks (w.heap.size, #[.pointer (some ⟨pb, 0, none⟩)]) (by simp)).1.pc; obtain ⟨k2, k3⟩ := (E.out.env.blocks (w2.heap.size, #[.float .f64 tl, .float .f64 th]) (by simp)).1.two; have z1 := (E.out.env.blocks (w.heap.size, #[.pointer (some ⟨pb, 0, none⟩)]) (by simp)).1.1; have z2 := (E.out.env.blocks (w2.heap.size, #[.float .f64 tl, .float .f64 th]) (by simp)).1.1; have k4 := (E.out.env.nth 0 rfl).2.1; have k5 := (E.out.env.nth 0 rfl).2.2; have k6 := (E.out.env.nth 1 rfl).2.1; have k7 := (E.out.env.nth 1 rfl).2.2; have y0 := (E.out.env.nth 0 rfl).1; have y1 := (E.out.env.nth 1 rfl).1; have y2 := E.out.twoA.1; have y3 := E.out.twoA.2)
        | (go_at_call 53; (with_reducible refine (cM.out _ ((E.out.made _ _)).cal).mono ?_); rintro rr w5 ⟨rfl, hp⟩; have zp := z1; have zq := z2; have E' := Lib.hid (((E.out.made _ _)).putc hp); clear E hp; clear k1 k2 k3 z1 z2 k4 k5 k6 k7 y0 y1 y2 y3; have E := E'; clear E'; have k1 := (E.out.env.blocks (w.heap.size, #[.pointer (some ⟨pb, 0, none⟩)]) (by simp)).1.pc; obtain ⟨k2, k3⟩ := (E.out.env.blocks (w2.heap.size, #[.float .f64 tl, .float .f64 th]) (by simp)).1.two; have z1 := (E.out.env.blocks (w.heap.size, #[.pointer (some ⟨pb, 0, none⟩)]) (by simp)).1.1; have z2 := (E.out.env.blocks (w2.heap.size, #[.float .f64 tl, .float .f64 th]) (by simp)).1.1; have k4 := (E.out.env.nth 0 rfl).2.1; have k5 := (E.out.env.nth 0 rfl).2.2; have k6 := (E.out.env.nth 1 rfl).2.1; have k7 := (E.out.env.nth 1 rfl).2.2; have y0 := (E.out.env.nth 0 rfl).1; have y1 := (E.out.env.nth 1 rfl).1; have y2 := E.out.twoA.1; have y3 := E.out.twoA.2)
        | (go_at_call 53; (with_reducible refine (cM.out _ ((E.out.made _ _).drew).cal).mono ?_); rintro rr w5 ⟨rfl, hp⟩; have zp := z1; have zq := z2; have E' := Lib.hid (((E.out.made _ _).drew).putc hp); clear E hp; clear k1 k2 k3 z1 z2 k4 k5 k6 k7 y0 y1 y2 y3; have E := E'; clear E'; have k1 := (E.out.env.blocks (w.heap.size, #[.pointer (some ⟨pb, 0, none⟩)]) (by simp)).1.pc; obtain ⟨k2, k3⟩ := (E.out.env.blocks (w2.heap.size, #[.float .f64 tl, .float .f64 th]) (by simp)).1.two; have z1 := (E.out.env.blocks (w.heap.size, #[.pointer (some ⟨pb, 0, none⟩)]) (by simp)).1.1; have z2 := (E.out.env.blocks (w2.heap.size, #[.float .f64 tl, .float .f64 th]) (by simp)).1.1; have k4 := (E.out.env.nth 0 rfl).2.1; have k5 := (E.out.env.nth 0 rfl).2.2; have k6 := (E.out.env.nth 1 rfl).2.1; have k7 := (E.out.env.nth 1 rfl).2.2; have y0 := (E.out.env.nth 0 rfl).1; have y1 := (E.out.env.nth 1 rfl).1; have y2 := E.out.twoA.1; have y3 := E.out.twoA.2)
        | (go_at_call 53; (with_reducible refine (cM.out _ (((E.out.made _ _).made _ _)).cal).mono ?_); rintro rr w5 ⟨rfl, hp⟩; have zp := z1; have zq := z2; have E' := Lib.hid ((((E.out.made _ _).made _ _)).putc hp); (try simp only [World.size_alloc] at E' zp zq); clear E hp; clear k1 k2 k3 z1 z2 k4 k5 k6 k7 y0 y1 y2 y3; have E := E'; clear E'; have k1 := (E.out.env.blocks (w.heap.size, #[.pointer (some ⟨pb, 0, none⟩)]) (by simp)).1.pc; obtain ⟨k2, k3⟩ := (E.out.env.blocks (w2.heap.size, #[.float .f64 tl, .float .f64 th]) (by simp)).1.two; have z1 := (E.out.env.blocks (w.heap.size, #[.pointer (some ⟨pb, 0, none⟩)]) (by simp)).1.1; have z2 := (E.out.env.blocks (w2.heap.size, #[.float .f64 tl, .float .f64 th]) (by simp)).1.1; have k4 := (E.out.env.nth 0 rfl).2.1; have k5 := (E.out.env.nth 0 rfl).2.2; have k6 := (E.out.env.nth 1 rfl).2.1; have k7 := (E.out.env.nth 1 rfl).2.2; have y0 := (E.out.env.nth 0 rfl).1; have y1 := (E.out.env.nth 1 rfl).1; have y2 := E.out.twoA.1; have y3 := E.out.twoA.2)
        | (go_at_call 53; (with_reducible refine (cM.out _ (((E.out.made _ _).made _ _).drew).cal).mono ?_); rintro rr w5 ⟨rfl, hp⟩; have zp := z1; have zq := z2; have E' := Lib.hid ((((E.out.made _ _).made _ _).drew).putc hp); (try simp only [World.size_alloc] at E' zp zq); clear E hp; clear k1 k2 k3 z1 z2 k4 k5 k6 k7 y0 y1 y2 y3; have E := E'; clear E'; have k1 := (E.out.env.blocks (w.heap.size, #[.pointer (some ⟨pb, 0, none⟩)]) (by simp)).1.pc; obtain ⟨k2, k3⟩ := (E.out.env.blocks (w2.heap.size, #[.float .f64 tl, .float .f64 th]) (by simp)).1.two; have z1 := (E.out.env.blocks (w.heap.size, #[.pointer (some ⟨pb, 0, none⟩)]) (by simp)).1.1; have z2 := (E.out.env.blocks (w2.heap.size, #[.float .f64 tl, .float .f64 th]) (by simp)).1.1; have k4 := (E.out.env.nth 0 rfl).2.1; have k5 := (E.out.env.nth 0 rfl).2.2; have k6 := (E.out.env.nth 1 rfl).2.1; have k7 := (E.out.env.nth 1 rfl).2.2; have y0 := (E.out.env.nth 0 rfl).1; have y1 := (E.out.env.nth 1 rfl).1; have y2 := E.out.twoA.1; have y3 := E.out.twoA.2)
        | (go_at_call 129; (with_reducible refine (c19.out _ (E.out).cal).mono ?_); rintro rr w5 ⟨rfl, hp⟩; have E' := Lib.hid ((E.out).putc hp); clear E hp; clear k1 k2 k3 z1 z2 k4 k5 k6 k7 y0 y1 y2 y3; have E := E'; clear E'; have k1 := (E.out.env.blocks (w.heap.size, #[.pointer (some ⟨pb, 0, none⟩)]) (by simp)).1.pc; obtain ⟨k2, k3⟩ := (E.out.env.blocks (w2.heap.size, #[.float .f64 tl, .float .f64 th]) (by simp)).1.two; have z1 := (E.out.env.blocks (w.heap.size, #[.pointer (some ⟨pb, 0, none⟩)]) (by simp)).1.1; have z2 := (E.out.env.blocks (w2.heap.size, #[.float .f64 tl, .float .f64 th]) (by simp)).1.1; have k4 := (E.out.env.nth 0 rfl).2.1; have k5 := (E.out.env.nth 0 rfl).2.2; have k6 := (E.out.env.nth 1 rfl).2.1; have k7 := (E.out.env.nth 1 rfl).2.2; have y0 := (E.out.env.nth 0 rfl).1; have y1 := (E.out.env.nth 1 rfl).1; have y2 := E.out.twoA.1; have y3 := E.out.twoA.2)
        | (go_at_call 129; (with_reducible refine (c19.out _ (E.out.drew).cal).mono ?_); rintro rr w5 ⟨rfl, hp⟩; have E' := Lib.hid ((E.out.drew).putc hp); clear E hp; clear k1 k2 k3 z1 z2 k4 k5 k6 k7 y0 y1 y2 y3; have E := E'; clear E'; have k1 := (E.out.env.blocks (w.heap.size, #[.pointer (some ⟨pb, 0, none⟩)]) (by simp)).1.pc; obtain ⟨k2, k3⟩ := (E.out.env.blocks (w2.heap.size, #[.float .f64 tl, .float .f64 th]) (by simp)).1.two; have z1 := (E.out.env.blocks (w.heap.size, #[.pointer (some ⟨pb, 0, none⟩)]) (by simp)).1.1; have z2 := (E.out.env.blocks (w2.heap.size, #[.float .f64 tl, .float .f64 th]) (by simp)).1.1; have k4 := (E.out.env.nth 0 rfl).2.1; have k5 := (E.out.env.nth 0 rfl).2.2; have k6 := (E.out.env.nth 1 rfl).2.1; have k7 := (E.out.env.nth 1 rfl).2.2; have y0 := (E.out.env.nth 0 rfl).1; have y1 := (E.out.env.nth 1 rfl).1; have y2 := E.out.twoA.1; have y3 := E.out.twoA.2)
        | (go_at_call 129; (with_reducible refine (c19.out _ ((E.out.made _ _)).cal).mono ?_); rintro rr w5 ⟨rfl, hp⟩; have zp := z1; have zq := z2; have E' := Lib.hid (((E.out.made _ _)).putc hp); clear E hp; clear k1 k2 k3 z1 z2 k4 k5 k6 k7 y0 y1 y2 y3; have E := E'; clear E'; have k1 := (E.out.env.blocks (w.heap.size, #[.pointer (some ⟨pb, 0, none⟩)]) (by simp)).1.pc; obtain ⟨k2, k3⟩ := (E.out.env.blocks (w2.heap.size, #[.float .f64 tl, .float .f64 th]) (by simp)).1.two; have z1 := (E.out.env.blocks (w.heap.size, #[.pointer (some ⟨pb, 0, none⟩)]) (by simp)).1.1; have z2 := (E.out.env.blocks (w2.heap.size, #[.float .f64 tl, .float .f64 th]) (by simp)).1.1; have k4 := (E.out.env.nth 0 rfl).2.1; have k5 := (E.out.env.nth 0 rfl).2.2; have k6 := (E.out.env.nth 1 rfl).2.1; have k7 := (E.out.env.nth 1 rfl).2.2; have y0 := (E.out.env.nth 0 rfl).1; have y1 := (E.out.env.nth 1 rfl).1; have y2 := E.out.twoA.1; have y3 := E.out.twoA.2)
        | (go_at_call 129; (with_reducible refine (c19.out _ ((E.out.made _ _).drew).cal).mono ?_); rintro rr w5 ⟨rfl, hp⟩; have zp := z1; have zq := z2; have E' := Lib.hid (((E.out.made _ _).drew).putc hp); clear E hp; clear k1 k2 k3 z1 z2 k4 k5 k6 k7 y0 y1 y2 y3; have E := E'; clear E'; have k1 := (E.out.env.blocks (w.heap.size, #[.pointer (some ⟨pb, 0, none⟩)]) (by simp)).1.pc; obtain ⟨k2, k3⟩ := (E.out.env.blocks (w2.heap.size, #[.float .f64 tl, .float .f64 th]) (by simp)).1.two; have z1 := (E.out.env.blocks (w.heap.size, #[.pointer (some ⟨pb, 0, none⟩)]) (by simp)).1.1; have z2 := (E.out.env.blocks (w2.heap.size, #[.float .f64 tl, .float .f64 th]) (by simp)).1.1; have k4 := (E.out.env.nth 0 rfl).2.1; have k5 := (E.out.env.nth 0 rfl).2.2; have k6 := (E.out.env.nth 1 rfl).2.1; have k7 := (E.out.env.nth 1 rfl).2.2; have y0 := (E.out.env.nth 0 rfl).1; have y1 := (E.out.env.nth 1 rfl).1; have y2 := E.out.twoA.1; have y3 := E.out.twoA.2)
        | (go_at_call 129; (with_reducible refine (c19.out _ (((E.out.made _ _).made _ _)).cal).mono ?_); rintro rr w5 ⟨rfl, hp⟩; have zp := z1; have zq := z2; have E' := Lib.hid ((((E.out.made _ _).made _ _)).putc hp); (try simp only [World.size_alloc] at E' zp zq); clear E hp; clear k1 k2 k3 z1 z2 k4 k5 k6 k7 y0 y1 y2 y3; have E := E'; clear E'; have k1 := (E.out.env.blocks (w.heap.size, #[.pointer (some ⟨pb, 0, none⟩)]) (by simp)).1.pc; obtain ⟨k2, k3⟩ := (E.out.env.blocks (w2.heap.size, #[.float .f64 tl, .float .f64 th]) (by simp)).1.two; have z1 := (E.out.env.blocks (w.heap.size, #[.pointer (some ⟨pb, 0, none⟩)]) (by simp)).1.1; have z2 := (E.out.env.blocks (w2.heap.size, #[.float .f64 tl, .float .f64 th]) (by simp)).1.1; have k4 := (E.out.env.nth 0 rfl).2.1; have k5 := (E.out.env.nth 0 rfl).2.2; have k6 := (E.out.env.nth 1 rfl).2.1; have k7 := (E.out.env.nth 1 rfl).2.2; have y0 := (E.out.env.nth 0 rfl).1; have y1 := (E.out.env.nth 1 rfl).1; have y2 := E.out.twoA.1; have y3 := E.out.twoA.2)
        | (go_at_call 129; (with_reducible refine (c19.out _ (((E.out.made _ _).made _ _).drew).cal).mono ?_); rintro rr w5 ⟨rfl, hp⟩; have zp := z1; have zq := z2; have E' := Lib.hid ((((E.out.made _ _).made _ _).drew).putc hp); (try simp only [World.size_alloc] at E' zp zq); clear E hp; clear k1 k2 k3 z1 z2 k4 k5 k6 k7 y0 y1 y2 y3; have E := E'; clear E'; have k1 := (E.out.env.blocks (w.heap.size, #[.pointer (some ⟨pb, 0, none⟩)]) (by simp)).1.pc; obtain ⟨k2, k3⟩ := (E.out.env.blocks (w2.heap.size, #[.float .f64 tl, .float .f64 th]) (by simp)).1.two; have z1 := (E.out.env.blocks (w.heap.size, #[.pointer (some ⟨pb, 0, none⟩)]) (by simp)).1.1; have z2 := (E.out.env.blocks (w2.heap.size, #[.float .f64 tl, .float .f64 th]) (by simp)).1.1; have k4 := (E.out.env.nth 0 rfl).2.1; have k5 := (E.out.env.nth 0 rfl).2.2; have k6 := (E.out.env.nth 1 rfl).2.1; have k7 := (E.out.env.nth 1 rfl).2.2; have y0 := (E.out.env.nth 0 rfl).1; have y1 := (E.out.env.nth 1 rfl).1; have y2 := E.out.twoA.1; have y3 := E.out.twoA.2))
    all_goals (go_wp2_with fail; go_meet)
    all_goals first | exact KeptTwo.both E.out | exact KeptTwo.both' E.out | exact KeptTwo.one E.out | exact KeptTwo.one' E.out | exact KeptTwo.two E.out | exact KeptTwo.two' E.out
  case rest =>
    obtain ⟨w3, rfl⟩ : ∃ x : World, x = wc := ⟨_, rfl⟩
    obtain ⟨sp, kp, rfl, rfl, hE⟩ := hcut
    clear k1 k2 k3 z1 z2 k4 k5 k6 k7 y0 y1 y2 y3
    clear E
    have E := Lib.hid hE
    clear hE c20 cM c19
    have np : pb ≠ sp := (E.out.env.blocks (sp, #[.float .f64 sl, .float .f64 sh]) (by simp)).2
    have nk : pb ≠ kp := (E.out.env.blocks (kp, #[.float .f64 kl, .float .f64 kh]) (by simp)).2
    go_upto_region 5 with fail
    replace E : Hid (EnvL w pb [(w3.heap.size, #[.func (.func 130) #[] #[.pointer (some ⟨sp, 0, none⟩), .pointer (some ⟨kp, 0, none⟩)], .func (.func 131) #[] #[.pointer (some ⟨kp, 0, none⟩), .pointer (some ⟨w.heap.size, 0, none⟩), .pointer (some ⟨sp, 0, none⟩)], .func (.func 132) #[] #[.pointer (some ⟨w.heap.size, 0, none⟩), .pointer (some ⟨sp, 0, none⟩), .pointer (some ⟨kp, 0, none⟩)], .func (.func 133) #[] #[.pointer (some ⟨w.heap.size, 0, none⟩), .pointer (some ⟨kp, 0, none⟩), .pointer (some ⟨sp, 0, none⟩)]]), (sp, #[.float .f64 sl, .float .f64 sh]), (kp, #[.float .f64 kl, .float .f64 kh]), (w2.heap.size, #[.float .f64 tl, .float .f64 th]), (w.heap.size + 1 + 1, #[.float .f64 0, .float .f64 0]), (w.heap.size + 1, #[.float .f64 0, .float .f64 0]), (w.heap.size, #[.pointer (some ⟨pb, 0, none⟩)])] (w3.alloc (.cells #[.func (.func 130) #[] #[.pointer (some ⟨sp, 0, none⟩), .pointer (some ⟨kp, 0, none⟩)], .func (.func 131) #[] #[.pointer (some ⟨kp, 0, none⟩), .pointer (some ⟨w.heap.size, 0, none⟩), .pointer (some ⟨sp, 0, none⟩)], .func (.func 132) #[] #[.pointer (some ⟨w.heap.size, 0, none⟩), .pointer (some ⟨sp, 0, none⟩), .pointer (some ⟨kp, 0, none⟩)], .func (.func 133) #[] #[.pointer (some ⟨w.heap.size, 0, none⟩), .pointer (some ⟨kp, 0, none⟩), .pointer (some ⟨sp, 0, none⟩)]] 120))) := Lib.hid (E.out.made #[.func (.func 130) #[] #[.pointer (some ⟨sp, 0, none⟩), .pointer (some ⟨kp, 0, none⟩)], .func (.func 131) #[] #[.pointer (some ⟨kp, 0, none⟩), .pointer (some ⟨w.heap.size, 0, none⟩), .pointer (some ⟨sp, 0, none⟩)], .func (.func 132) #[] #[.pointer (some ⟨w.heap.size, 0, none⟩), .pointer (some ⟨sp, 0, none⟩), .pointer (some ⟨kp, 0, none⟩)], .func (.func 133) #[] #[.pointer (some ⟨w.heap.size, 0, none⟩), .pointer (some ⟨kp, 0, none⟩), .pointer (some ⟨sp, 0, none⟩)]] 120)
    rcases hR.out with ⟨hj', rfl, rfl, rfl, rfl⟩ | ⟨rfl, rfl, rfl, rfl, rfl⟩ | ⟨rfl, rfl, rfl, rfl, rfl⟩ | ⟨rfl, rfl, rfl, rfl, rfl⟩
    · clear hR
      rcases hj' with rfl | rfl
      · clear hj
        have ca := (E.out.env.nth 0 rfl).2.1
        go_wp2_with fail
        clear ca
        ((with_reducible refine (lit1 sl sh kl kh pb w.heap.size sp kp _ E.out.cal (E.out.env.blocks (w.heap.size, #[.pointer (some ⟨pb, 0, none⟩)]) (by simp)).1 (E.out.env.blocks (sp, #[.float .f64 sl, .float .f64 sh]) (by simp)).1 (E.out.env.blocks (kp, #[.float .f64 kl, .float .f64 kh]) (by simp)).1 n1 np nk).mono ?_); rintro rr w6 ⟨rfl, hp⟩; replace E := Lib.hid (E.out.putc hp); clear hp)
        have q1 := (E.out.env.blocks (w.heap.size + 1, #[.float .f64 0, .float .f64 0]) (by simp)).1.2.1
        have q2 := (E.out.env.blocks (w.heap.size + 1, #[.float .f64 0, .float .f64 0]) (by simp)).1.2.2
        have q3 := (E.out.env.blocks (w.heap.size + 1 + 1, #[.float .f64 0, .float .f64 0]) (by simp)).1.2.1
        have q4 := (E.out.env.blocks (w.heap.size + 1 + 1, #[.float .f64 0, .float .f64 0]) (by simp)).1.2.2
        have E2 := Lib.hid (E.out.env.set2 (E.out.env.blocks (w.heap.size + 1, #[.float .f64 0, .float .f64 0]) (by simp)).1 (E.out.env.blocks (w.heap.size + 1, #[.float .f64 0, .float .f64 0]) (by simp)).2 (by omega) (.float .f64 sl) (.float .f64 sh) [(w.heap.size + 1, #[.float .f64 sl, .float .f64 sh]), (w.heap.size + 1 + 1, #[.float .f64 0, .float .f64 0])] (by simp))
        clear E
        have E := Lib.hid (E2.out.set2 (E2.out.nth 1 rfl) (E2.out.ne 1 rfl) (by omega) (.float .f64 kl) (.float .f64 kh) [(w.heap.size + 1, #[.float .f64 sl, .float .f64 sh]), (w.heap.size + 1 + 1, #[.float .f64 kl, .float .f64 kh])] (by simp))
        clear E2
        go_upto_region 6 with fail
        clear q1 q2 q3 q4
        replace E := Lib.hid E.out.drew
        obtain ⟨k1, k2⟩ := (E.out.nth 0 rfl).two
        obtain ⟨k3, k4⟩ := (E.out.nth 1 rfl).two
        refine wp_region_noPanic ?_
        refine tails_region (S := fun w' => w'.cell? ⟨w.heap.size + 1, 0, none⟩ = some (.float .f64 sl) ∧ w'.cell? ⟨w.heap.size + 1, 1, none⟩ = some (.float .f64 sh) ∧ w'.cell? ⟨w.heap.size + 1 + 1, 0, none⟩ = some (.float .f64 kl) ∧ w'.cell? ⟨w.heap.size + 1 + 1, 1, none⟩ = some (.float .f64 kh)) [4, 5] (by kernel_rfl) ?_ (fun hS => ?_)
        · exact ⟨k1, k2, k3, k4⟩
        refine tails_take (T := [4, 5]) (i := 0) (o := _) (x := ?_) rfl (by kernel_rfl) (by kernel_rfl) (by kernel_rfl) (by kernel_rfl) (fun _ _ _ h => h) (Or.inl ⟨by rfl, ?_⟩) (by assumption) ?_
        rotate_left; focus (intro w hSw; (try dsimp only at hSw); go_simp; first | done | with_reducible rfl)
        refine tails_take (T := [4, 5]) (i := 2) (o := _) (x := ?_) rfl (by kernel_rfl) (by kernel_rfl) (by kernel_rfl) (by kernel_rfl) (fun _ _ _ h => h) (Or.inl ⟨by rfl, ?_⟩) (by assumption) ?_
        rotate_left; focus (intro w hSw; (try dsimp only at hSw); go_simp; first | done | with_reducible rfl)
        refine tails_one (T := [4, 5]) (i := 1) (o := _) rfl (by kernel_rfl) (fun K hK => ?_)
        go_simp
        ((with_reducible refine (bS.out _).mono ?_); rintro rr w7 ⟨rfl, hb⟩; replace E := Lib.hid (E.out.below hb); clear hb k1 k2 k3 k4; obtain ⟨k1, k2⟩ := (E.out.nth 0 rfl).two; obtain ⟨k3, k4⟩ := (E.out.nth 1 rfl).two)
        try go_wp2_with fail
        refine hK.out _ _ (Or.inr ⟨k1, k2, k3, k4⟩) (fun hHeld => ?_)
        clear hK K hS
        have hS := hHeld.resolve_left (by decide)
        clear hHeld
        refine tails_one (T := [4, 5]) (i := 3) (o := _) rfl (by kernel_rfl) (fun K hK => ?_)
        go_simp
        ((with_reducible refine (bK.out _).mono ?_); rintro rr w7 ⟨rfl, hb⟩; replace E := Lib.hid (E.out.below hb); clear hb k1 k2 k3 k4; obtain ⟨k1, k2⟩ := (E.out.nth 0 rfl).two; obtain ⟨k3, k4⟩ := (E.out.nth 1 rfl).two)
        try go_wp2_with fail
        refine hK.out _ _ (Or.inr ⟨k1, k2, k3, k4⟩) (fun hHeld => ?_)
        clear hK K hS
        have hS := hHeld.resolve_left (by decide)
        clear hHeld
        clear k1 k2 k3 k4 hS
        refine tails_one (T := [4, 5]) (i := 4) (o := _) rfl (by kernel_rfl) (fun K hK => ?_)
        have kc := (E.out.nth 0 rfl).2.1
        have kf := (E.out.nth 0 rfl).2.2
        replace E := Lib.hid (E.out.set2 (E.out.nth 0 rfl) (E.out.ne 0 rfl) (by omega) (.float .f64 al) (.float .f64 ah) [(w.heap.size + 1, #[.float .f64 al, .float .f64 ah]), (w.heap.size + 1 + 1, #[.float .f64 kl, .float .f64 kh])] (by simp))
        go_simp
        refine hK.out _ _ (Or.inl (by decide)) (fun hHeld => ?_)
        clear hK K hHeld kc kf
        refine tails_one (T := [4, 5]) (i := 5) (o := _) rfl (by kernel_rfl) (fun K hK => ?_)
        have kc := (E.out.nth 1 rfl).2.1
        have kf := (E.out.nth 1 rfl).2.2
        replace E := Lib.hid (E.out.set2 (E.out.nth 1 rfl) (E.out.ne 1 rfl) (by omega) (.float .f64 bl) (.float .f64 bh) [(w.heap.size + 1, #[.float .f64 al, .float .f64 ah]), (w.heap.size + 1 + 1, #[.float .f64 bl, .float .f64 bh])] (by simp))
        go_simp
        refine hK.out _ _ (Or.inl (by decide)) (fun hHeld => ?_)
        clear hK K hHeld kc kf
        refine tails_done (by kernel_rfl) ?_ _
        refine NoPanic.normal ?_
        go_wp2
        have f1 := (E.out.nth 0 rfl).2.1
        have g1 := (E.out.nth 1 rfl).2.1
        exact bodyPost_ret (v := .tuple #[.agg #[.float .f64 al, .float .f64 ah], .agg #[.float .f64 bl, .float .f64 bh]]) (by simp [results, Try.results93, go_sem, f1, g1]) rfl ⟨rfl, E.out.put⟩
      · clear hj
        have ca := (E.out.env.nth 0 rfl).2.1
        go_wp2_with fail
        clear ca
        ((with_reducible refine (lit1 sl sh kl kh pb w.heap.size sp kp _ E.out.cal (E.out.env.blocks (w.heap.size, #[.pointer (some ⟨pb, 0, none⟩)]) (by simp)).1 (E.out.env.blocks (sp, #[.float .f64 sl, .float .f64 sh]) (by simp)).1 (E.out.env.blocks (kp, #[.float .f64 kl, .float .f64 kh]) (by simp)).1 n1 np nk).mono ?_); rintro rr w6 ⟨rfl, hp⟩; replace E := Lib.hid (E.out.putc hp); clear hp)
        have q1 := (E.out.env.blocks (w.heap.size + 1, #[.float .f64 0, .float .f64 0]) (by simp)).1.2.1
        have q2 := (E.out.env.blocks (w.heap.size + 1, #[.float .f64 0, .float .f64 0]) (by simp)).1.2.2
        have q3 := (E.out.env.blocks (w.heap.size + 1 + 1, #[.float .f64 0, .float .f64 0]) (by simp)).1.2.1
        have q4 := (E.out.env.blocks (w.heap.size + 1 + 1, #[.float .f64 0, .float .f64 0]) (by simp)).1.2.2
        have E2 := Lib.hid (E.out.env.set2 (E.out.env.blocks (w.heap.size + 1, #[.float .f64 0, .float .f64 0]) (by simp)).1 (E.out.env.blocks (w.heap.size + 1, #[.float .f64 0, .float .f64 0]) (by simp)).2 (by omega) (.float .f64 sl) (.float .f64 sh) [(w.heap.size + 1, #[.float .f64 sl, .float .f64 sh]), (w.heap.size + 1 + 1, #[.float .f64 0, .float .f64 0])] (by simp))
        clear E
        have E := Lib.hid (E2.out.set2 (E2.out.nth 1 rfl) (E2.out.ne 1 rfl) (by omega) (.float .f64 kl) (.float .f64 kh) [(w.heap.size + 1, #[.float .f64 sl, .float .f64 sh]), (w.heap.size + 1 + 1, #[.float .f64 kl, .float .f64 kh])] (by simp))
        clear E2
        go_upto_region 6 with fail
        clear q1 q2 q3 q4
        replace E := Lib.hid E.out.drew
        obtain ⟨k1, k2⟩ := (E.out.nth 0 rfl).two
        obtain ⟨k3, k4⟩ := (E.out.nth 1 rfl).two
        refine wp_region_noPanic ?_
        refine tails_region (S := fun w' => w'.cell? ⟨w.heap.size + 1, 0, none⟩ = some (.float .f64 sl) ∧ w'.cell? ⟨w.heap.size + 1, 1, none⟩ = some (.float .f64 sh) ∧ w'.cell? ⟨w.heap.size + 1 + 1, 0, none⟩ = some (.float .f64 kl) ∧ w'.cell? ⟨w.heap.size + 1 + 1, 1, none⟩ = some (.float .f64 kh)) [4, 5] (by kernel_rfl) ?_ (fun hS => ?_)
        · exact ⟨k1, k2, k3, k4⟩
        refine tails_take (T := [4, 5]) (i := 0) (o := _) (x := ?_) rfl (by kernel_rfl) (by kernel_rfl) (by kernel_rfl) (by kernel_rfl) (fun _ _ _ h => h) (Or.inl ⟨by rfl, ?_⟩) (by assumption) ?_
        rotate_left; focus (intro w hSw; (try dsimp only at hSw); go_simp; first | done | with_reducible rfl)
        refine tails_take (T := [4, 5]) (i := 2) (o := _) (x := ?_) rfl (by kernel_rfl) (by kernel_rfl) (by kernel_rfl) (by kernel_rfl) (fun _ _ _ h => h) (Or.inl ⟨by rfl, ?_⟩) (by assumption) ?_
        rotate_left; focus (intro w hSw; (try dsimp only at hSw); go_simp; first | done | with_reducible rfl)
        refine tails_one (T := [4, 5]) (i := 1) (o := _) rfl (by kernel_rfl) (fun K hK => ?_)
        go_simp
        ((with_reducible refine (bS.out _).mono ?_); rintro rr w7 ⟨rfl, hb⟩; replace E := Lib.hid (E.out.below hb); clear hb k1 k2 k3 k4; obtain ⟨k1, k2⟩ := (E.out.nth 0 rfl).two; obtain ⟨k3, k4⟩ := (E.out.nth 1 rfl).two)
        try go_wp2_with fail
        refine hK.out _ _ (Or.inr ⟨k1, k2, k3, k4⟩) (fun hHeld => ?_)
        clear hK K hS
        have hS := hHeld.resolve_left (by decide)
        clear hHeld
        refine tails_one (T := [4, 5]) (i := 3) (o := _) rfl (by kernel_rfl) (fun K hK => ?_)
        go_simp
        ((with_reducible refine (bK.out _).mono ?_); rintro rr w7 ⟨rfl, hb⟩; replace E := Lib.hid (E.out.below hb); clear hb k1 k2 k3 k4; obtain ⟨k1, k2⟩ := (E.out.nth 0 rfl).two; obtain ⟨k3, k4⟩ := (E.out.nth 1 rfl).two)
        try go_wp2_with fail
        refine hK.out _ _ (Or.inr ⟨k1, k2, k3, k4⟩) (fun hHeld => ?_)
        clear hK K hS
        have hS := hHeld.resolve_left (by decide)
        clear hHeld
        clear k1 k2 k3 k4 hS
        refine tails_one (T := [4, 5]) (i := 4) (o := _) rfl (by kernel_rfl) (fun K hK => ?_)
        have kc := (E.out.nth 0 rfl).2.1
        have kf := (E.out.nth 0 rfl).2.2
        replace E := Lib.hid (E.out.set2 (E.out.nth 0 rfl) (E.out.ne 0 rfl) (by omega) (.float .f64 al) (.float .f64 ah) [(w.heap.size + 1, #[.float .f64 al, .float .f64 ah]), (w.heap.size + 1 + 1, #[.float .f64 kl, .float .f64 kh])] (by simp))
        go_simp
        refine hK.out _ _ (Or.inl (by decide)) (fun hHeld => ?_)
        clear hK K hHeld kc kf
        refine tails_one (T := [4, 5]) (i := 5) (o := _) rfl (by kernel_rfl) (fun K hK => ?_)
        have kc := (E.out.nth 1 rfl).2.1
        have kf := (E.out.nth 1 rfl).2.2
        replace E := Lib.hid (E.out.set2 (E.out.nth 1 rfl) (E.out.ne 1 rfl) (by omega) (.float .f64 bl) (.float .f64 bh) [(w.heap.size + 1, #[.float .f64 al, .float .f64 ah]), (w.heap.size + 1 + 1, #[.float .f64 bl, .float .f64 bh])] (by simp))
        go_simp
        refine hK.out _ _ (Or.inl (by decide)) (fun hHeld => ?_)
        clear hK K hHeld kc kf
        refine tails_done (by kernel_rfl) ?_ _
        refine NoPanic.normal ?_
        go_wp2
        have f1 := (E.out.nth 0 rfl).2.1
        have g1 := (E.out.nth 1 rfl).2.1
        exact bodyPost_ret (v := .tuple #[.agg #[.float .f64 al, .float .f64 ah], .agg #[.float .f64 bl, .float .f64 bh]]) (by simp [results, Try.results93, go_sem, f1, g1]) rfl ⟨rfl, E.out.put⟩
    · clear hR hj
      have ca := (E.out.env.nth 0 rfl).2.1
      go_wp2_with fail
      clear ca
      ((with_reducible refine (lit2 sl sh kl kh xl xh pb w.heap.size sp kp _ E.out.cal (E.out.env.blocks (w.heap.size, #[.pointer (some ⟨pb, 0, none⟩)]) (by simp)).1 (E.out.env.blocks (sp, #[.float .f64 sl, .float .f64 sh]) (by simp)).1 (E.out.env.blocks (kp, #[.float .f64 kl, .float .f64 kh]) (by simp)).1 n1 np nk cNs).mono ?_); rintro rr w6 ⟨rfl, hp⟩; replace E := Lib.hid (E.out.putc hp); clear hp)
      have q1 := (E.out.env.blocks (w.heap.size + 1, #[.float .f64 0, .float .f64 0]) (by simp)).1.2.1
      have q2 := (E.out.env.blocks (w.heap.size + 1, #[.float .f64 0, .float .f64 0]) (by simp)).1.2.2
      have q3 := (E.out.env.blocks (w.heap.size + 1 + 1, #[.float .f64 0, .float .f64 0]) (by simp)).1.2.1
      have q4 := (E.out.env.blocks (w.heap.size + 1 + 1, #[.float .f64 0, .float .f64 0]) (by simp)).1.2.2
      have E2 := Lib.hid (E.out.env.set2 (E.out.env.blocks (w.heap.size + 1, #[.float .f64 0, .float .f64 0]) (by simp)).1 (E.out.env.blocks (w.heap.size + 1, #[.float .f64 0, .float .f64 0]) (by simp)).2 (by omega) (.float .f64 kl) (.float .f64 kh) [(w.heap.size + 1, #[.float .f64 kl, .float .f64 kh]), (w.heap.size + 1 + 1, #[.float .f64 0, .float .f64 0])] (by simp))
      clear E
      have E := Lib.hid (E2.out.set2 (E2.out.nth 1 rfl) (E2.out.ne 1 rfl) (by omega) (.float .f64 xl) (.float .f64 xh) [(w.heap.size + 1, #[.float .f64 kl, .float .f64 kh]), (w.heap.size + 1 + 1, #[.float .f64 xl, .float .f64 xh])] (by simp))
      clear E2
      go_upto_region 6 with fail
      clear q1 q2 q3 q4
      replace E := Lib.hid E.out.drew
      obtain ⟨k1, k2⟩ := (E.out.nth 0 rfl).two
      obtain ⟨k3, k4⟩ := (E.out.nth 1 rfl).two
      refine wp_region_noPanic ?_
      refine tails_region (S := fun w' => w'.cell? ⟨w.heap.size + 1, 0, none⟩ = some (.float .f64 kl) ∧ w'.cell? ⟨w.heap.size + 1, 1, none⟩ = some (.float .f64 kh) ∧ w'.cell? ⟨w.heap.size + 1 + 1, 0, none⟩ = some (.float .f64 xl) ∧ w'.cell? ⟨w.heap.size + 1 + 1, 1, none⟩ = some (.float .f64 xh)) [4, 5] (by kernel_rfl) ?_ (fun hS => ?_)
      · exact ⟨k1, k2, k3, k4⟩
      refine tails_take (T := [4, 5]) (i := 0) (o := _) (x := ?_) rfl (by kernel_rfl) (by kernel_rfl) (by kernel_rfl) (by kernel_rfl) (fun _ _ _ h => h) (Or.inl ⟨by rfl, ?_⟩) (by assumption) ?_
      rotate_left; focus (intro w hSw; (try dsimp only at hSw); go_simp; first | done | with_reducible rfl)
      refine tails_take (T := [4, 5]) (i := 2) (o := _) (x := ?_) rfl (by kernel_rfl) (by kernel_rfl) (by kernel_rfl) (by kernel_rfl) (fun _ _ _ h => h) (Or.inl ⟨by rfl, ?_⟩) (by assumption) ?_
      rotate_left; focus (intro w hSw; (try dsimp only at hSw); go_simp; first | done | with_reducible rfl)
      refine tails_one (T := [4, 5]) (i := 1) (o := _) rfl (by kernel_rfl) (fun K hK => ?_)
      go_simp
      ((with_reducible refine (bK.out _).mono ?_); rintro rr w7 ⟨rfl, hb⟩; replace E := Lib.hid (E.out.below hb); clear hb k1 k2 k3 k4; obtain ⟨k1, k2⟩ := (E.out.nth 0 rfl).two; obtain ⟨k3, k4⟩ := (E.out.nth 1 rfl).two)
      try go_wp2_with fail
      refine hK.out _ _ (Or.inr ⟨k1, k2, k3, k4⟩) (fun hHeld => ?_)
      clear hK K hS
      have hS := hHeld.resolve_left (by decide)
      clear hHeld
      refine tails_one (T := [4, 5]) (i := 3) (o := _) rfl (by kernel_rfl) (fun K hK => ?_)
      go_simp
      ((with_reducible refine (bX.out _).mono ?_); rintro rr w7 ⟨rfl, hb⟩; replace E := Lib.hid (E.out.below hb); clear hb k1 k2 k3 k4; obtain ⟨k1, k2⟩ := (E.out.nth 0 rfl).two; obtain ⟨k3, k4⟩ := (E.out.nth 1 rfl).two)
      try go_wp2_with fail
      refine hK.out _ _ (Or.inr ⟨k1, k2, k3, k4⟩) (fun hHeld => ?_)
      clear hK K hS
      have hS := hHeld.resolve_left (by decide)
      clear hHeld
      clear k1 k2 k3 k4 hS
      refine tails_one (T := [4, 5]) (i := 4) (o := _) rfl (by kernel_rfl) (fun K hK => ?_)
      have kc := (E.out.nth 0 rfl).2.1
      have kf := (E.out.nth 0 rfl).2.2
      replace E := Lib.hid (E.out.set2 (E.out.nth 0 rfl) (E.out.ne 0 rfl) (by omega) (.float .f64 al) (.float .f64 ah) [(w.heap.size + 1, #[.float .f64 al, .float .f64 ah]), (w.heap.size + 1 + 1, #[.float .f64 xl, .float .f64 xh])] (by simp))
      go_simp
      refine hK.out _ _ (Or.inl (by decide)) (fun hHeld => ?_)
      clear hK K hHeld kc kf
      refine tails_one (T := [4, 5]) (i := 5) (o := _) rfl (by kernel_rfl) (fun K hK => ?_)
      have kc := (E.out.nth 1 rfl).2.1
      have kf := (E.out.nth 1 rfl).2.2
      replace E := Lib.hid (E.out.set2 (E.out.nth 1 rfl) (E.out.ne 1 rfl) (by omega) (.float .f64 bl) (.float .f64 bh) [(w.heap.size + 1, #[.float .f64 al, .float .f64 ah]), (w.heap.size + 1 + 1, #[.float .f64 bl, .float .f64 bh])] (by simp))
      go_simp
      refine hK.out _ _ (Or.inl (by decide)) (fun hHeld => ?_)
      clear hK K hHeld kc kf
      refine tails_done (by kernel_rfl) ?_ _
      refine NoPanic.normal ?_
      go_wp2
      have f1 := (E.out.nth 0 rfl).2.1
      have g1 := (E.out.nth 1 rfl).2.1
      exact bodyPost_ret (v := .tuple #[.agg #[.float .f64 al, .float .f64 ah], .agg #[.float .f64 bl, .float .f64 bh]]) (by simp [results, Try.results93, go_sem, f1, g1]) rfl ⟨rfl, E.out.put⟩
    · clear hR hj
      have ca := (E.out.env.nth 0 rfl).2.1
      go_wp2_with fail
      clear ca
      ((with_reducible refine (lit3 sl sh kl kh xl xh yl yh pb w.heap.size sp kp _ E.out.cal (E.out.env.blocks (w.heap.size, #[.pointer (some ⟨pb, 0, none⟩)]) (by simp)).1 (E.out.env.blocks (sp, #[.float .f64 sl, .float .f64 sh]) (by simp)).1 (E.out.env.blocks (kp, #[.float .f64 kl, .float .f64 kh]) (by simp)).1 n1 np nk cNs cNk).mono ?_); rintro rr w6 ⟨rfl, hp⟩; replace E := Lib.hid (E.out.putc hp); clear hp)
      have q1 := (E.out.env.blocks (w.heap.size + 1, #[.float .f64 0, .float .f64 0]) (by simp)).1.2.1
      have q2 := (E.out.env.blocks (w.heap.size + 1, #[.float .f64 0, .float .f64 0]) (by simp)).1.2.2
      have q3 := (E.out.env.blocks (w.heap.size + 1 + 1, #[.float .f64 0, .float .f64 0]) (by simp)).1.2.1
      have q4 := (E.out.env.blocks (w.heap.size + 1 + 1, #[.float .f64 0, .float .f64 0]) (by simp)).1.2.2
      have E2 := Lib.hid (E.out.env.set2 (E.out.env.blocks (w.heap.size + 1, #[.float .f64 0, .float .f64 0]) (by simp)).1 (E.out.env.blocks (w.heap.size + 1, #[.float .f64 0, .float .f64 0]) (by simp)).2 (by omega) (.float .f64 xl) (.float .f64 xh) [(w.heap.size + 1, #[.float .f64 xl, .float .f64 xh]), (w.heap.size + 1 + 1, #[.float .f64 0, .float .f64 0])] (by simp))
      clear E
      have E := Lib.hid (E2.out.set2 (E2.out.nth 1 rfl) (E2.out.ne 1 rfl) (by omega) (.float .f64 yl) (.float .f64 yh) [(w.heap.size + 1, #[.float .f64 xl, .float .f64 xh]), (w.heap.size + 1 + 1, #[.float .f64 yl, .float .f64 yh])] (by simp))
      clear E2
      go_upto_region 6 with fail
      clear q1 q2 q3 q4
      replace E := Lib.hid E.out.drew
      obtain ⟨k1, k2⟩ := (E.out.nth 0 rfl).two
      obtain ⟨k3, k4⟩ := (E.out.nth 1 rfl).two
      refine wp_region_noPanic ?_
      refine tails_region (S := fun w' => w'.cell? ⟨w.heap.size + 1, 0, none⟩ = some (.float .f64 xl) ∧ w'.cell? ⟨w.heap.size + 1, 1, none⟩ = some (.float .f64 xh) ∧ w'.cell? ⟨w.heap.size + 1 + 1, 0, none⟩ = some (.float .f64 yl) ∧ w'.cell? ⟨w.heap.size + 1 + 1, 1, none⟩ = some (.float .f64 yh)) [4, 5] (by kernel_rfl) ?_ (fun hS => ?_)
      · exact ⟨k1, k2, k3, k4⟩
      refine tails_take (T := [4, 5]) (i := 0) (o := _) (x := ?_) rfl (by kernel_rfl) (by kernel_rfl) (by kernel_rfl) (by kernel_rfl) (fun _ _ _ h => h) (Or.inl ⟨by rfl, ?_⟩) (by assumption) ?_
      rotate_left; focus (intro w hSw; (try dsimp only at hSw); go_simp; first | done | with_reducible rfl)
      refine tails_take (T := [4, 5]) (i := 2) (o := _) (x := ?_) rfl (by kernel_rfl) (by kernel_rfl) (by kernel_rfl) (by kernel_rfl) (fun _ _ _ h => h) (Or.inl ⟨by rfl, ?_⟩) (by assumption) ?_
      rotate_left; focus (intro w hSw; (try dsimp only at hSw); go_simp; first | done | with_reducible rfl)
      refine tails_one (T := [4, 5]) (i := 1) (o := _) rfl (by kernel_rfl) (fun K hK => ?_)
      go_simp
      ((with_reducible refine (bX.out _).mono ?_); rintro rr w7 ⟨rfl, hb⟩; replace E := Lib.hid (E.out.below hb); clear hb k1 k2 k3 k4; obtain ⟨k1, k2⟩ := (E.out.nth 0 rfl).two; obtain ⟨k3, k4⟩ := (E.out.nth 1 rfl).two)
      try go_wp2_with fail
      refine hK.out _ _ (Or.inr ⟨k1, k2, k3, k4⟩) (fun hHeld => ?_)
      clear hK K hS
      have hS := hHeld.resolve_left (by decide)
      clear hHeld
      refine tails_one (T := [4, 5]) (i := 3) (o := _) rfl (by kernel_rfl) (fun K hK => ?_)
      go_simp
      ((with_reducible refine (bY.out _).mono ?_); rintro rr w7 ⟨rfl, hb⟩; replace E := Lib.hid (E.out.below hb); clear hb k1 k2 k3 k4; obtain ⟨k1, k2⟩ := (E.out.nth 0 rfl).two; obtain ⟨k3, k4⟩ := (E.out.nth 1 rfl).two)
      try go_wp2_with fail
      refine hK.out _ _ (Or.inr ⟨k1, k2, k3, k4⟩) (fun hHeld => ?_)
      clear hK K hS
      have hS := hHeld.resolve_left (by decide)
      clear hHeld
      clear k1 k2 k3 k4 hS
      refine tails_one (T := [4, 5]) (i := 4) (o := _) rfl (by kernel_rfl) (fun K hK => ?_)
      have kc := (E.out.nth 0 rfl).2.1
      have kf := (E.out.nth 0 rfl).2.2
      replace E := Lib.hid (E.out.set2 (E.out.nth 0 rfl) (E.out.ne 0 rfl) (by omega) (.float .f64 al) (.float .f64 ah) [(w.heap.size + 1, #[.float .f64 al, .float .f64 ah]), (w.heap.size + 1 + 1, #[.float .f64 yl, .float .f64 yh])] (by simp))
      go_simp
      refine hK.out _ _ (Or.inl (by decide)) (fun hHeld => ?_)
      clear hK K hHeld kc kf
      refine tails_one (T := [4, 5]) (i := 5) (o := _) rfl (by kernel_rfl) (fun K hK => ?_)
      have kc := (E.out.nth 1 rfl).2.1
      have kf := (E.out.nth 1 rfl).2.2
      replace E := Lib.hid (E.out.set2 (E.out.nth 1 rfl) (E.out.ne 1 rfl) (by omega) (.float .f64 bl) (.float .f64 bh) [(w.heap.size + 1, #[.float .f64 al, .float .f64 ah]), (w.heap.size + 1 + 1, #[.float .f64 bl, .float .f64 bh])] (by simp))
      go_simp
      refine hK.out _ _ (Or.inl (by decide)) (fun hHeld => ?_)
      clear hK K hHeld kc kf
      refine tails_done (by kernel_rfl) ?_ _
      refine NoPanic.normal ?_
      go_wp2
      have f1 := (E.out.nth 0 rfl).2.1
      have g1 := (E.out.nth 1 rfl).2.1
      exact bodyPost_ret (v := .tuple #[.agg #[.float .f64 al, .float .f64 ah], .agg #[.float .f64 bl, .float .f64 bh]]) (by simp [results, Try.results93, go_sem, f1, g1]) rfl ⟨rfl, E.out.put⟩
    · clear hR hj
      have ca := (E.out.env.nth 0 rfl).2.1
      go_wp2_with fail
      clear ca
      ((with_reducible refine (lit4 sl sh kl kh yl yh pb w.heap.size sp kp _ E.out.cal (E.out.env.blocks (w.heap.size, #[.pointer (some ⟨pb, 0, none⟩)]) (by simp)).1 (E.out.env.blocks (sp, #[.float .f64 sl, .float .f64 sh]) (by simp)).1 (E.out.env.blocks (kp, #[.float .f64 kl, .float .f64 kh]) (by simp)).1 n1 np nk cNk).mono ?_); rintro rr w6 ⟨rfl, hp⟩; replace E := Lib.hid (E.out.putc hp); clear hp)
      have q1 := (E.out.env.blocks (w.heap.size + 1, #[.float .f64 0, .float .f64 0]) (by simp)).1.2.1
      have q2 := (E.out.env.blocks (w.heap.size + 1, #[.float .f64 0, .float .f64 0]) (by simp)).1.2.2
      have q3 := (E.out.env.blocks (w.heap.size + 1 + 1, #[.float .f64 0, .float .f64 0]) (by simp)).1.2.1
      have q4 := (E.out.env.blocks (w.heap.size + 1 + 1, #[.float .f64 0, .float .f64 0]) (by simp)).1.2.2
      have E2 := Lib.hid (E.out.env.set2 (E.out.env.blocks (w.heap.size + 1, #[.float .f64 0, .float .f64 0]) (by simp)).1 (E.out.env.blocks (w.heap.size + 1, #[.float .f64 0, .float .f64 0]) (by simp)).2 (by omega) (.float .f64 yl) (.float .f64 yh) [(w.heap.size + 1, #[.float .f64 yl, .float .f64 yh]), (w.heap.size + 1 + 1, #[.float .f64 0, .float .f64 0])] (by simp))
      clear E
      have E := Lib.hid (E2.out.set2 (E2.out.nth 1 rfl) (E2.out.ne 1 rfl) (by omega) (.float .f64 sl) (.float .f64 sh) [(w.heap.size + 1, #[.float .f64 yl, .float .f64 yh]), (w.heap.size + 1 + 1, #[.float .f64 sl, .float .f64 sh])] (by simp))
      clear E2
      go_upto_region 6 with fail
      clear q1 q2 q3 q4
      replace E := Lib.hid E.out.drew
      obtain ⟨k1, k2⟩ := (E.out.nth 0 rfl).two
      obtain ⟨k3, k4⟩ := (E.out.nth 1 rfl).two
      refine wp_region_noPanic ?_
      refine tails_region (S := fun w' => w'.cell? ⟨w.heap.size + 1, 0, none⟩ = some (.float .f64 yl) ∧ w'.cell? ⟨w.heap.size + 1, 1, none⟩ = some (.float .f64 yh) ∧ w'.cell? ⟨w.heap.size + 1 + 1, 0, none⟩ = some (.float .f64 sl) ∧ w'.cell? ⟨w.heap.size + 1 + 1, 1, none⟩ = some (.float .f64 sh)) [4, 5] (by kernel_rfl) ?_ (fun hS => ?_)
      · exact ⟨k1, k2, k3, k4⟩
      refine tails_take (T := [4, 5]) (i := 0) (o := _) (x := ?_) rfl (by kernel_rfl) (by kernel_rfl) (by kernel_rfl) (by kernel_rfl) (fun _ _ _ h => h) (Or.inl ⟨by rfl, ?_⟩) (by assumption) ?_
      rotate_left; focus (intro w hSw; (try dsimp only at hSw); go_simp; first | done | with_reducible rfl)
      refine tails_take (T := [4, 5]) (i := 2) (o := _) (x := ?_) rfl (by kernel_rfl) (by kernel_rfl) (by kernel_rfl) (by kernel_rfl) (fun _ _ _ h => h) (Or.inl ⟨by rfl, ?_⟩) (by assumption) ?_
      rotate_left; focus (intro w hSw; (try dsimp only at hSw); go_simp; first | done | with_reducible rfl)
      refine tails_one (T := [4, 5]) (i := 1) (o := _) rfl (by kernel_rfl) (fun K hK => ?_)
      go_simp
      ((with_reducible refine (bY.out _).mono ?_); rintro rr w7 ⟨rfl, hb⟩; replace E := Lib.hid (E.out.below hb); clear hb k1 k2 k3 k4; obtain ⟨k1, k2⟩ := (E.out.nth 0 rfl).two; obtain ⟨k3, k4⟩ := (E.out.nth 1 rfl).two)
      try go_wp2_with fail
      refine hK.out _ _ (Or.inr ⟨k1, k2, k3, k4⟩) (fun hHeld => ?_)
      clear hK K hS
      have hS := hHeld.resolve_left (by decide)
      clear hHeld
      refine tails_one (T := [4, 5]) (i := 3) (o := _) rfl (by kernel_rfl) (fun K hK => ?_)
      go_simp
      ((with_reducible refine (bS.out _).mono ?_); rintro rr w7 ⟨rfl, hb⟩; replace E := Lib.hid (E.out.below hb); clear hb k1 k2 k3 k4; obtain ⟨k1, k2⟩ := (E.out.nth 0 rfl).two; obtain ⟨k3, k4⟩ := (E.out.nth 1 rfl).two)
      try go_wp2_with fail
      refine hK.out _ _ (Or.inr ⟨k1, k2, k3, k4⟩) (fun hHeld => ?_)
      clear hK K hS
      have hS := hHeld.resolve_left (by decide)
      clear hHeld
      clear k1 k2 k3 k4 hS
      refine tails_one (T := [4, 5]) (i := 4) (o := _) rfl (by kernel_rfl) (fun K hK => ?_)
      have kc := (E.out.nth 0 rfl).2.1
      have kf := (E.out.nth 0 rfl).2.2
      replace E := Lib.hid (E.out.set2 (E.out.nth 0 rfl) (E.out.ne 0 rfl) (by omega) (.float .f64 al) (.float .f64 ah) [(w.heap.size + 1, #[.float .f64 al, .float .f64 ah]), (w.heap.size + 1 + 1, #[.float .f64 sl, .float .f64 sh])] (by simp))
      go_simp
      refine hK.out _ _ (Or.inl (by decide)) (fun hHeld => ?_)
      clear hK K hHeld kc kf
      refine tails_one (T := [4, 5]) (i := 5) (o := _) rfl (by kernel_rfl) (fun K hK => ?_)
      have kc := (E.out.nth 1 rfl).2.1
      have kf := (E.out.nth 1 rfl).2.2
      replace E := Lib.hid (E.out.set2 (E.out.nth 1 rfl) (E.out.ne 1 rfl) (by omega) (.float .f64 bl) (.float .f64 bh) [(w.heap.size + 1, #[.float .f64 al, .float .f64 ah]), (w.heap.size + 1 + 1, #[.float .f64 bl, .float .f64 bh])] (by simp))
      go_simp
      refine hK.out _ _ (Or.inl (by decide)) (fun hHeld => ?_)
      clear hK K hHeld kc kf
      refine tails_done (by kernel_rfl) ?_ _
      refine NoPanic.normal ?_
      go_wp2
      have f1 := (E.out.nth 0 rfl).2.1
      have g1 := (E.out.nth 1 rfl).2.1
      exact bodyPost_ret (v := .tuple #[.agg #[.float .f64 al, .float .f64 ah], .agg #[.float .f64 bl, .float .f64 bh]]) (by simp [results, Try.results93, go_sem, f1, g1]) rfl ⟨rfl, E.out.put⟩

end Go.Proofs.Ytpgbcdplicodmaa

namespace Go.Proofs.Ytpgbcdplicodmaa
open Go.RowKit
attribute [local go_sem] run_store_float

/-- What lies in memory. -/
def MemIs (w : World) (l : List (Nat × Array Value)) (wx : World) : Prop := Mem w l wx
abbrev CalcH (al ah bl bh rl rh : Nat) : Prop := ∀ w : World, Calls Try.prog 59 #[.agg #[.float .f64 al, .float .f64 ah], .agg #[.float .f64 bl, .float .f64 bh]] w fun r w' => r = .returned (.agg #[.float .f64 rl, .float .f64 rh]) ∧ Below w.heap.size w w'
abbrev CalcO (x sl sh kl kh : Nat) : Prop := ∀ (pb : Nat) (v : World), Has1 v (pb, #[.int .i64 0]) → Calls Try.prog 93 #[.pointer (some ⟨pb, 0, none⟩), .float .f64 x] v fun r w' => r = .returned (.tuple #[.agg #[.float .f64 sl, .float .f64 sh], .agg #[.float .f64 kl, .float .f64 kh]]) ∧ Put ⟨pb, 0, none⟩ (.int .i64 0) v w'
abbrev CalcHas (al ah x : Nat) (b : Bool) : Prop := ∀ w : World, Calls Try.prog 46 #[.agg #[.float .f64 al, .float .f64 ah], .float .f64 x] w fun r w' => r = .returned (.bool b) ∧ Below w.heap.size w w'

set_option maxRecDepth 100000 in
set_option maxHeartbeats 8000000 in
theorem sin_walk (al ah sl sh kl kh tl th vl vh pl ph ql qh xl xh yl yh gl gh il ih jl jh : Nat) (b1 b2 b3 : Bool) (w : World)
    (cR : Hid (∀ w, Calls Try.prog 34 #[.agg #[.float .f64 al, .float .f64 ah]] w fun r w' => r = .returned (.bool true) ∧ Below w.heap.size w w'))
    (o1 : (FloatKind.f64.format.order al 0 == some Ordering.lt) = false) (o2 : (FloatKind.f64.format.order ah 4607182418800017408 == some Ordering.gt) = false)
    (cO1 : Hid (CalcO al sl sh kl kh)) (cO2 : Hid (CalcO ah tl th vl vh)) (cS : Hid (CalcH sl sh tl th pl ph)) (cK : Hid (CalcH kl kh vl vh ql qh))
    (h1 : Hid (CalcHas al ah 4598175219545276416 b1)) (h2 : Hid (CalcHas al ah 4604930618986332160 b2)) (h3 : Hid (CalcHas al ah 4602678819172646912 b3))
    (cN1 : Hid (∀ pb, CalcN pb 4607182418800017408)) (cN2 : Hid (∀ pb, CalcN pb 13830554455654793216))
    (c1 : Hid (CalcH pl ph 4607182418800017408 4607182418800017408 gl gh)) (c2 : Hid (CalcH xl xh 13830554455654793216 13830554455654793216 il ih)) (c3 : Hid (CalcH ql qh 13830554455654793216 13830554455654793216 jl jh))
    (e1 : Hid (xl = (cond b1 gl pl) ∧ xh = (cond b1 gh ph))) (e2 : Hid (yl = (cond b2 il xl) ∧ yh = (cond b2 ih xh))) (zl zh : Nat) (e3 : Hid (zl = (cond b3 jl ql) ∧ zh = (cond b3 jh qh))) :
    Calls Try.prog 41 #[.agg #[.float .f64 al, .float .f64 ah]] w fun r w' => r = .returned (.tuple #[.agg #[.float .f64 yl, .float .f64 yh], .agg #[.float .f64 zl, .float .f64 zh], .int .i64 0]) ∧ Below w.heap.size w w' := by
  have M : Hid (Mem w [(w.heap.size + 1 + 1, #[.float .f64 0, .float .f64 0]), (w.heap.size + 1, #[.float .f64 0, .float .f64 0]), (w.heap.size, #[.float .f64 al, .float .f64 ah])] (((w.alloc (.cells #[.float .f64 al, .float .f64 ah] 39)).alloc (.cells #[.float .f64 0, .float .f64 0] 39)).alloc (.cells #[.float .f64 0, .float .f64 0] 39))) := by
    have h := (((Mem.nil w).made #[.float .f64 al, .float .f64 ah] 39).made #[.float .f64 0, .float .f64 0] 39).made #[.float .f64 0, .float .f64 0] 39
    simp only [World.size_alloc] at h
    exact Lib.hid h
  obtain ⟨k1, k2⟩ := (M.out.nth 2 rfl).two
  go_enter Try.func41, Try.ntmps41
  go_wp2_with fail
  refine (cR.out _).mono ?_
  rintro r w1 ⟨rfl, hb⟩
  have M0 := Lib.hid (M.out.below hb)
  have z1 : w.heap.size + 1 + 1 < w1.heap.size := M0.out.size 0 rfl
  clear hb k1 k2 cR M
  obtain ⟨k1, k2⟩ := (M0.out.blocks (w.heap.size, #[.float .f64 al, .float .f64 ah]) (by simp)).two
  go_upto_region 4 with fail
  have M := Lib.hid (M0.out.made #[.int .i64 0] 45)
  clear k1 k2 M0 o1 o2
  obtain ⟨k1, k2⟩ := (M.out.blocks (w.heap.size, #[.float .f64 al, .float .f64 ah]) (by simp)).two
  go_wp2_with fail
  refine (cO1.out _ _ (M.out.nth 0 rfl)).mono ?_
  rintro r w2 ⟨rfl, hb⟩
  have z2 : w1.heap.size < w2.heap.size := (M.out.put hb (by omega) (by simp; omega) : Mem w [(w1.heap.size, #[.int .i64 0]), (w.heap.size + 1 + 1, #[.float .f64 0, .float .f64 0]), (w.heap.size + 1, #[.float .f64 0, .float .f64 0]), (w.heap.size, #[.float .f64 al, .float .f64 ah])] w2).size 0 rfl
  have M0 := Lib.hid ((M.out.put hb (by omega) (by simp; omega) : Mem w [(w1.heap.size, #[.int .i64 0]), (w.heap.size + 1 + 1, #[.float .f64 0, .float .f64 0]), (w.heap.size + 1, #[.float .f64 0, .float .f64 0]), (w.heap.size, #[.float .f64 al, .float .f64 ah])] w2))
  clear hb k1 k2 M cO1
  have M : Hid (Mem w [(w2.heap.size + 1, #[.float .f64 kl, .float .f64 kh]), (w2.heap.size, #[.float .f64 sl, .float .f64 sh]), (w1.heap.size, #[.int .i64 0]), (w.heap.size + 1 + 1, #[.float .f64 0, .float .f64 0]), (w.heap.size + 1, #[.float .f64 0, .float .f64 0]), (w.heap.size, #[.float .f64 al, .float .f64 ah])] ((w2.alloc (.cells #[.float .f64 sl, .float .f64 sh] 39)).alloc (.cells #[.float .f64 kl, .float .f64 kh] 39))) := by
    have h := (M0.out.made #[.float .f64 sl, .float .f64 sh] 39).made #[.float .f64 kl, .float .f64 kh] 39
    simp only [World.size_alloc] at h
    exact Lib.hid h
  clear M0
  obtain ⟨k1, k2⟩ := (M.out.blocks (w.heap.size, #[.float .f64 al, .float .f64 ah]) (by simp)).two
  go_wp2_with fail
  refine (cO2.out _ _ (M.out.blocks (w1.heap.size, #[.int .i64 0]) (by simp))).mono ?_
  rintro r w3 ⟨rfl, hb⟩
  have M0 : Hid (Mem w [(w1.heap.size, #[.int .i64 0]), (w2.heap.size, #[.float .f64 sl, .float .f64 sh]), (w2.heap.size + 1, #[.float .f64 kl, .float .f64 kh]), (w.heap.size + 1 + 1, #[.float .f64 0, .float .f64 0]), (w.heap.size + 1, #[.float .f64 0, .float .f64 0]), (w.heap.size, #[.float .f64 al, .float .f64 ah])] w3) := Lib.hid ((M.out.sub (by simp) : Mem w [(w1.heap.size, #[.int .i64 0]), (w2.heap.size, #[.float .f64 sl, .float .f64 sh]), (w2.heap.size + 1, #[.float .f64 kl, .float .f64 kh]), (w.heap.size + 1 + 1, #[.float .f64 0, .float .f64 0]), (w.heap.size + 1, #[.float .f64 0, .float .f64 0]), (w.heap.size, #[.float .f64 al, .float .f64 ah])] _).put hb (by omega) (by simp; omega))
  have z3 : w2.heap.size + 1 < w3.heap.size := M0.out.size 2 rfl
  clear hb k1 k2 M cO2
  have M : Hid (Mem w [(w1.heap.size, #[.int .i64 0]), (w2.heap.size, #[.float .f64 sl, .float .f64 sh]), (w2.heap.size + 1, #[.float .f64 kl, .float .f64 kh]), (w3.heap.size, #[.float .f64 tl, .float .f64 th]), (w3.heap.size + 1, #[.float .f64 vl, .float .f64 vh]), (w.heap.size + 1 + 1, #[.float .f64 0, .float .f64 0]), (w.heap.size + 1, #[.float .f64 0, .float .f64 0]), (w.heap.size, #[.float .f64 al, .float .f64 ah])] ((w3.alloc (.cells #[.float .f64 tl, .float .f64 th] 39)).alloc (.cells #[.float .f64 vl, .float .f64 vh] 39))) := by
    have h := (M0.out.made #[.float .f64 tl, .float .f64 th] 39).made #[.float .f64 vl, .float .f64 vh] 39
    simp only [World.size_alloc] at h
    exact Lib.hid (h.sub (by simp))
  clear M0
  go_upto_region 6 with fail
  revert M
  generalize ((w3.alloc (.cells #[.float .f64 tl, .float .f64 th] 39)).alloc (.cells #[.float .f64 vl, .float .f64 vh] 39)) = W
  intro M
  replace M := Lib.hid M.out.drew
  obtain ⟨k1, k2⟩ := (M.out.blocks (w2.heap.size, #[.float .f64 sl, .float .f64 sh]) (by simp)).two; obtain ⟨k3, k4⟩ := (M.out.blocks (w3.heap.size, #[.float .f64 tl, .float .f64 th]) (by simp)).two; obtain ⟨k5, k6⟩ := (M.out.blocks (w2.heap.size + 1, #[.float .f64 kl, .float .f64 kh]) (by simp)).two; obtain ⟨k7, k8⟩ := (M.out.blocks (w3.heap.size + 1, #[.float .f64 vl, .float .f64 vh]) (by simp)).two
  refine wp_region_noPanic ?_
  refine tails_region (S := fun w' => w'.cell? ⟨w2.heap.size, 0, none⟩ = some (.float .f64 sl) ∧ w'.cell? ⟨w2.heap.size, 1, none⟩ = some (.float .f64 sh) ∧ w'.cell? ⟨w3.heap.size, 0, none⟩ = some (.float .f64 tl) ∧ w'.cell? ⟨w3.heap.size, 1, none⟩ = some (.float .f64 th) ∧ w'.cell? ⟨w2.heap.size + 1, 0, none⟩ = some (.float .f64 kl) ∧ w'.cell? ⟨w2.heap.size + 1, 1, none⟩ = some (.float .f64 kh) ∧ w'.cell? ⟨w3.heap.size + 1, 0, none⟩ = some (.float .f64 vl) ∧ w'.cell? ⟨w3.heap.size + 1, 1, none⟩ = some (.float .f64 vh)) [6, 7] (by kernel_rfl) ?_ (fun hS => ?_)
  · exact ⟨k1, k2, k3, k4, k5, k6, k7, k8⟩
  refine tails_take (T := [6, 7]) (i := 0) (o := _) (x := ?_) rfl (by kernel_rfl) (by kernel_rfl) (by kernel_rfl) (by kernel_rfl) (fun _ _ _ h => h) (Or.inl ⟨by rfl, ?_⟩) (by assumption) ?_
  rotate_left; focus (intro w hSw; (try dsimp only at hSw); go_simp; first | done | with_reducible rfl)
  refine tails_take (T := [6, 7]) (i := 1) (o := _) (x := ?_) rfl (by kernel_rfl) (by kernel_rfl) (by kernel_rfl) (by kernel_rfl) (fun _ _ _ h => h) (Or.inl ⟨by rfl, ?_⟩) (by assumption) ?_
  rotate_left; focus (intro w hSw; (try dsimp only at hSw); go_simp; first | done | with_reducible rfl)
  refine tails_take (T := [6, 7]) (i := 3) (o := _) (x := ?_) rfl (by kernel_rfl) (by kernel_rfl) (by kernel_rfl) (by kernel_rfl) (fun _ _ _ h => h) (Or.inl ⟨by rfl, ?_⟩) (by assumption) ?_
  rotate_left; focus (intro w hSw; (try dsimp only at hSw); go_simp; first | done | with_reducible rfl)
  refine tails_take (T := [6, 7]) (i := 4) (o := _) (x := ?_) rfl (by kernel_rfl) (by kernel_rfl) (by kernel_rfl) (by kernel_rfl) (fun _ _ _ h => h) (Or.inl ⟨by rfl, ?_⟩) (by assumption) ?_
  rotate_left; focus (intro w hSw; (try dsimp only at hSw); go_simp; first | done | with_reducible rfl)
  refine tails_one (T := [6, 7]) (i := 2) (o := _) rfl (by kernel_rfl) (fun K hK => ?_)
  go_simp
  ((with_reducible refine (cS.out _).mono ?_); rintro rr w7 ⟨rfl, hb⟩; replace M := Lib.hid (M.out.below hb); clear hb k1 k2 k3 k4 k5 k6 k7 k8; obtain ⟨k1, k2⟩ := (M.out.blocks (w2.heap.size, #[.float .f64 sl, .float .f64 sh]) (by simp)).two; obtain ⟨k3, k4⟩ := (M.out.blocks (w3.heap.size, #[.float .f64 tl, .float .f64 th]) (by simp)).two; obtain ⟨k5, k6⟩ := (M.out.blocks (w2.heap.size + 1, #[.float .f64 kl, .float .f64 kh]) (by simp)).two; obtain ⟨k7, k8⟩ := (M.out.blocks (w3.heap.size + 1, #[.float .f64 vl, .float .f64 vh]) (by simp)).two)
  try go_wp2_with fail
  refine hK.out _ _ (Or.inr ⟨k1, k2, k3, k4, k5, k6, k7, k8⟩) (fun hHeld => ?_)
  clear hK K hS
  have hS := hHeld.resolve_left (by decide)
  clear hHeld
  refine tails_one (T := [6, 7]) (i := 5) (o := _) rfl (by kernel_rfl) (fun K hK => ?_)
  go_simp
  ((with_reducible refine (cK.out _).mono ?_); rintro rr w7 ⟨rfl, hb⟩; replace M := Lib.hid (M.out.below hb); clear hb k1 k2 k3 k4 k5 k6 k7 k8; obtain ⟨k1, k2⟩ := (M.out.blocks (w2.heap.size, #[.float .f64 sl, .float .f64 sh]) (by simp)).two; obtain ⟨k3, k4⟩ := (M.out.blocks (w3.heap.size, #[.float .f64 tl, .float .f64 th]) (by simp)).two; obtain ⟨k5, k6⟩ := (M.out.blocks (w2.heap.size + 1, #[.float .f64 kl, .float .f64 kh]) (by simp)).two; obtain ⟨k7, k8⟩ := (M.out.blocks (w3.heap.size + 1, #[.float .f64 vl, .float .f64 vh]) (by simp)).two)
  try go_wp2_with fail
  refine hK.out _ _ (Or.inr ⟨k1, k2, k3, k4, k5, k6, k7, k8⟩) (fun hHeld => ?_)
  clear hK K hS
  have hS := hHeld.resolve_left (by decide)
  clear hHeld
  clear k1 k2 k3 k4 k5 k6 k7 k8 hS
  refine tails_one (T := [6, 7]) (i := 6) (o := _) rfl (by kernel_rfl) (fun K hK => ?_)
  have kc := (M.out.blocks (w2.heap.size, #[.float .f64 sl, .float .f64 sh]) (by simp)).2.1
  have kf := (M.out.blocks (w2.heap.size, #[.float .f64 sl, .float .f64 sh]) (by simp)).2.2
  replace M := Lib.hid (M.out.sets (M.out.blocks (w2.heap.size, #[.float .f64 sl, .float .f64 sh]) (by simp)) (.float .f64 pl) (.float .f64 ph) (by omega) [(w1.heap.size, #[.int .i64 0]), (w2.heap.size, #[.float .f64 pl, .float .f64 ph]), (w2.heap.size + 1, #[.float .f64 kl, .float .f64 kh]), (w3.heap.size, #[.float .f64 tl, .float .f64 th]), (w3.heap.size + 1, #[.float .f64 vl, .float .f64 vh]), (w.heap.size + 1 + 1, #[.float .f64 0, .float .f64 0]), (w.heap.size + 1, #[.float .f64 0, .float .f64 0]), (w.heap.size, #[.float .f64 al, .float .f64 ah])] (by simp; omega))
  go_simp
  refine hK.out _ _ (Or.inl (by decide)) (fun hHeld => ?_)
  clear hK K hHeld kc kf
  refine tails_one (T := [6, 7]) (i := 7) (o := _) rfl (by kernel_rfl) (fun K hK => ?_)
  have kc := (M.out.blocks (w2.heap.size + 1, #[.float .f64 kl, .float .f64 kh]) (by simp)).2.1
  have kf := (M.out.blocks (w2.heap.size + 1, #[.float .f64 kl, .float .f64 kh]) (by simp)).2.2
  replace M := Lib.hid (M.out.sets (M.out.blocks (w2.heap.size + 1, #[.float .f64 kl, .float .f64 kh]) (by simp)) (.float .f64 ql) (.float .f64 qh) (by omega) [(w1.heap.size, #[.int .i64 0]), (w2.heap.size, #[.float .f64 pl, .float .f64 ph]), (w2.heap.size + 1, #[.float .f64 ql, .float .f64 qh]), (w3.heap.size, #[.float .f64 tl, .float .f64 th]), (w3.heap.size + 1, #[.float .f64 vl, .float .f64 vh]), (w.heap.size + 1 + 1, #[.float .f64 0, .float .f64 0]), (w.heap.size + 1, #[.float .f64 0, .float .f64 0]), (w.heap.size, #[.float .f64 al, .float .f64 ah])] (by simp; omega))
  go_simp
  refine hK.out _ _ (Or.inl (by decide)) (fun hHeld => ?_)
  clear hK K hHeld kc kf
  refine tails_done (by kernel_rfl) ?_ _
  refine NoPanic.normal ?_
  replace M : Hid (Mem w [(w1.heap.size, #[.int .i64 0]), (w2.heap.size, #[.float .f64 pl, .float .f64 ph]), (w2.heap.size + 1, #[.float .f64 ql, .float .f64 qh]), (w.heap.size + 1 + 1, #[.float .f64 0, .float .f64 0]), (w.heap.size + 1, #[.float .f64 0, .float .f64 0]), (w.heap.size, #[.float .f64 al, .float .f64 ah])] _) := Lib.hid (M.out.sub (by simp))
  obtain ⟨k1, k2⟩ := (M.out.blocks (w.heap.size, #[.float .f64 al, .float .f64 ah]) (by simp)).two
  go_wp2_with fail
  refine (h1.out _).mono ?_
  rintro r w5 ⟨rfl, hb⟩
  replace M := Lib.hid (M.out.below hb)
  clear hb k1 k2
  go_upto_if 44 with (fail)
  go_cut [] (MemIs w [(w1.heap.size, #[.int .i64 0]), (w2.heap.size, #[.float .f64 xl, .float .f64 xh]), (w2.heap.size + 1, #[.float .f64 ql, .float .f64 qh]), (w.heap.size + 1 + 1, #[.float .f64 0, .float .f64 0]), (w.heap.size + 1, #[.float .f64 0, .float .f64 0]), (w.heap.size, #[.float .f64 al, .float .f64 ah])])
  case first =>
    cases b1
    · obtain ⟨d1, d2⟩ : xl = pl ∧ xh = ph := e1.out
      subst d1 d2
      go_wp2_with fail
      go_meet
      exact M.out
    · obtain ⟨d1, d2⟩ : xl = gl ∧ xh = gh := e1.out
      subst d1 d2
      go_upto_region 8 with fail
      replace M := Lib.hid M.out.drew
      obtain ⟨k1, k2⟩ := (M.out.blocks (w2.heap.size, #[.float .f64 pl, .float .f64 ph]) (by simp)).two
      refine wp_region_noPanic ?_
      refine tails_region (S := fun w' => w'.cell? ⟨w2.heap.size, 0, none⟩ = some (.float .f64 pl) ∧ w'.cell? ⟨w2.heap.size, 1, none⟩ = some (.float .f64 ph)) [3] (by kernel_rfl) ?_ (fun hS => ?_)
      · exact ⟨k1, k2⟩
      refine tails_take (T := [3]) (i := 0) (o := _) (x := ?_) rfl (by kernel_rfl) (by kernel_rfl) (by kernel_rfl) (by kernel_rfl) (fun _ _ _ h => h) (Or.inl ⟨by rfl, ?_⟩) (by assumption) ?_
      rotate_left; focus (intro w hSw; (try dsimp only at hSw); go_simp; first | done | with_reducible rfl)
      refine tails_one (T := [3]) (i := 1) (o := _) rfl (by kernel_rfl) (fun K hK => ?_)
      go_simp
      ((with_reducible refine (cN1.out _ _ (M.out.blocks (w1.heap.size, #[.int .i64 0]) (by simp))).mono ?_); rintro rr w7 ⟨rfl, hb⟩; replace M := Lib.hid (M.out.put hb (by omega) (by simp; omega)); clear hb k1 k2; obtain ⟨k1, k2⟩ := (M.out.blocks (w2.heap.size, #[.float .f64 pl, .float .f64 ph]) (by simp)).two)
      try go_wp2_with fail
      refine hK.out _ _ (Or.inr ⟨k1, k2⟩) (fun hHeld => ?_)
      clear hK K hS
      have hS := hHeld.resolve_left (by decide)
      clear hHeld
      refine tails_one (T := [3]) (i := 2) (o := _) rfl (by kernel_rfl) (fun K hK => ?_)
      go_simp
      ((with_reducible refine (c1.out _).mono ?_); rintro rr w7 ⟨rfl, hb⟩; replace M := Lib.hid (M.out.below hb); clear hb k1 k2; obtain ⟨k1, k2⟩ := (M.out.blocks (w2.heap.size, #[.float .f64 pl, .float .f64 ph]) (by simp)).two)
      try go_wp2_with fail
      refine hK.out _ _ (Or.inr ⟨k1, k2⟩) (fun hHeld => ?_)
      clear hK K hS
      have hS := hHeld.resolve_left (by decide)
      clear hHeld
      clear k1 k2 hS
      refine tails_one (T := [3]) (i := 3) (o := _) rfl (by kernel_rfl) (fun K hK => ?_)
      have kc := (M.out.blocks (w2.heap.size, #[.float .f64 pl, .float .f64 ph]) (by simp)).2.1
      have kf := (M.out.blocks (w2.heap.size, #[.float .f64 pl, .float .f64 ph]) (by simp)).2.2
      replace M := Lib.hid (M.out.sets (M.out.blocks (w2.heap.size, #[.float .f64 pl, .float .f64 ph]) (by simp)) (.float .f64 xl) (.float .f64 xh) (by omega) [(w1.heap.size, #[.int .i64 0]), (w2.heap.size, #[.float .f64 xl, .float .f64 xh]), (w2.heap.size + 1, #[.float .f64 ql, .float .f64 qh]), (w.heap.size + 1 + 1, #[.float .f64 0, .float .f64 0]), (w.heap.size + 1, #[.float .f64 0, .float .f64 0]), (w.heap.size, #[.float .f64 al, .float .f64 ah])] (by simp; omega))
      go_simp
      refine hK.out _ _ (Or.inl (by decide)) (fun hHeld => ?_)
      clear hK K hHeld kc kf
      refine tails_done (by kernel_rfl) ?_ _
      refine NoPanic.normal ?_
      go_wp2_with fail
      go_meet
      exact M.out
  case rest =>
    obtain ⟨w4, rfl⟩ : ∃ x : World, x = wc := ⟨_, rfl⟩
    have M' := hcut
    unfold MemIs at M'
    clear M
    have M := Lib.hid M'
    clear M' hcut
    obtain ⟨k1, k2⟩ := (M.out.blocks (w.heap.size, #[.float .f64 al, .float .f64 ah]) (by simp)).two
    go_wp2_with fail
    refine (h2.out _).mono ?_
    rintro r w5 ⟨rfl, hb⟩
    replace M := Lib.hid (M.out.below hb)
    clear hb k1 k2
    go_upto_if 49 with (fail)
    go_cut [] (MemIs w [(w1.heap.size, #[.int .i64 0]), (w2.heap.size, #[.float .f64 yl, .float .f64 yh]), (w2.heap.size + 1, #[.float .f64 ql, .float .f64 qh]), (w.heap.size + 1 + 1, #[.float .f64 0, .float .f64 0]), (w.heap.size + 1, #[.float .f64 0, .float .f64 0]), (w.heap.size, #[.float .f64 al, .float .f64 ah])])
    case first =>
      cases b2
      · obtain ⟨d1, d2⟩ : yl = xl ∧ yh = xh := e2.out
        subst d1 d2
        go_wp2_with fail
        go_meet
        exact M.out
      · obtain ⟨d1, d2⟩ : yl = il ∧ yh = ih := e2.out
        subst d1 d2
        go_upto_region 10 with fail
        replace M := Lib.hid M.out.drew
        obtain ⟨k1, k2⟩ := (M.out.blocks (w2.heap.size, #[.float .f64 xl, .float .f64 xh]) (by simp)).two
        refine wp_region_noPanic ?_
        refine tails_region (S := fun w' => w'.cell? ⟨w2.heap.size, 0, none⟩ = some (.float .f64 xl) ∧ w'.cell? ⟨w2.heap.size, 1, none⟩ = some (.float .f64 xh)) [3] (by kernel_rfl) ?_ (fun hS => ?_)
        · exact ⟨k1, k2⟩
        refine tails_take (T := [3]) (i := 0) (o := _) (x := ?_) rfl (by kernel_rfl) (by kernel_rfl) (by kernel_rfl) (by kernel_rfl) (fun _ _ _ h => h) (Or.inl ⟨by rfl, ?_⟩) (by assumption) ?_
        rotate_left; focus (intro w hSw; (try dsimp only at hSw); go_simp; first | done | with_reducible rfl)
        refine tails_one (T := [3]) (i := 1) (o := _) rfl (by kernel_rfl) (fun K hK => ?_)
        go_simp
        ((with_reducible refine (cN2.out _ _ (M.out.blocks (w1.heap.size, #[.int .i64 0]) (by simp))).mono ?_); rintro rr w7 ⟨rfl, hb⟩; replace M := Lib.hid (M.out.put hb (by omega) (by simp; omega)); clear hb k1 k2; obtain ⟨k1, k2⟩ := (M.out.blocks (w2.heap.size, #[.float .f64 xl, .float .f64 xh]) (by simp)).two)
        try go_wp2_with fail
        refine hK.out _ _ (Or.inr ⟨k1, k2⟩) (fun hHeld => ?_)
        clear hK K hS
        have hS := hHeld.resolve_left (by decide)
        clear hHeld
        refine tails_one (T := [3]) (i := 2) (o := _) rfl (by kernel_rfl) (fun K hK => ?_)
        go_simp
        ((with_reducible refine (c2.out _).mono ?_); rintro rr w7 ⟨rfl, hb⟩; replace M := Lib.hid (M.out.below hb); clear hb k1 k2; obtain ⟨k1, k2⟩ := (M.out.blocks (w2.heap.size, #[.float .f64 xl, .float .f64 xh]) (by simp)).two)
        try go_wp2_with fail
        refine hK.out _ _ (Or.inr ⟨k1, k2⟩) (fun hHeld => ?_)
        clear hK K hS
        have hS := hHeld.resolve_left (by decide)
        clear hHeld
        clear k1 k2 hS
        refine tails_one (T := [3]) (i := 3) (o := _) rfl (by kernel_rfl) (fun K hK => ?_)
        have kc := (M.out.blocks (w2.heap.size, #[.float .f64 xl, .float .f64 xh]) (by simp)).2.1
        have kf := (M.out.blocks (w2.heap.size, #[.float .f64 xl, .float .f64 xh]) (by simp)).2.2
        replace M := Lib.hid (M.out.sets (M.out.blocks (w2.heap.size, #[.float .f64 xl, .float .f64 xh]) (by simp)) (.float .f64 yl) (.float .f64 yh) (by omega) [(w1.heap.size, #[.int .i64 0]), (w2.heap.size, #[.float .f64 yl, .float .f64 yh]), (w2.heap.size + 1, #[.float .f64 ql, .float .f64 qh]), (w.heap.size + 1 + 1, #[.float .f64 0, .float .f64 0]), (w.heap.size + 1, #[.float .f64 0, .float .f64 0]), (w.heap.size, #[.float .f64 al, .float .f64 ah])] (by simp; omega))
        go_simp
        refine hK.out _ _ (Or.inl (by decide)) (fun hHeld => ?_)
        clear hK K hHeld kc kf
        refine tails_done (by kernel_rfl) ?_ _
        refine NoPanic.normal ?_
        go_wp2_with fail
        go_meet
        exact M.out
    case rest =>
      obtain ⟨w4, rfl⟩ : ∃ x : World, x = wc := ⟨_, rfl⟩
      have M' := hcut
      unfold MemIs at M'
      clear M
      have M := Lib.hid M'
      clear M' hcut
      obtain ⟨k1, k2⟩ := (M.out.blocks (w.heap.size, #[.float .f64 al, .float .f64 ah]) (by simp)).two
      go_wp2_with fail
      refine (h3.out _).mono ?_
      rintro r w5 ⟨rfl, hb⟩
      replace M := Lib.hid (M.out.below hb)
      clear hb k1 k2
      go_upto_if 54 with (fail)
      go_cut [] (MemIs w [(w1.heap.size, #[.int .i64 0]), (w2.heap.size, #[.float .f64 yl, .float .f64 yh]), (w2.heap.size + 1, #[.float .f64 zl, .float .f64 zh]), (w.heap.size + 1 + 1, #[.float .f64 0, .float .f64 0]), (w.heap.size + 1, #[.float .f64 0, .float .f64 0]), (w.heap.size, #[.float .f64 al, .float .f64 ah])])
      case first =>
        cases b3
        · obtain ⟨d1, d2⟩ : zl = ql ∧ zh = qh := e3.out
          subst d1 d2
          go_wp2_with fail
          go_meet
          exact M.out
        · obtain ⟨d1, d2⟩ : zl = jl ∧ zh = jh := e3.out
          subst d1 d2
          go_upto_region 12 with fail
          replace M := Lib.hid M.out.drew
          obtain ⟨k1, k2⟩ := (M.out.blocks (w2.heap.size + 1, #[.float .f64 ql, .float .f64 qh]) (by simp)).two
          refine wp_region_noPanic ?_
          refine tails_region (S := fun w' => w'.cell? ⟨w2.heap.size + 1, 0, none⟩ = some (.float .f64 ql) ∧ w'.cell? ⟨w2.heap.size + 1, 1, none⟩ = some (.float .f64 qh)) [3] (by kernel_rfl) ?_ (fun hS => ?_)
          · exact ⟨k1, k2⟩
          refine tails_take (T := [3]) (i := 0) (o := _) (x := ?_) rfl (by kernel_rfl) (by kernel_rfl) (by kernel_rfl) (by kernel_rfl) (fun _ _ _ h => h) (Or.inl ⟨by rfl, ?_⟩) (by assumption) ?_
          rotate_left; focus (intro w hSw; (try dsimp only at hSw); go_simp; first | done | with_reducible rfl)
          refine tails_one (T := [3]) (i := 1) (o := _) rfl (by kernel_rfl) (fun K hK => ?_)
          go_simp
          ((with_reducible refine (cN2.out _ _ (M.out.blocks (w1.heap.size, #[.int .i64 0]) (by simp))).mono ?_); rintro rr w7 ⟨rfl, hb⟩; replace M := Lib.hid (M.out.put hb (by omega) (by simp; omega)); clear hb k1 k2; obtain ⟨k1, k2⟩ := (M.out.blocks (w2.heap.size + 1, #[.float .f64 ql, .float .f64 qh]) (by simp)).two)
          try go_wp2_with fail
          refine hK.out _ _ (Or.inr ⟨k1, k2⟩) (fun hHeld => ?_)
          clear hK K hS
          have hS := hHeld.resolve_left (by decide)
          clear hHeld
          refine tails_one (T := [3]) (i := 2) (o := _) rfl (by kernel_rfl) (fun K hK => ?_)
          go_simp
          ((with_reducible refine (c3.out _).mono ?_); rintro rr w7 ⟨rfl, hb⟩; replace M := Lib.hid (M.out.below hb); clear hb k1 k2; obtain ⟨k1, k2⟩ := (M.out.blocks (w2.heap.size + 1, #[.float .f64 ql, .float .f64 qh]) (by simp)).two)
          try go_wp2_with fail
          refine hK.out _ _ (Or.inr ⟨k1, k2⟩) (fun hHeld => ?_)
          clear hK K hS
          have hS := hHeld.resolve_left (by decide)
          clear hHeld
          clear k1 k2 hS
          refine tails_one (T := [3]) (i := 3) (o := _) rfl (by kernel_rfl) (fun K hK => ?_)
          have kc := (M.out.blocks (w2.heap.size + 1, #[.float .f64 ql, .float .f64 qh]) (by simp)).2.1
          have kf := (M.out.blocks (w2.heap.size + 1, #[.float .f64 ql, .float .f64 qh]) (by simp)).2.2
          replace M := Lib.hid (M.out.sets (M.out.blocks (w2.heap.size + 1, #[.float .f64 ql, .float .f64 qh]) (by simp)) (.float .f64 zl) (.float .f64 zh) (by omega) [(w1.heap.size, #[.int .i64 0]), (w2.heap.size, #[.float .f64 yl, .float .f64 yh]), (w2.heap.size + 1, #[.float .f64 zl, .float .f64 zh]), (w.heap.size + 1 + 1, #[.float .f64 0, .float .f64 0]), (w.heap.size + 1, #[.float .f64 0, .float .f64 0]), (w.heap.size, #[.float .f64 al, .float .f64 ah])] (by simp; omega))
          go_simp
          refine hK.out _ _ (Or.inl (by decide)) (fun hHeld => ?_)
          clear hK K hHeld kc kf
          refine tails_done (by kernel_rfl) ?_ _
          refine NoPanic.normal ?_
          go_wp2_with fail
          go_meet
          exact M.out
      case rest =>
        obtain ⟨w4, rfl⟩ : ∃ x : World, x = wc := ⟨_, rfl⟩
        have M' := hcut
        unfold MemIs at M'
        clear M
        have M := Lib.hid M'
        clear M' hcut
        obtain ⟨k1, k2⟩ := (M.out.blocks (w2.heap.size, #[.float .f64 yl, .float .f64 yh]) (by simp)).two
        obtain ⟨k3, k4⟩ := (M.out.blocks (w2.heap.size + 1, #[.float .f64 zl, .float .f64 zh]) (by simp)).two
        have k5 := (M.out.blocks (w.heap.size + 1, #[.float .f64 0, .float .f64 0]) (by simp)).2.1
        have k6 := (M.out.blocks (w.heap.size + 1, #[.float .f64 0, .float .f64 0]) (by simp)).2.2
        have k7 := (M.out.blocks (w.heap.size + 1 + 1, #[.float .f64 0, .float .f64 0]) (by simp)).2.1
        have k8 := (M.out.blocks (w.heap.size + 1 + 1, #[.float .f64 0, .float .f64 0]) (by simp)).2.2
        go_upto_region 13 with fail
        go_region_held3 (fun w' => w'.cell? ⟨w2.heap.size, 0, none⟩ = some (.float .f64 yl) ∧ w'.cell? ⟨w2.heap.size, 1, none⟩ = some (.float .f64 yh) ∧ w'.cell? ⟨w2.heap.size + 1, 0, none⟩ = some (.float .f64 zl) ∧ w'.cell? ⟨w2.heap.size + 1, 1, none⟩ = some (.float .f64 zh)) (((try dsimp only); (repeat' apply And.intro); all_goals (repeat (first | (with_reducible assumption) | ((with_reducible refine keep_undrew ?_); (with_reducible assumption)) | (with_reducible refine keep_drew ?_) | (with_reducible refine keep_alloc _ ?_) | (with_reducible refine keep_set _ (by first | (with_reducible assumption) | omega) ?_)))))
          (fail)
        have M1 := Lib.hid (M.out.sets (M.out.blocks (w.heap.size + 1, #[.float .f64 0, .float .f64 0]) (by simp)) (.float .f64 yl) (.float .f64 yh) (by omega) [(w.heap.size + 1, #[.float .f64 yl, .float .f64 yh]), (w.heap.size + 1 + 1, #[.float .f64 0, .float .f64 0])] (by simp))
        have M2 := Lib.hid (M1.out.sets (M1.out.nth 1 rfl) (.float .f64 zl) (.float .f64 zh) (by omega) [(w.heap.size + 1, #[.float .f64 yl, .float .f64 yh]), (w.heap.size + 1 + 1, #[.float .f64 zl, .float .f64 zh])] (by simp))
        go_wp2
        have M3 := Lib.hid M2.out.drew
        have f1 := (M3.out.nth 0 rfl).2.1
        have g1 := (M3.out.nth 1 rfl).2.1
        exact bodyPost_ret (v := .tuple #[.agg #[.float .f64 yl, .float .f64 yh], .agg #[.float .f64 zl, .float .f64 zh], .int .i64 0]) (by simp [results, Try.results41, go_sem, f1, g1]) rfl ⟨rfl, M3.out.base⟩

end Go.Proofs.Ytpgbcdplicodmaa

namespace Go.Proofs.Ytpgbcdplicodmaa
open Go.RowKit
attribute [local go_sem] run_store_float

theorem sinT0 (s c : Res) : sinT s c 0 = s := rfl
theorem sinT1 (s c : Res) : sinT s c 1 = c := rfl
theorem sinT2 (s c : Res) : sinT s c 2 = negR s := rfl
theorem sinT3 (s c : Res) : sinT s c 3 = negR c := rfl
theorem sinT4 (s c : Res) : sinT s c 4 = s := rfl
theorem cosT0 (s c : Res) : cosT s c 0 = c := rfl
theorem cosT1 (s c : Res) : cosT s c 1 = negR s := rfl
theorem cosT2 (s c : Res) : cosT s c 2 = negR c := rfl
theorem cosT3 (s c : Res) : cosT s c 3 = s := rfl
theorem cosT4 (s c : Res) : cosT s c 4 = c := rfl
theorem at_sin {x j : Nat} {r : Res} (hj : qN x = j) (hr : sinT (sinS (angleR x (qN x))) (cosS (angleR x (qN x))) j = r) : (sinR x).lo = (boundR r).lo ∧ (sinR x).hi = (boundR r).hi := by
  have h : sinR x = boundR r := (congrArg (fun k => boundR (sinT (sinS (angleR x (qN x))) (cosS (angleR x (qN x))) k)) hj).trans (congrArg boundR hr)
  rw [h]; exact ⟨rfl, rfl⟩
theorem at_cos {x j : Nat} {r : Res} (hj : qN x = j) (hr : cosT (sinS (angleR x (qN x))) (cosS (angleR x (qN x))) j = r) : (cosR x).lo = (boundR r).lo ∧ (cosR x).hi = (boundR r).hi := by
  have h : cosR x = boundR r := (congrArg (fun k => boundR (cosT (sinS (angleR x (qN x))) (cosS (angleR x (qN x))) k)) hj).trans (congrArg boundR hr)
  rw [h]; exact ⟨rfl, rfl⟩

theorem bound_call {r : Res} (h : Fit r) : CalcB r.lo r.hi (boundR r).lo (boundR r).hi := fun w => bounded_any r.lo r.hi w h.lo h.hi h.rlo h.rhi

theorem ofNum_any {x : Nat} (h : Turn x) : CalcO x (sinR x).lo (sinR x).hi (cosR x).lo (cosR x).hi := fun pb w hC => by
  have ft := (angle_in h).fit
  have fs := (sinS_in h).fit
  have fk := (cosS_in h).fit
  have f20 : Fit (serR (sqrR (angleR x (qN x))) 20) := (ser_in ok20.1 ok20.2 (square_in h) 9 (by decide)).fit
  refine of_walk x (qN x) (angleR x (qN x)).lo (angleR x (qN x)).hi (serR (sqrR (angleR x (qN x))) 20).lo (serR (sqrR (angleR x (qN x))) 20).hi (sinS (angleR x (qN x))).lo (sinS (angleR x (qN x))).hi (cosS (angleR x (qN x))).lo (cosS (angleR x (qN x))).hi
    (negR (sinS (angleR x (qN x)))).lo (negR (sinS (angleR x (qN x)))).hi (negR (cosS (angleR x (qN x)))).lo (negR (cosS (angleR x (qN x)))).hi
    (boundR (sinS (angleR x (qN x)))).lo (boundR (sinS (angleR x (qN x)))).hi (boundR (cosS (angleR x (qN x)))).lo (boundR (cosS (angleR x (qN x)))).hi
    (boundR (negR (sinS (angleR x (qN x))))).lo (boundR (negR (sinS (angleR x (qN x))))).hi (boundR (negR (cosS (angleR x (qN x))))).lo (boundR (negR (cosS (angleR x (qN x))))).hi
    (sinR x).lo (sinR x).hi (cosR x).lo (cosR x).hi pb w hC (qN_le x)
    (Lib.hid fun w => quarter_any x w h.lt h.right) (Lib.hid fun v hv => angle_any h pb v hv)
    (Lib.hid fun v hv => series_any (m := 20) (Or.inr rfl) ft (square_in h) pb v hv) (Lib.hid (calc_mul ft f20 fs pb)) (Lib.hid fun v hv => series_any (m := 19) (Or.inl rfl) ft (square_in h) pb v hv)
    (Lib.hid (calc_neg fs pb)) (Lib.hid (calc_neg fk pb)) (Lib.hid (bound_call fs)) (Lib.hid (bound_call fk)) (Lib.hid (bound_call (neg_fit fs))) (Lib.hid (bound_call (neg_fit fk))) (Lib.hid ?_)
  have hq := qN_le x
  rcases (show qN x = 0 ∨ qN x = 1 ∨ qN x = 2 ∨ qN x = 3 ∨ qN x = 4 by omega) with g | g | g | g | g
  · exact Or.inl ⟨Or.inl g, (at_sin g (sinT0 _ _)).1, (at_sin g (sinT0 _ _)).2, (at_cos g (cosT0 _ _)).1, (at_cos g (cosT0 _ _)).2⟩
  · exact Or.inr (Or.inl ⟨g, (at_sin g (sinT1 _ _)).1, (at_sin g (sinT1 _ _)).2, (at_cos g (cosT1 _ _)).1, (at_cos g (cosT1 _ _)).2⟩)
  · exact Or.inr (Or.inr (Or.inl ⟨g, (at_sin g (sinT2 _ _)).1, (at_sin g (sinT2 _ _)).2, (at_cos g (cosT2 _ _)).1, (at_cos g (cosT2 _ _)).2⟩))
  · exact Or.inr (Or.inr (Or.inr ⟨g, (at_sin g (sinT3 _ _)).1, (at_sin g (sinT3 _ _)).2, (at_cos g (cosT3 _ _)).1, (at_cos g (cosT3 _ _)).2⟩))
  · exact Or.inl ⟨Or.inr g, (at_sin g (sinT4 _ _)).1, (at_sin g (sinT4 _ _)).2, (at_cos g (cosT4 _ _)).1, (at_cos g (cosT4 _ _)).2⟩

/-- An interval of numbers from 0 to 1. -/
def fineB (al ah : Nat) : Bool := ivR al ah && leB 0 al && leB ah u1
theorem fine_turn {al ah : Nat} (la : al < 18446744073709551616) (ha : ah < 18446744073709551616) (h : fineB al ah = true) : Turn al ∧ Turn ah ∧ ivR al ah = true ∧ val al ≤ val ah := by
  unfold fineB leB at h
  simp only [Bool.and_eq_true, decide_eq_true_eq] at h
  obtain ⟨⟨h1, h2⟩, h3⟩ := h
  obtain ⟨a1, a2, a3⟩ := ivR_parts h1
  rw [val_nil] at h2
  exact ⟨⟨la, a1, h2, Int.le_trans a3 h3⟩, ⟨ha, a2, Int.le_trans h2 a3, h3⟩, h1, a3⟩

theorem hull_call {a b : Res} (fa : Fit a) (fb : Fit b) : CalcH a.lo a.hi b.lo b.hi (hullR a b).lo (hullR a b).hi := fun w => hull_any a.lo a.hi b.lo b.hi w fa.lo fa.hi fb.lo fb.hi fa.rlo fa.rhi fb.rlo fb.rhi

theorem cond_lo (b : Bool) (r s : Res) : (if b then r else s).lo = cond b r.lo s.lo ∧ (if b then r else s).hi = cond b r.hi s.hi := by cases b <;> exact ⟨rfl, rfl⟩

theorem sin_fits {al ah : Nat} (t1 : Turn al) (t2 : Turn ah) : Fit (sin2 al ah) ∧ Fit (sin3 al ah) ∧ Fit (cos2 al ah) := by
  have f2 := hull_fit (sinR_facts t1).1 (sinR_facts t2).1
  refine ⟨f2, ?_, hull_fit (cosR_facts t1).1 (cosR_facts t2).1⟩
  unfold sin3
  cases hasB al ah 4598175219545276416
  · exact f2
  · exact hull_fit f2 u1_fit

theorem sin_any (al ah : Nat) (w : World) (la : al < 18446744073709551616) (ha : ah < 18446744073709551616) (h : fineB al ah = true) :
    Calls Try.prog 41 #[.agg #[.float .f64 al, .float .f64 ah]] w fun r w' => r = .returned (.tuple #[.agg #[.float .f64 (sinU al ah).lo, .float .f64 (sinU al ah).hi], .agg #[.float .f64 (cosU al ah).lo, .float .f64 (cosU al ah).hi], .int .i64 0]) ∧ Below w.heap.size w w' := by
  obtain ⟨t1, t2, hr, hle⟩ := fine_turn la ha h
  obtain ⟨f2, f3, g2⟩ := sin_fits t1 t2
  have cR := fun w => ivRight_any al ah w la ha
  rw [hr] at cR
  have o1 : (FloatKind.f64.format.order al 0 == some Ordering.lt) = false := by
    rw [lt_zero al la t1.right]; unfold ltB; rw [val_nil]; have := t1.lo; exact decide_eq_false (by omega)
  have o2 : (FloatKind.f64.format.order ah 4607182418800017408 == some Ordering.gt) = false := by
    rw [order_gt ah _ ha (by decide) t2.right (by decide)]; have := t2.hi; exact decide_eq_false (by show ¬ val u1 < val ah; omega)
  exact sin_walk al ah (sinR al).lo (sinR al).hi (cosR al).lo (cosR al).hi (sinR ah).lo (sinR ah).hi (cosR ah).lo (cosR ah).hi (sin2 al ah).lo (sin2 al ah).hi (cos2 al ah).lo (cos2 al ah).hi (sin3 al ah).lo (sin3 al ah).hi (sinU al ah).lo (sinU al ah).hi
    (hullR (sin2 al ah) (oneR u1)).lo (hullR (sin2 al ah) (oneR u1)).hi (hullR (sin3 al ah) (oneR m1)).lo (hullR (sin3 al ah) (oneR m1)).hi (hullR (cos2 al ah) (oneR m1)).lo (hullR (cos2 al ah) (oneR m1)).hi
    (hasB al ah 4598175219545276416) (hasB al ah 4604930618986332160) (hasB al ah 4602678819172646912) w (Lib.hid cR) o1 o2 (Lib.hid (ofNum_any t1)) (Lib.hid (ofNum_any t2))
    (Lib.hid (hull_call (sinR_facts t1).1 (sinR_facts t2).1)) (Lib.hid (hull_call (cosR_facts t1).1 (cosR_facts t2).1))
    (Lib.hid fun w => has_any al ah _ w la ha) (Lib.hid fun w => has_any al ah _ w la ha) (Lib.hid fun w => has_any al ah _ w la ha)
    (Lib.hid fun pb => calc_num u1_fit pb) (Lib.hid fun pb => calc_num m1_fit pb)
    (Lib.hid (hull_call f2 u1_fit)) (Lib.hid (hull_call f3 m1_fit)) (Lib.hid (hull_call g2 m1_fit))
    (Lib.hid (cond_lo _ _ _)) (Lib.hid (cond_lo _ _ _)) (cosU al ah).lo (cosU al ah).hi (Lib.hid (cond_lo _ _ _))

set_option maxRecDepth 100000 in
set_option maxHeartbeats 1000000 in
theorem sin_refused (al ah : Nat) (w : World) (r l g : Bool)
    (cR : Hid (∀ w, Calls Try.prog 34 #[.agg #[.float .f64 al, .float .f64 ah]] w fun e w' => e = .returned (.bool r) ∧ Below w.heap.size w w'))
    (o1 : (FloatKind.f64.format.order al 0 == some Ordering.lt) = l) (o2 : (FloatKind.f64.format.order ah 4607182418800017408 == some Ordering.gt) = g) (h : Hid (r = false ∨ l = true ∨ g = true)) :
    Calls Try.prog 41 #[.agg #[.float .f64 al, .float .f64 ah]] w fun r w' => r = .returned (.tuple #[.agg #[.float .f64 0, .float .f64 0], .agg #[.float .f64 0, .float .f64 0], .int .i64 2]) ∧ Below w.heap.size w w' := by
  have M : Hid (Mem w [(w.heap.size + 1 + 1, #[.float .f64 0, .float .f64 0]), (w.heap.size + 1, #[.float .f64 0, .float .f64 0]), (w.heap.size, #[.float .f64 al, .float .f64 ah])] (((w.alloc (.cells #[.float .f64 al, .float .f64 ah] 39)).alloc (.cells #[.float .f64 0, .float .f64 0] 39)).alloc (.cells #[.float .f64 0, .float .f64 0] 39))) := by
    have h := (((Mem.nil w).made #[.float .f64 al, .float .f64 ah] 39).made #[.float .f64 0, .float .f64 0] 39).made #[.float .f64 0, .float .f64 0] 39
    simp only [World.size_alloc] at h
    exact Lib.hid h
  obtain ⟨k1, k2⟩ := (M.out.nth 2 rfl).two
  go_enter Try.func41, Try.ntmps41
  go_wp2_with fail
  refine (cR.out _).mono ?_
  rintro e w1 ⟨rfl, hb⟩
  replace M := Lib.hid (M.out.below hb)
  clear hb k1 k2 cR
  obtain ⟨k1, k2⟩ := (M.out.nth 2 rfl).two
  have k3 := (M.out.nth 0 rfl).2.1
  have k4 := (M.out.nth 0 rfl).2.2
  have k5 := (M.out.nth 1 rfl).2.1
  have k6 := (M.out.nth 1 rfl).2.2
  have M1 := Lib.hid (M.out.sets (M.out.nth 1 rfl) (.float .f64 0) (.float .f64 0) (by simp) [(w.heap.size + 1, #[.float .f64 0, .float .f64 0]), (w.heap.size + 1 + 1, #[.float .f64 0, .float .f64 0])] (by simp))
  have M2 := Lib.hid (M1.out.sets (M1.out.nth 1 rfl) (.float .f64 0) (.float .f64 0) (by omega) [(w.heap.size + 1, #[.float .f64 0, .float .f64 0]), (w.heap.size + 1 + 1, #[.float .f64 0, .float .f64 0])] (by simp))
  have f1 := (M2.out.nth 0 rfl).2.1
  have g1 := (M2.out.nth 1 rfl).2.1
  cases r
  · clear h
    go_wp2
    exact bodyPost_ret (v := .tuple #[.agg #[.float .f64 0, .float .f64 0], .agg #[.float .f64 0, .float .f64 0], .int .i64 2]) (by simp [results, Try.results41, go_sem, f1, g1]) rfl ⟨rfl, M2.out.base⟩
  · cases l
    · have hg : g = true := by rcases h.out with h | h | h <;> first | exact h | cases h
      subst hg
      clear h
      go_wp2
      exact bodyPost_ret (v := .tuple #[.agg #[.float .f64 0, .float .f64 0], .agg #[.float .f64 0, .float .f64 0], .int .i64 2]) (by simp [results, Try.results41, go_sem, f1, g1]) rfl ⟨rfl, M2.out.base⟩
    · clear h
      go_wp2
      exact bodyPost_ret (v := .tuple #[.agg #[.float .f64 0, .float .f64 0], .agg #[.float .f64 0, .float .f64 0], .int .i64 2]) (by simp [results, Try.results41, go_sem, f1, g1]) rfl ⟨rfl, M2.out.base⟩

theorem fine_parts (al ah : Nat) (la : al < 18446744073709551616) (ha : ah < 18446744073709551616) (h : fineB al ah = false) : ivR al ah = false ∨ (FloatKind.f64.format.order al 0 == some Ordering.lt) = true ∨ (FloatKind.f64.format.order ah 4607182418800017408 == some Ordering.gt) = true := by
  cases hr : ivR al ah
  · exact Or.inl rfl
  · obtain ⟨a1, a2, a3⟩ := ivR_parts hr
    right
    rw [lt_zero al la a1, order_gt ah _ ha (by decide) a2 (by decide)]
    unfold fineB leB at h
    rw [hr, val_nil] at h
    unfold ltB
    rw [val_nil]
    by_cases h1 : val al < 0
    · exact Or.inl (decide_eq_true h1)
    · right
      rw [decide_eq_true (show 0 ≤ val al by omega)] at h
      have h2 : ¬ val ah ≤ val u1 := by simpa using h
      exact decide_eq_true (by show val u1 < val ah; omega)

theorem sin_bad (al ah : Nat) (w : World) (la : al < 18446744073709551616) (ha : ah < 18446744073709551616) (h : fineB al ah = false) :
    Calls Try.prog 41 #[.agg #[.float .f64 al, .float .f64 ah]] w fun r w' => r = .returned (.tuple #[.agg #[.float .f64 0, .float .f64 0], .agg #[.float .f64 0, .float .f64 0], .int .i64 2]) ∧ Below w.heap.size w w' :=
  sin_refused al ah w _ _ _ (Lib.hid fun w => ivRight_any al ah w la ha) rfl rfl (Lib.hid (fine_parts al ah la ha h))

theorem iv4_any (a b : Nat) (w : World) :
    Calls Try.prog 47 #[.float .f64 a, .float .f64 b] w fun r w' => r = .returned (.agg #[.float .f64 a, .float .f64 b]) ∧ Below w.heap.size w w' := by
  go_enter Try.func47, Try.ntmps47
  go_wp2
  exact bodyPost_ret (v := .agg #[.float .f64 a, .float .f64 b]) (by simp [results, Try.results47, go_sem]) rfl ⟨rfl, bel1 _ _⟩

theorem fine_walk (al ah : Nat) (w : World) (r l g : Bool)
    (cR : Hid (∀ w, Calls Try.prog 34 #[.agg #[.float .f64 al, .float .f64 ah]] w fun e w' => e = .returned (.bool r) ∧ Below w.heap.size w w'))
    (o1 : r = true → ((FloatKind.f64.format.order al 0 == some Ordering.gt) || (FloatKind.f64.format.order al 0 == some Ordering.eq)) = l) (o2 : r = true → ((FloatKind.f64.format.order ah 4607182418800017408 == some Ordering.lt) || (FloatKind.f64.format.order ah 4607182418800017408 == some Ordering.eq)) = g) :
    Calls Try.prog 42 #[.agg #[.float .f64 al, .float .f64 ah]] w fun e w' => e = .returned (.bool (r && l && g)) ∧ Below w.heap.size w w' := by
  have M := Lib.hid ((Mem.nil w).made #[.float .f64 al, .float .f64 ah] 39)
  cases r
  · clear o1 o2
    go_enter Try.func42, Try.ntmps42
    go_wp2_with fail
    refine (cR.out _).mono ?_
    rintro e w1 ⟨rfl, hb⟩
    replace M := Lib.hid (M.out.below hb)
    clear hb
    go_wp2
    go_ret
    exact ⟨rfl, M.out.base⟩
  · have p1 := o1 rfl
    have p2 := o2 rfl
    clear o1 o2
    go_enter Try.func42, Try.ntmps42
    go_wp2_with fail
    refine (cR.out _).mono ?_
    rintro e w1 ⟨rfl, hb⟩
    replace M := Lib.hid (M.out.below hb)
    clear hb
    obtain ⟨k1, k2⟩ := (M.out.nth 0 rfl).two
    cases l
    · go_wp2
      go_ret
      exact ⟨rfl, M.out.base⟩
    · go_wp2
      go_ret
      exact ⟨rfl, M.out.base⟩

theorem fine_any (al ah : Nat) (w : World) (la : al < 18446744073709551616) (ha : ah < 18446744073709551616) :
    Calls Try.prog 42 #[.agg #[.float .f64 al, .float .f64 ah]] w fun e w' => e = .returned (.bool (fineB al ah)) ∧ Below w.heap.size w w' :=
  fine_walk al ah w (ivR al ah) (leB 0 al) (leB ah u1) (Lib.hid fun w => ivRight_any al ah w la ha) (fun h => ge_zero al la (ivR_parts h).1) (fun h => order_le ah u1 ha (by decide) (ivR_parts h).2.1 (by decide))

end Go.Proofs.Ytpgbcdplicodmaa
