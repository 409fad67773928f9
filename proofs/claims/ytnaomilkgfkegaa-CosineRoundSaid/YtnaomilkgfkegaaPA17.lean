/- What the claim stands on, part 18: QTN, TcV, CoB, CoC, CoMD. -/
import Derived.Test.YtnaomilkgfkegaaPA11
import Derived.Test.YtnaomilkgfkegaaPA14
import Derived.Test.YtnaomilkgfkegaaPA13
import Derived.Test.YtnaomilkgfkegaaPA16
import Derived.Test.YtnaomilkgfkegaaPA8
set_option maxHeartbeats 8000000
set_option maxRecDepth 100000
namespace Go.Proofs.Ytnaomilkgfkegaa
section
open Go.RowKit
attribute [local go_sem] run_store_float

theorem run_store_fn (P : Program) (w : World) (a : Addr) (m : Mode) (f : Fn) (t c : Array Value) : (store a (.func f t c) m).run P w = stored P w a (.func f t c) m := run_store P w a _ m rfl
attribute [local go_sem] run_store_fn

structure EnvL (B : World) (pb : Nat) (l : List (Nat × Array Value)) (v : World) : Prop where
  env : Env B pb l v
  apart : l.Pairwise fun p q => p.1 ≠ q.1
  low : ∀ p, p ∈ l → B.heap.size ≤ p.1
section
variable {B v v' : World} {pb : Nat} {l : List (Nat × Array Value)}
theorem EnvL.drew (h : EnvL B pb l v) : EnvL B pb l v.drew := ⟨h.env.drew, h.apart, h.low⟩
theorem EnvL.drewN (h : EnvL B pb l v) (n : Nat) : EnvL B pb l (v.drewN n) := ⟨h.env.drewN n, h.apart, h.low⟩
theorem EnvL.below (h : EnvL B pb l v) (hb : Below v.heap.size v v') : EnvL B pb l v' := ⟨h.env.below hb, h.apart, h.low⟩
theorem EnvL.putc (h : EnvL B pb l v) (hp : Put ⟨pb, 0, none⟩ (.int .i64 0) v v') : EnvL B pb l v' := ⟨h.env.putc hp, h.apart, h.low⟩
theorem EnvL.cal (h : EnvL B pb l v) : Has1 v (pb, #[.int .i64 0]) := h.env.cal
theorem EnvL.made (h : EnvL B pb l v) (c : Array Value) (t : TypeId) : EnvL B pb ((v.heap.size, c) :: l) (v.alloc (.cells c t)) :=
  ⟨h.env.made c t, List.pairwise_cons.2 ⟨h.env.fresh.2, h.apart⟩, fun p hp => by
    rcases List.mem_cons.1 hp with e | e
    · rw [e]; exact h.env.fresh.1
    · exact h.low p e⟩
theorem EnvL.start (h : Has1 B (pb, #[.int .i64 0])) : EnvL B pb [] B := ⟨Env.start h, List.Pairwise.nil, fun p hp => by cases hp⟩
theorem EnvL.twoA {p q : Nat × Array Value} (h : EnvL B pb (p :: q :: l) v) : p.1 ≠ q.1 ∧ q.1 ≠ p.1 :=
  ⟨(List.pairwise_cons.1 h.apart).1 q (List.mem_cons_self ..), Ne.symm ((List.pairwise_cons.1 h.apart).1 q (List.mem_cons_self ..))⟩
theorem EnvL.swap {p q : Nat × Array Value} (h : EnvL B pb (p :: q :: l) v) : EnvL B pb (q :: p :: l) v := by
  refine ⟨h.env.sub (fun r hr => ?_), ?_, fun r hr => h.low r ?_⟩
  · simp only [List.mem_cons] at hr ⊢
    rcases hr with e | e | e <;> simp [e]
  · have h1 := List.pairwise_cons.1 h.apart
    have h2 := List.pairwise_cons.1 h1.2
    refine List.pairwise_cons.2 ⟨fun r hr => ?_, List.pairwise_cons.2 ⟨fun r hr => h1.1 r (List.mem_cons_of_mem _ hr), h2.2⟩⟩
    rcases List.mem_cons.1 hr with e | e
    · rw [e]; exact Ne.symm (h1.1 q (List.mem_cons_self ..))
    · exact h2.1 r e
  · simp only [List.mem_cons] at hr ⊢
    rcases hr with e | e | e <;> simp [e]
theorem EnvL.reset {q : Nat} {a b : Value} (h : EnvL B pb ((q, #[a, b]) :: l) v) (x y : Value) : EnvL B pb ((q, #[x, y]) :: l) ((v.setCell ⟨q, 0, none⟩ x).setCell ⟨q, 1, none⟩ y) :=
  ⟨h.env.reset (h.low _ (List.mem_cons_self ..)) (List.pairwise_cons.1 h.apart).1 x y, List.pairwise_cons.2 ⟨(List.pairwise_cons.1 h.apart).1, (List.pairwise_cons.1 h.apart).2⟩, fun p hp => by
    rcases List.mem_cons.1 hp with e | e
    · rw [e]; exact h.low (q, #[a, b]) (List.mem_cons_self ..)
    · exact h.low p (List.mem_cons_of_mem _ e)⟩

def KeptTwo (w : World) (pb : Nat) (l : List (Nat × Array Value)) (a b x y : Nat) (p q : Value) (wx : World) : Prop :=
  ∃ i j, p = .pointer (some ⟨i, 0, none⟩) ∧ q = .pointer (some ⟨j, 0, none⟩) ∧ EnvL w pb ((i, #[.float .f64 a, .float .f64 b]) :: (j, #[.float .f64 x, .float .f64 y]) :: l) wx
variable {a b x y q r : Nat} {z0 z1 z2 z3 : Value} {t u : TypeId}
theorem KeptTwo.both (h : EnvL B pb l v) : KeptTwo B pb l a b x y (.pointer (some ⟨v.heap.size, 0, none⟩)) (.pointer (some ⟨v.heap.size + 1, 0, none⟩)) ((v.alloc (.cells #[.float .f64 a, .float .f64 b] t)).alloc (.cells #[.float .f64 x, .float .f64 y] u)) := by
  have k := ((h.made #[.float .f64 a, .float .f64 b] t).made #[.float .f64 x, .float .f64 y] u).swap
  rw [World.size_alloc] at k
  exact ⟨_, _, rfl, rfl, k⟩
theorem KeptTwo.both' (h : EnvL B pb l v) : KeptTwo B pb l a b x y (.pointer (some ⟨v.heap.size + 1, 0, none⟩)) (.pointer (some ⟨v.heap.size, 0, none⟩)) ((v.alloc (.cells #[.float .f64 x, .float .f64 y] t)).alloc (.cells #[.float .f64 a, .float .f64 b] u)) := by
  have k := (h.made #[.float .f64 x, .float .f64 y] t).made #[.float .f64 a, .float .f64 b] u
  rw [World.size_alloc] at k
  exact ⟨_, _, rfl, rfl, k⟩
theorem KeptTwo.one (h : EnvL B pb ((q, #[z0, z1]) :: l) v) : KeptTwo B pb l a b x y (.pointer (some ⟨q, 0, none⟩)) (.pointer (some ⟨v.heap.size, 0, none⟩)) (((v.setCell ⟨q, 0, none⟩ (.float .f64 a)).setCell ⟨q, 1, none⟩ (.float .f64 b)).alloc (.cells #[.float .f64 x, .float .f64 y] u)) := by
  have k := ((h.reset (.float .f64 a) (.float .f64 b)).made #[.float .f64 x, .float .f64 y] u).swap
  rw [size_two] at k
  exact ⟨_, _, rfl, rfl, k⟩
theorem KeptTwo.one' (h : EnvL B pb ((q, #[z0, z1]) :: l) v) : KeptTwo B pb l a b x y (.pointer (some ⟨v.heap.size, 0, none⟩)) (.pointer (some ⟨q, 0, none⟩)) (((v.setCell ⟨q, 0, none⟩ (.float .f64 x)).setCell ⟨q, 1, none⟩ (.float .f64 y)).alloc (.cells #[.float .f64 a, .float .f64 b] u)) := by
  have k := (h.reset (.float .f64 x) (.float .f64 y)).made #[.float .f64 a, .float .f64 b] u
  rw [size_two] at k
  exact ⟨_, _, rfl, rfl, k⟩
theorem KeptTwo.two (h : EnvL B pb ((r, #[z2, z3]) :: (q, #[z0, z1]) :: l) v) : KeptTwo B pb l a b x y (.pointer (some ⟨q, 0, none⟩)) (.pointer (some ⟨r, 0, none⟩)) ((((v.setCell ⟨q, 0, none⟩ (.float .f64 a)).setCell ⟨q, 1, none⟩ (.float .f64 b)).setCell ⟨r, 0, none⟩ (.float .f64 x)).setCell ⟨r, 1, none⟩ (.float .f64 y)) :=
  ⟨_, _, rfl, rfl, ((h.swap.reset (.float .f64 a) (.float .f64 b)).swap.reset (.float .f64 x) (.float .f64 y)).swap⟩
theorem KeptTwo.two' (h : EnvL B pb ((q, #[z0, z1]) :: (r, #[z2, z3]) :: l) v) : KeptTwo B pb l a b x y (.pointer (some ⟨q, 0, none⟩)) (.pointer (some ⟨r, 0, none⟩)) ((((v.setCell ⟨q, 0, none⟩ (.float .f64 a)).setCell ⟨q, 1, none⟩ (.float .f64 b)).setCell ⟨r, 0, none⟩ (.float .f64 x)).setCell ⟨r, 1, none⟩ (.float .f64 y)) :=
  ⟨_, _, rfl, rfl, ((h.reset (.float .f64 a) (.float .f64 b)).swap.reset (.float .f64 x) (.float .f64 y)).swap⟩
end

abbrev CalcS (pb : Nat) (m : Int) (tl th rl rh : Nat) : Prop := ∀ v : World, Has1 v (pb, #[.int .i64 0]) → Calls Try.prog 61 #[.pointer (some ⟨pb, 0, none⟩), .agg #[.float .f64 tl, .float .f64 th], .int .i64 m] v fun r w' => r = .returned (.agg #[.float .f64 rl, .float .f64 rh]) ∧ Put ⟨pb, 0, none⟩ (.int .i64 0) v w'

abbrev CalcB (xl xh yl yh : Nat) : Prop := ∀ w : World, Calls Try.prog 67 #[.agg #[.float .f64 xl, .float .f64 xh]] w fun r w' => r = .returned (.agg #[.float .f64 yl, .float .f64 yh]) ∧ Below w.heap.size w w'

theorem of_walk (x j tl th s0l s0h sl sh kl kh xl xh yl yh sml smh kml kmh xml xmh yml ymh al ah bl bh pb : Nat) (w : World) (hC : Has1 w (pb, #[.int .i64 0])) (hj : j ≤ 4)
    (cJ : Hid (∀ w, Calls Try.prog 59 #[.float .f64 x] w fun r w' => r = .returned (.int .i64 j) ∧ w = w'))
    (cA : Hid (∀ v, Has1 v (pb, #[.int .i64 0]) → Calls Try.prog 60 #[.pointer (some ⟨pb, 0, none⟩), .float .f64 x, .int .i64 j] v fun r w' => r = .returned (.agg #[.float .f64 tl, .float .f64 th]) ∧ Put ⟨pb, 0, none⟩ (.int .i64 0) v w'))
    (c20 : Hid (CalcS pb 20 tl th s0l s0h)) (cM : Hid (Calc2 20 pb tl th s0l s0h sl sh)) (c19 : Hid (CalcS pb 19 tl th kl kh))
    (cNs : Hid (Calc1 64 pb sl sh xl xh)) (cNk : Hid (Calc1 64 pb kl kh yl yh))
    (bS : Hid (CalcB sl sh sml smh)) (bK : Hid (CalcB kl kh kml kmh)) (bX : Hid (CalcB xl xh xml xmh)) (bY : Hid (CalcB yl yh yml ymh))
    (hR : Hid ((j = 0 ∨ j = 4) ∧ al = sml ∧ ah = smh ∧ bl = kml ∧ bh = kmh ∨ j = 1 ∧ al = kml ∧ ah = kmh ∧ bl = xml ∧ bh = xmh ∨ j = 2 ∧ al = xml ∧ ah = xmh ∧ bl = yml ∧ bh = ymh ∨ j = 3 ∧ al = yml ∧ ah = ymh ∧ bl = sml ∧ bh = smh)) :
    Calls Try.prog 37 #[.pointer (some ⟨pb, 0, none⟩), .float .f64 x] w fun r w' => r = .returned (.tuple #[.agg #[.float .f64 al, .float .f64 ah], .agg #[.float .f64 bl, .float .f64 bh]]) ∧ Put ⟨pb, 0, none⟩ (.int .i64 0) w w' := by
  have n1 : pb ≠ w.heap.size := Nat.ne_of_lt hC.1
  have E : Hid (EnvL w pb [(w.heap.size + 1 + 1, #[.float .f64 0, .float .f64 0]), (w.heap.size + 1, #[.float .f64 0, .float .f64 0]), (w.heap.size, #[.pointer (some ⟨pb, 0, none⟩)])] (((w.alloc (.cells #[.pointer (some ⟨pb, 0, none⟩)] 39)).alloc (.cells #[.float .f64 0, .float .f64 0] 26)).alloc (.cells #[.float .f64 0, .float .f64 0] 26))) := by
    have h := (((EnvL.start hC).made #[.pointer (some ⟨pb, 0, none⟩)] 39).made #[.float .f64 0, .float .f64 0] 26).made #[.float .f64 0, .float .f64 0] 26
    simp only [World.size_alloc] at h
    exact Lib.hid h
  have k1 := (E.out.env.nth 2 rfl).pc
  clear hC
  go_enter Try.func37, Try.ntmps37
  go_wp2_with fail
  refine (cJ.out _).mono ?_
  rintro r w1 ⟨rfl, rfl⟩
  go_wp2_with fail
  refine (cA.out _ E.out.cal).mono ?_
  rintro r w2 ⟨rfl, hp⟩
  replace E : Hid (EnvL w pb [(w2.heap.size, #[.float .f64 tl, .float .f64 th]), (w.heap.size + 1 + 1, #[.float .f64 0, .float .f64 0]), (w.heap.size + 1, #[.float .f64 0, .float .f64 0]), (w.heap.size, #[.pointer (some ⟨pb, 0, none⟩)])] (w2.alloc (.cells #[.float .f64 tl, .float .f64 th] 26))) := Lib.hid ((E.out.putc hp).made #[.float .f64 tl, .float .f64 th] 26)
  clear hp k1 cJ cA
  go_upto_region 3 with fail
  revert E
  generalize w2.alloc (.cells #[.float .f64 tl, .float .f64 th] 26) = W
  intro E
  have k1 := (E.out.env.blocks (w.heap.size, #[.pointer (some ⟨pb, 0, none⟩)]) (by simp)).1.pc
  obtain ⟨k2, k3⟩ := (E.out.env.blocks (w2.heap.size, #[.float .f64 tl, .float .f64 th]) (by simp)).1.two
  have z1 := (E.out.env.blocks (w.heap.size, #[.pointer (some ⟨pb, 0, none⟩)]) (by simp)).1.1
  have z2 := (E.out.env.blocks (w2.heap.size, #[.float .f64 tl, .float .f64 th]) (by simp)).1.1
  have k4 := (E.out.env.nth 0 rfl).2.1
  have k5 := (E.out.env.nth 0 rfl).2.2
  have k6 := (E.out.env.nth 1 rfl).2.1
  have k7 := (E.out.env.nth 1 rfl).2.2
  have y0 := (E.out.env.nth 0 rfl).1
  have y1 := (E.out.env.nth 1 rfl).1
  have y2 := E.out.twoA.1
  have y3 := E.out.twoA.2
  go_cut [8, 9] (KeptTwo w pb [(w2.heap.size, #[.float .f64 tl, .float .f64 th]), (w.heap.size + 1 + 1, #[.float .f64 0, .float .f64 0]), (w.heap.size + 1, #[.float .f64 0, .float .f64 0]), (w.heap.size, #[.pointer (some ⟨pb, 0, none⟩)])] sl sh kl kh)
  case first =>
    go_region_held3 (fun w' => w'.cell? ⟨w.heap.size, 0, none⟩ = some (.pointer (some ⟨pb, 0, none⟩)) ∧ w'.cell? ⟨w2.heap.size, 0, none⟩ = some (.float .f64 tl) ∧ w'.cell? ⟨w2.heap.size, 1, none⟩ = some (.float .f64 th)) (((try dsimp only); (repeat' apply And.intro); all_goals (repeat (first | (with_reducible assumption) | ((with_reducible refine keep_undrew ?_); (with_reducible assumption)) | (with_reducible refine keep_drew ?_) | (with_reducible refine keep_alloc _ ?_) | (with_reducible refine keep_set _ (by first | (with_reducible assumption) | omega) ?_)))))
      (first
        | (go_at_call 61; (with_reducible refine (c20.out _ (E.out).cal).mono ?_); rintro rr w5 ⟨rfl, hp⟩; have E' := Lib.hid ((E.out).putc hp); clear E hp; clear k1 k2 k3 z1 z2 k4 k5 k6 k7 y0 y1 y2 y3; have E := E'; clear E'; have k1 := (E.out.env.blocks (w.heap.size, #[.pointer (some ⟨pb, 0, none⟩)]) (by simp)).1.pc; obtain ⟨k2, k3⟩ := (E.out.env.blocks (w2.heap.size, #[.float .f64 tl, .float .f64 th]) (by simp)).1.two; have z1 := (E.out.env.blocks (w.heap.size, #[.pointer (some ⟨pb, 0, none⟩)]) (by simp)).1.1; have z2 := (E.out.env.blocks (w2.heap.size, #[.float .f64 tl, .float .f64 th]) (by simp)).1.1; have k4 := (E.out.env.nth 0 rfl).2.1; have k5 := (E.out.env.nth 0 rfl).2.2; have k6 := (E.out.env.nth 1 rfl).2.1; have k7 := (E.out.env.nth 1 rfl).2.2; have y0 := (E.out.env.nth 0 rfl).1; have y1 := (E.out.env.nth 1 rfl).1; have y2 := E.out.twoA.1; have y3 := E.out.twoA.2)
        | (go_at_call 61; (with_reducible refine (c20.out _ (E.out.drew).cal).mono ?_); rintro rr w5 ⟨rfl, hp⟩; have E' := Lib.hid ((E.out.drew).putc hp); clear E hp; clear k1 k2 k3 z1 z2 k4 k5 k6 k7 y0 y1 y2 y3; have E := E'; clear E'; have k1 := (E.out.env.blocks (w.heap.size, #[.pointer (some ⟨pb, 0, none⟩)]) (by simp)).1.pc; obtain ⟨k2, k3⟩ := (E.out.env.blocks (w2.heap.size, #[.float .f64 tl, .float .f64 th]) (by simp)).1.two; have z1 := (E.out.env.blocks (w.heap.size, #[.pointer (some ⟨pb, 0, none⟩)]) (by simp)).1.1; have z2 := (E.out.env.blocks (w2.heap.size, #[.float .f64 tl, .float .f64 th]) (by simp)).1.1; have k4 := (E.out.env.nth 0 rfl).2.1; have k5 := (E.out.env.nth 0 rfl).2.2; have k6 := (E.out.env.nth 1 rfl).2.1; have k7 := (E.out.env.nth 1 rfl).2.2; have y0 := (E.out.env.nth 0 rfl).1; have y1 := (E.out.env.nth 1 rfl).1; have y2 := E.out.twoA.1; have y3 := E.out.twoA.2)
        | (go_at_call 61; (with_reducible refine (c20.out _ ((E.out.made _ _)).cal).mono ?_); rintro rr w5 ⟨rfl, hp⟩; have zp := z1; have zq := z2; have E' := Lib.hid (((E.out.made _ _)).putc hp); clear E hp; clear k1 k2 k3 z1 z2 k4 k5 k6 k7 y0 y1 y2 y3; have E := E'; clear E'; have k1 := (E.out.env.blocks (w.heap.size, #[.pointer (some ⟨pb, 0, none⟩)]) (by simp)).1.pc; obtain ⟨k2, k3⟩ := (E.out.env.blocks (w2.heap.size, #[.float .f64 tl, .float .f64 th]) (by simp)).1.two; have z1 := (E.out.env.blocks (w.heap.size, #[.pointer (some ⟨pb, 0, none⟩)]) (by simp)).1.1; have z2 := (E.out.env.blocks (w2.heap.size, #[.float .f64 tl, .float .f64 th]) (by simp)).1.1; have k4 := (E.out.env.nth 0 rfl).2.1; have k5 := (E.out.env.nth 0 rfl).2.2; have k6 := (E.out.env.nth 1 rfl).2.1; have k7 := (E.out.env.nth 1 rfl).2.2; have y0 := (E.out.env.nth 0 rfl).1; have y1 := (E.out.env.nth 1 rfl).1; have y2 := E.out.twoA.1; have y3 := E.out.twoA.2)
        | (go_at_call 61; (with_reducible refine (c20.out _ ((E.out.made _ _).drew).cal).mono ?_); rintro rr w5 ⟨rfl, hp⟩; have zp := z1; have zq := z2; have E' := Lib.hid (((E.out.made _ _).drew).putc hp); clear E hp; clear k1 k2 k3 z1 z2 k4 k5 k6 k7 y0 y1 y2 y3; have E := E'; clear E'; have k1 := (E.out.env.blocks (w.heap.size, #[.pointer (some ⟨pb, 0, none⟩)]) (by simp)).1.pc; obtain ⟨k2, k3⟩ := (E.out.env.blocks (w2.heap.size, #[.float .f64 tl, .float .f64 th]) (by simp)).1.two; have z1 := (E.out.env.blocks (w.heap.size, #[.pointer (some ⟨pb, 0, none⟩)]) (by simp)).1.1; have z2 := (E.out.env.blocks (w2.heap.size, #[.float .f64 tl, .float .f64 th]) (by simp)).1.1; have k4 := (E.out.env.nth 0 rfl).2.1; have k5 := (E.out.env.nth 0 rfl).2.2; have k6 := (E.out.env.nth 1 rfl).2.1; have k7 := (E.out.env.nth 1 rfl).2.2; have y0 := (E.out.env.nth 0 rfl).1; have y1 := (E.out.env.nth 1 rfl).1; have y2 := E.out.twoA.1; have y3 := E.out.twoA.2)
        | (go_at_call 61; (with_reducible refine (c20.out _ (((E.out.made _ _).made _ _)).cal).mono ?_); rintro rr w5 ⟨rfl, hp⟩; have zp := z1; have zq := z2; have E' := Lib.hid ((((E.out.made _ _).made _ _)).putc hp); (try simp only [World.size_alloc] at E' zp zq); clear E hp; clear k1 k2 k3 z1 z2 k4 k5 k6 k7 y0 y1 y2 y3; have E := E'; clear E'; have k1 := (E.out.env.blocks (w.heap.size, #[.pointer (some ⟨pb, 0, none⟩)]) (by simp)).1.pc; obtain ⟨k2, k3⟩ := (E.out.env.blocks (w2.heap.size, #[.float .f64 tl, .float .f64 th]) (by simp)).1.two; have z1 := (E.out.env.blocks (w.heap.size, #[.pointer (some ⟨pb, 0, none⟩)]) (by simp)).1.1; have z2 := (E.out.env.blocks (w2.heap.size, #[.float .f64 tl, .float .f64 th]) (by simp)).1.1; have k4 := (E.out.env.nth 0 rfl).2.1; have k5 := (E.out.env.nth 0 rfl).2.2; have k6 := (E.out.env.nth 1 rfl).2.1; have k7 := (E.out.env.nth 1 rfl).2.2; have y0 := (E.out.env.nth 0 rfl).1; have y1 := (E.out.env.nth 1 rfl).1; have y2 := E.out.twoA.1; have y3 := E.out.twoA.2)
        | (go_at_call 61; (with_reducible refine (c20.out _ (((E.out.made _ _).made _ _).drew).cal).mono ?_); rintro rr w5 ⟨rfl, hp⟩; have zp := z1; have zq := z2; have E' := Lib.hid ((((E.out.made _ _).made _ _).drew).putc hp); (try simp only [World.size_alloc] at E' zp zq); clear E hp; clear k1 k2 k3 z1 z2 k4 k5 k6 k7 y0 y1 y2 y3; have E := E'; clear E'; have k1 := (E.out.env.blocks (w.heap.size, #[.pointer (some ⟨pb, 0, none⟩)]) (by simp)).1.pc; obtain ⟨k2, k3⟩ := (E.out.env.blocks (w2.heap.size, #[.float .f64 tl, .float .f64 th]) (by simp)).1.two; have z1 := (E.out.env.blocks (w.heap.size, #[.pointer (some ⟨pb, 0, none⟩)]) (by simp)).1.1; have z2 := (E.out.env.blocks (w2.heap.size, #[.float .f64 tl, .float .f64 th]) (by simp)).1.1; have k4 := (E.out.env.nth 0 rfl).2.1; have k5 := (E.out.env.nth 0 rfl).2.2; have k6 := (E.out.env.nth 1 rfl).2.1; have k7 := (E.out.env.nth 1 rfl).2.2; have y0 := (E.out.env.nth 0 rfl).1; have y1 := (E.out.env.nth 1 rfl).1; have y2 := E.out.twoA.1; have y3 := E.out.twoA.2)
        | (go_at_call 20; (with_reducible refine (cM.out _ (E.out).cal).mono ?_); rintro rr w5 ⟨rfl, hp⟩; have E' := Lib.hid ((E.out).putc hp); clear E hp; clear k1 k2 k3 z1 z2 k4 k5 k6 k7 y0 y1 y2 y3; have E := E'; clear E'; have k1 := (E.out.env.blocks (w.heap.size, #[.pointer (some ⟨pb, 0, none⟩)]) (by simp)).1.pc; obtain ⟨k2, k3⟩ := (E.out.env.blocks (w2.heap.size, #[.float .f64 tl, .float .f64 th]) (by simp)).1.two; have z1 := (E.out.env.blocks (w.heap.size, #[.pointer (some ⟨pb, 0, none⟩)]) (by simp)).1.1; have z2 := (E.out.env.blocks (w2.heap.size, #[.float .f64 tl, .float .f64 th]) (by simp)).1.1; have k4 := (E.out.env.nth 0 rfl).2.1; have k5 := (E.out.env.nth 0 rfl).2.2; have k6 := (E.out.env.nth 1 rfl).2.1; have k7 := (E.out.env.nth 1 rfl).2.2; have y0 := (E.out.env.nth 0 rfl).1; have y1 := (E.out.env.nth 1 rfl).1; have y2 := E.out.twoA.1; have y3 := E.out.twoA.2)
        | (go_at_call 20; (with_reducible refine (cM.out _ (E.out.drew).cal).mono ?_); rintro rr w5 ⟨rfl, hp⟩; have E' := Lib.hid ((E.out.drew).putc hp); clear E hp; clear k1 k2 k3 z1 z2 k4 k5 k6 k7 y0 y1 y2 y3; have E := E'; clear E'; have k1 := (E.out.env.blocks (w.heap.size, #[.pointer (some ⟨pb, 0, none⟩)]) (by simp)).1.pc; obtain ⟨k2, k3⟩ := (E.out.env.blocks (w2.heap.size, #[.float .f64 tl, .float .f64 th]) (by simp)).1.two; have z1 := (E.out.env.blocks (w.heap.size, #[.pointer (some ⟨pb, 0, none⟩)]) (by simp)).1.1; have z2 := (E.out.env.blocks (w2.heap.size, #[.float .f64 tl, .float .f64 th]) (by simp)).1.1; have k4 := (E.out.env.nth 0 rfl).2.1; have k5 := (E.out.env.nth 0 rfl).2.2; have k6 := (E.out.env.nth 1 rfl).2.1; have k7 := (E.out.env.nth 1 rfl).2.2; have y0 := (E.out.env.nth 0 rfl).1; have y1 := (E.out.env.nth 1 rfl).1; have y2 := E.out.twoA.1; have y3 := E.out.twoA.2)
        | (go_at_call 20; (with_reducible refine (cM.out _ ((E.out.made _ _)).cal).mono ?_); rintro rr w5 ⟨rfl, hp⟩; have zp := z1; have zq := z2; have E' := Lib.hid (((E.out.made _ _)).putc hp); clear E hp; clear k1 k2 k3 z1 z2 k4 k5 k6 k7 y0 y1 y2 y3; have E := E'; clear E'; have k1 := (E.out.env.blocks (w.heap.size, #[.pointer (some ⟨pb, 0, none⟩)]) (by simp)).1.pc; obtain ⟨k2, k3⟩ := (E.out.env.blocks (w2.heap.size, #[.float .f64 tl, .float .f64 th]) (by simp)).1.two; have z1 := (E.out.env.blocks (w.heap.size, #[.pointer (some ⟨pb, 0, none⟩)]) (by simp)).1.1; have z2 := (E.out.env.blocks (w2.heap.size, #[.float .f64 tl, .float .f64 th]) (by simp)).1.1; have k4 := (E.out.env.nth 0 rfl).2.1; have k5 := (E.out.env.nth 0 rfl).2.2; have k6 := (E.out.env.nth 1 rfl).2.1; have k7 := (E.out.env.nth 1 rfl).2.2; have y0 := (E.out.env.nth 0 rfl).1; have y1 := (E.out.env.nth 1 rfl).1; have y2 := E.out.twoA.1; have y3 := E.out.twoA.2)
        | (go_at_call 20; (with_reducible refine (cM.out _ ((E.out.made _ _).drew).cal).mono ?_); rintro rr w5 ⟨rfl, hp⟩; have zp := z1; have zq := z2; have E' := Lib.hid (((E.out.made _ _).drew).putc hp); clear E hp; clear k1 k2 k3 z1 z2 k4 k5 k6 k7 y0 y1 y2 y3; have E := E'; clear E'; have k1 := (E.out.env.blocks (w.heap.size, #[.pointer (some ⟨pb, 0, none⟩)]) (by simp)).1.pc; obtain ⟨k2, k3⟩ := (E.out.env.blocks (w2.heap.size, #[.float .f64 tl, .float .f64 th]) (by simp)).1.two; have z1 := (E.out.env.blocks (w.heap.size, #[.pointer (some ⟨pb, 0, none⟩)]) (by simp)).1.1; have z2 := (E.out.env.blocks (w2.heap.size, #[.float .f64 tl, .float .f64 th]) (by simp)).1.1; have k4 := (E.out.env.nth 0 rfl).2.1; have k5 := (E.out.env.nth 0 rfl).2.2; have k6 := (E.out.env.nth 1 rfl).2.1; have k7 := (E.out.env.nth 1 rfl).2.2; have y0 := (E.out.env.nth 0 rfl).1; have y1 := (E.out.env.nth 1 rfl).1; have y2 := E.out.twoA.1; have y3 := E.out.twoA.2)
        | (go_at_call 20; (with_reducible refine (cM.out _ (((E.out.made _ _).made _ _)).cal).mono ?_); rintro rr w5 ⟨rfl, hp⟩; have zp := z1; have zq := z2; have E' := Lib.hid ((((E.out.made _ _).made _ _)).putc hp); (try simp only [World.size_alloc] at E' zp zq); clear E hp; clear k1 k2 k3 z1 z2 k4 k5 k6 k7 y0 y1 y2 y3; have E := E'; clear E'; have k1 := (E.out.env.blocks (w.heap.size, #[.pointer (some ⟨pb, 0, none⟩)]) (by simp)).1.pc; obtain ⟨k2, k3⟩ := (E.out.env.blocks (w2.heap.size, #[.float .f64 tl, .float .f64 th]) (by simp)).1.two; have z1 := (E.out.env.blocks (w.heap.size, #[.pointer (some ⟨pb, 0, none⟩)]) (by simp)).1.1; have z2 := (E.out.env.blocks (w2.heap.size, #[.float .f64 tl, .float .f64 th]) (by simp)).1.1; have k4 := (E.out.env.nth 0 rfl).2.1; have k5 := (E.out.env.nth 0 rfl).2.2; have k6 := (E.out.env.nth 1 rfl).2.1; have k7 := (E.out.env.nth 1 rfl).2.2; have y0 := (E.out.env.nth 0 rfl).1; have y1 := (E.out.env.nth 1 rfl).1; have y2 := E.out.twoA.1; have y3 := E.out.twoA.2)
        | (go_at_call 20; (with_reducible refine (cM.out _ (((E.out.made _ _).made _ _).drew).cal).mono ?_); rintro rr w5 ⟨rfl, hp⟩; have zp := z1; have zq := z2; have E' := Lib.hid ((((E.out.made _ _).made _ _).drew).putc hp); (try simp only [World.size_alloc] at E' zp zq); clear E hp; clear k1 k2 k3 z1 z2 k4 k5 k6 k7 y0 y1 y2 y3; have E := E'; clear E'; have k1 := (E.out.env.blocks (w.heap.size, #[.pointer (some ⟨pb, 0, none⟩)]) (by simp)).1.pc; obtain ⟨k2, k3⟩ := (E.out.env.blocks (w2.heap.size, #[.float .f64 tl, .float .f64 th]) (by simp)).1.two; have z1 := (E.out.env.blocks (w.heap.size, #[.pointer (some ⟨pb, 0, none⟩)]) (by simp)).1.1; have z2 := (E.out.env.blocks (w2.heap.size, #[.float .f64 tl, .float .f64 th]) (by simp)).1.1; have k4 := (E.out.env.nth 0 rfl).2.1; have k5 := (E.out.env.nth 0 rfl).2.2; have k6 := (E.out.env.nth 1 rfl).2.1; have k7 := (E.out.env.nth 1 rfl).2.2; have y0 := (E.out.env.nth 0 rfl).1; have y1 := (E.out.env.nth 1 rfl).1; have y2 := E.out.twoA.1; have y3 := E.out.twoA.2)
        | (go_at_call 61; (with_reducible refine (c19.out _ (E.out).cal).mono ?_); rintro rr w5 ⟨rfl, hp⟩; have E' := Lib.hid ((E.out).putc hp); clear E hp; clear k1 k2 k3 z1 z2 k4 k5 k6 k7 y0 y1 y2 y3; have E := E'; clear E'; have k1 := (E.out.env.blocks (w.heap.size, #[.pointer (some ⟨pb, 0, none⟩)]) (by simp)).1.pc; obtain ⟨k2, k3⟩ := (E.out.env.blocks (w2.heap.size, #[.float .f64 tl, .float .f64 th]) (by simp)).1.two; have z1 := (E.out.env.blocks (w.heap.size, #[.pointer (some ⟨pb, 0, none⟩)]) (by simp)).1.1; have z2 := (E.out.env.blocks (w2.heap.size, #[.float .f64 tl, .float .f64 th]) (by simp)).1.1; have k4 := (E.out.env.nth 0 rfl).2.1; have k5 := (E.out.env.nth 0 rfl).2.2; have k6 := (E.out.env.nth 1 rfl).2.1; have k7 := (E.out.env.nth 1 rfl).2.2; have y0 := (E.out.env.nth 0 rfl).1; have y1 := (E.out.env.nth 1 rfl).1; have y2 := E.out.twoA.1; have y3 := E.out.twoA.2)
        | (go_at_call 61; (with_reducible refine (c19.out _ (E.out.drew).cal).mono ?_); rintro rr w5 ⟨rfl, hp⟩; have E' := Lib.hid ((E.out.drew).putc hp); clear E hp; clear k1 k2 k3 z1 z2 k4 k5 k6 k7 y0 y1 y2 y3; have E := E'; clear E'; have k1 := (E.out.env.blocks (w.heap.size, #[.pointer (some ⟨pb, 0, none⟩)]) (by simp)).1.pc; obtain ⟨k2, k3⟩ := (E.out.env.blocks (w2.heap.size, #[.float .f64 tl, .float .f64 th]) (by simp)).1.two; have z1 := (E.out.env.blocks (w.heap.size, #[.pointer (some ⟨pb, 0, none⟩)]) (by simp)).1.1; have z2 := (E.out.env.blocks (w2.heap.size, #[.float .f64 tl, .float .f64 th]) (by simp)).1.1; have k4 := (E.out.env.nth 0 rfl).2.1; have k5 := (E.out.env.nth 0 rfl).2.2; have k6 := (E.out.env.nth 1 rfl).2.1; have k7 := (E.out.env.nth 1 rfl).2.2; have y0 := (E.out.env.nth 0 rfl).1; have y1 := (E.out.env.nth 1 rfl).1; have y2 := E.out.twoA.1; have y3 := E.out.twoA.2)
        | (go_at_call 61; (with_reducible refine (c19.out _ ((E.out.made _ _)).cal).mono ?_); rintro rr w5 ⟨rfl, hp⟩; have zp := z1; have zq := z2; have E' := Lib.hid (((E.out.made _ _)).putc hp); clear E hp; clear k1 k2 k3 z1 z2 k4 k5 k6 k7 y0 y1 y2 y3; have E := E'; clear E'; have k1 := (E.out.env.blocks (w.heap.size, #[.pointer (some ⟨pb, 0, none⟩)]) (by simp)).1.pc; obtain ⟨k2, k3⟩ := (E.out.env.blocks (w2.heap.size, #[.float .f64 tl, .float .f64 th]) (by simp)).1.two; have z1 := (E.out.env.blocks (w.heap.size, #[.pointer (some ⟨pb, 0, none⟩)]) (by simp)).1.1; have z2 := (E.out.env.blocks (w2.heap.size, #[.float .f64 tl, .float .f64 th]) (by simp)).1.1; have k4 := (E.out.env.nth 0 rfl).2.1; have k5 := (E.out.env.nth 0 rfl).2.2; have k6 := (E.out.env.nth 1 rfl).2.1; have k7 := (E.out.env.nth 1 rfl).2.2; have y0 := (E.out.env.nth 0 rfl).1; have y1 := (E.out.env.nth 1 rfl).1; have y2 := E.out.twoA.1; have y3 := E.out.twoA.2)
        | (go_at_call 61; (with_reducible refine (c19.out _ ((E.out.made _ _).drew).cal).mono ?_); rintro rr w5 ⟨rfl, hp⟩; have zp := z1; have zq := z2; have E' := Lib.hid (((E.out.made _ _).drew).putc hp); clear E hp; clear k1 k2 k3 z1 z2 k4 k5 k6 k7 y0 y1 y2 y3; have E := E'; clear E'; have k1 := (E.out.env.blocks (w.heap.size, #[.pointer (some ⟨pb, 0, none⟩)]) (by simp)).1.pc; obtain ⟨k2, k3⟩ := (E.out.env.blocks (w2.heap.size, #[.float .f64 tl, .float .f64 th]) (by simp)).1.two; have z1 := (E.out.env.blocks (w.heap.size, #[.pointer (some ⟨pb, 0, none⟩)]) (by simp)).1.1; have z2 := (E.out.env.blocks (w2.heap.size, #[.float .f64 tl, .float .f64 th]) (by simp)).1.1; have k4 := (E.out.env.nth 0 rfl).2.1; have k5 := (E.out.env.nth 0 rfl).2.2; have k6 := (E.out.env.nth 1 rfl).2.1; have k7 := (E.out.env.nth 1 rfl).2.2; have y0 := (E.out.env.nth 0 rfl).1; have y1 := (E.out.env.nth 1 rfl).1; have y2 := E.out.twoA.1; have y3 := E.out.twoA.2)
        | (go_at_call 61; (with_reducible refine (c19.out _ (((E.out.made _ _).made _ _)).cal).mono ?_); rintro rr w5 ⟨rfl, hp⟩; have zp := z1; have zq := z2; have E' := Lib.hid ((((E.out.made _ _).made _ _)).putc hp); (try simp only [World.size_alloc] at E' zp zq); clear E hp; clear k1 k2 k3 z1 z2 k4 k5 k6 k7 y0 y1 y2 y3; have E := E'; clear E'; have k1 := (E.out.env.blocks (w.heap.size, #[.pointer (some ⟨pb, 0, none⟩)]) (by simp)).1.pc; obtain ⟨k2, k3⟩ := (E.out.env.blocks (w2.heap.size, #[.float .f64 tl, .float .f64 th]) (by simp)).1.two; have z1 := (E.out.env.blocks (w.heap.size, #[.pointer (some ⟨pb, 0, none⟩)]) (by simp)).1.1; have z2 := (E.out.env.blocks (w2.heap.size, #[.float .f64 tl, .float .f64 th]) (by simp)).1.1; have k4 := (E.out.env.nth 0 rfl).2.1; have k5 := (E.out.env.nth 0 rfl).2.2; have k6 := (E.out.env.nth 1 rfl).2.1; have k7 := (E.out.env.nth 1 rfl).2.2; have y0 := (E.out.env.nth 0 rfl).1; have y1 := (E.out.env.nth 1 rfl).1; have y2 := E.out.twoA.1; have y3 := E.out.twoA.2)
        | (go_at_call 61; (with_reducible refine (c19.out _ (((E.out.made _ _).made _ _).drew).cal).mono ?_); rintro rr w5 ⟨rfl, hp⟩; have zp := z1; have zq := z2; have E' := Lib.hid ((((E.out.made _ _).made _ _).drew).putc hp); (try simp only [World.size_alloc] at E' zp zq); clear E hp; clear k1 k2 k3 z1 z2 k4 k5 k6 k7 y0 y1 y2 y3; have E := E'; clear E'; have k1 := (E.out.env.blocks (w.heap.size, #[.pointer (some ⟨pb, 0, none⟩)]) (by simp)).1.pc; obtain ⟨k2, k3⟩ := (E.out.env.blocks (w2.heap.size, #[.float .f64 tl, .float .f64 th]) (by simp)).1.two; have z1 := (E.out.env.blocks (w.heap.size, #[.pointer (some ⟨pb, 0, none⟩)]) (by simp)).1.1; have z2 := (E.out.env.blocks (w2.heap.size, #[.float .f64 tl, .float .f64 th]) (by simp)).1.1; have k4 := (E.out.env.nth 0 rfl).2.1; have k5 := (E.out.env.nth 0 rfl).2.2; have k6 := (E.out.env.nth 1 rfl).2.1; have k7 := (E.out.env.nth 1 rfl).2.2; have y0 := (E.out.env.nth 0 rfl).1; have y1 := (E.out.env.nth 1 rfl).1; have y2 := E.out.twoA.1; have y3 := E.out.twoA.2))
    all_goals (go_wp2_with fail; go_meet)
    all_goals first | exact KeptTwo.both E.out | exact KeptTwo.both' E.out | exact KeptTwo.one E.out | exact KeptTwo.one' E.out | exact KeptTwo.two E.out | exact KeptTwo.two' E.out
  case rest =>
    obtain ⟨w3, rfl⟩ : ∃ x : World, x = wc := ⟨_, rfl⟩
    obtain ⟨sp, kp, rfl, rfl, hE⟩ := hcut
    clear k1 k2 k3 z1 z2 k4 k5 k6 k7 y0 y1 y2 y3
    clear E
    have E := Lib.hid hE
    clear hE c20 cM c19
    have np : pb ≠ sp := (E.out.env.blocks (sp, #[.float .f64 sl, .float .f64 sh]) (by simp)).2
    have nk : pb ≠ kp := (E.out.env.blocks (kp, #[.float .f64 kl, .float .f64 kh]) (by simp)).2
    go_upto_region 5 with fail
    replace E : Hid (EnvL w pb [(w3.heap.size, #[.func (.func 62) #[] #[.pointer (some ⟨sp, 0, none⟩), .pointer (some ⟨kp, 0, none⟩)], .func (.func 63) #[] #[.pointer (some ⟨kp, 0, none⟩), .pointer (some ⟨w.heap.size, 0, none⟩), .pointer (some ⟨sp, 0, none⟩)], .func (.func 65) #[] #[.pointer (some ⟨w.heap.size, 0, none⟩), .pointer (some ⟨sp, 0, none⟩), .pointer (some ⟨kp, 0, none⟩)], .func (.func 66) #[] #[.pointer (some ⟨w.heap.size, 0, none⟩), .pointer (some ⟨kp, 0, none⟩), .pointer (some ⟨sp, 0, none⟩)]]), (sp, #[.float .f64 sl, .float .f64 sh]), (kp, #[.float .f64 kl, .float .f64 kh]), (w2.heap.size, #[.float .f64 tl, .float .f64 th]), (w.heap.size + 1 + 1, #[.float .f64 0, .float .f64 0]), (w.heap.size + 1, #[.float .f64 0, .float .f64 0]), (w.heap.size, #[.pointer (some ⟨pb, 0, none⟩)])] (w3.alloc (.cells #[.func (.func 62) #[] #[.pointer (some ⟨sp, 0, none⟩), .pointer (some ⟨kp, 0, none⟩)], .func (.func 63) #[] #[.pointer (some ⟨kp, 0, none⟩), .pointer (some ⟨w.heap.size, 0, none⟩), .pointer (some ⟨sp, 0, none⟩)], .func (.func 65) #[] #[.pointer (some ⟨w.heap.size, 0, none⟩), .pointer (some ⟨sp, 0, none⟩), .pointer (some ⟨kp, 0, none⟩)], .func (.func 66) #[] #[.pointer (some ⟨w.heap.size, 0, none⟩), .pointer (some ⟨kp, 0, none⟩), .pointer (some ⟨sp, 0, none⟩)]] 95))) := Lib.hid (E.out.made #[.func (.func 62) #[] #[.pointer (some ⟨sp, 0, none⟩), .pointer (some ⟨kp, 0, none⟩)], .func (.func 63) #[] #[.pointer (some ⟨kp, 0, none⟩), .pointer (some ⟨w.heap.size, 0, none⟩), .pointer (some ⟨sp, 0, none⟩)], .func (.func 65) #[] #[.pointer (some ⟨w.heap.size, 0, none⟩), .pointer (some ⟨sp, 0, none⟩), .pointer (some ⟨kp, 0, none⟩)], .func (.func 66) #[] #[.pointer (some ⟨w.heap.size, 0, none⟩), .pointer (some ⟨kp, 0, none⟩), .pointer (some ⟨sp, 0, none⟩)]] 95)
    rcases hR.out with ⟨hj', rfl, rfl, rfl, rfl⟩ | ⟨rfl, rfl, rfl, rfl, rfl⟩ | ⟨rfl, rfl, rfl, rfl, rfl⟩ | ⟨rfl, rfl, rfl, rfl, rfl⟩
    · clear hR
      rcases hj' with rfl | rfl
      · clear hj
        have ca := (E.out.env.nth 0 rfl).2.1
        go_wp2_with fail
        clear ca
        ((with_reducible refine (lit1 sl sh kl kh pb w.heap.size sp kp _ E.out.cal (E.out.env.blocks (w.heap.size, #[.pointer (some ⟨pb, 0, none⟩)]) (by simp)).1 (E.out.env.blocks (sp, #[.float .f64 sl, .float .f64 sh]) (by simp)).1 (E.out.env.blocks (kp, #[.float .f64 kl, .float .f64 kh]) (by simp)).1 n1 np nk).mono ?_); rintro rr w6 ⟨rfl, hp⟩; replace E := Lib.hid (E.out.putc hp); clear hp)
        have q1 := (E.out.env.blocks (w.heap.size + 1, #[.float .f64 0, .float .f64 0]) (by simp)).1.2.1
        have q2 := (E.out.env.blocks (w.heap.size + 1, #[.float .f64 0, .float .f64 0]) (by simp)).1.2.2
        have q3 := (E.out.env.blocks (w.heap.size + 1 + 1, #[.float .f64 0, .float .f64 0]) (by simp)).1.2.1
        have q4 := (E.out.env.blocks (w.heap.size + 1 + 1, #[.float .f64 0, .float .f64 0]) (by simp)).1.2.2
        have E2 := Lib.hid (E.out.env.set2 (E.out.env.blocks (w.heap.size + 1, #[.float .f64 0, .float .f64 0]) (by simp)).1 (E.out.env.blocks (w.heap.size + 1, #[.float .f64 0, .float .f64 0]) (by simp)).2 (by omega) (.float .f64 sl) (.float .f64 sh) [(w.heap.size + 1, #[.float .f64 sl, .float .f64 sh]), (w.heap.size + 1 + 1, #[.float .f64 0, .float .f64 0])] (by simp))
        clear E
        have E := Lib.hid (E2.out.set2 (E2.out.nth 1 rfl) (E2.out.ne 1 rfl) (by omega) (.float .f64 kl) (.float .f64 kh) [(w.heap.size + 1, #[.float .f64 sl, .float .f64 sh]), (w.heap.size + 1 + 1, #[.float .f64 kl, .float .f64 kh])] (by simp))
        clear E2
        go_upto_region 6 with fail
        clear q1 q2 q3 q4
        replace E := Lib.hid E.out.drew
        obtain ⟨k1, k2⟩ := (E.out.nth 0 rfl).two
        obtain ⟨k3, k4⟩ := (E.out.nth 1 rfl).two
        refine wp_region_noPanic ?_
        refine tails_region (S := fun w' => w'.cell? ⟨w.heap.size + 1, 0, none⟩ = some (.float .f64 sl) ∧ w'.cell? ⟨w.heap.size + 1, 1, none⟩ = some (.float .f64 sh) ∧ w'.cell? ⟨w.heap.size + 1 + 1, 0, none⟩ = some (.float .f64 kl) ∧ w'.cell? ⟨w.heap.size + 1 + 1, 1, none⟩ = some (.float .f64 kh)) [4, 5] (by kernel_rfl) ?_ (fun hS => ?_)
        · exact ⟨k1, k2, k3, k4⟩
        refine tails_take (T := [4, 5]) (i := 0) (o := _) (x := ?_) rfl (by kernel_rfl) (by kernel_rfl) (by kernel_rfl) (by kernel_rfl) (fun _ _ _ h => h) (Or.inl ⟨by rfl, ?_⟩) (by assumption) ?_
        rotate_left; focus (intro w hSw; (try dsimp only at hSw); go_simp; first | done | with_reducible rfl)
        refine tails_take (T := [4, 5]) (i := 2) (o := _) (x := ?_) rfl (by kernel_rfl) (by kernel_rfl) (by kernel_rfl) (by kernel_rfl) (fun _ _ _ h => h) (Or.inl ⟨by rfl, ?_⟩) (by assumption) ?_
        rotate_left; focus (intro w hSw; (try dsimp only at hSw); go_simp; first | done | with_reducible rfl)
        refine tails_one (T := [4, 5]) (i := 1) (o := _) rfl (by kernel_rfl) (fun K hK => ?_)
        go_simp
        ((with_reducible refine (bS.out _).mono ?_); rintro rr w7 ⟨rfl, hb⟩; replace E := Lib.hid (E.out.below hb); clear hb k1 k2 k3 k4; obtain ⟨k1, k2⟩ := (E.out.nth 0 rfl).two; obtain ⟨k3, k4⟩ := (E.out.nth 1 rfl).two)
        try go_wp2_with fail
        refine hK.out _ _ (Or.inr ⟨k1, k2, k3, k4⟩) (fun hHeld => ?_)
        clear hK K hS
        have hS := hHeld.resolve_left (by decide)
        clear hHeld
        refine tails_one (T := [4, 5]) (i := 3) (o := _) rfl (by kernel_rfl) (fun K hK => ?_)
        go_simp
        ((with_reducible refine (bK.out _).mono ?_); rintro rr w7 ⟨rfl, hb⟩; replace E := Lib.hid (E.out.below hb); clear hb k1 k2 k3 k4; obtain ⟨k1, k2⟩ := (E.out.nth 0 rfl).two; obtain ⟨k3, k4⟩ := (E.out.nth 1 rfl).two)
        try go_wp2_with fail
        refine hK.out _ _ (Or.inr ⟨k1, k2, k3, k4⟩) (fun hHeld => ?_)
        clear hK K hS
        have hS := hHeld.resolve_left (by decide)
        clear hHeld
        clear k1 k2 k3 k4 hS
        refine tails_one (T := [4, 5]) (i := 4) (o := _) rfl (by kernel_rfl) (fun K hK => ?_)
        have kc := (E.out.nth 0 rfl).2.1
        have kf := (E.out.nth 0 rfl).2.2
        replace E := Lib.hid (E.out.set2 (E.out.nth 0 rfl) (E.out.ne 0 rfl) (by omega) (.float .f64 al) (.float .f64 ah) [(w.heap.size + 1, #[.float .f64 al, .float .f64 ah]), (w.heap.size + 1 + 1, #[.float .f64 kl, .float .f64 kh])] (by simp))
        go_simp
        refine hK.out _ _ (Or.inl (by decide)) (fun hHeld => ?_)
        clear hK K hHeld kc kf
        refine tails_one (T := [4, 5]) (i := 5) (o := _) rfl (by kernel_rfl) (fun K hK => ?_)
        have kc := (E.out.nth 1 rfl).2.1
        have kf := (E.out.nth 1 rfl).2.2
        replace E := Lib.hid (E.out.set2 (E.out.nth 1 rfl) (E.out.ne 1 rfl) (by omega) (.float .f64 bl) (.float .f64 bh) [(w.heap.size + 1, #[.float .f64 al, .float .f64 ah]), (w.heap.size + 1 + 1, #[.float .f64 bl, .float .f64 bh])] (by simp))
        go_simp
        refine hK.out _ _ (Or.inl (by decide)) (fun hHeld => ?_)
        clear hK K hHeld kc kf
        refine tails_done (by kernel_rfl) ?_ _
        refine NoPanic.normal ?_
        go_wp2
        have f1 := (E.out.nth 0 rfl).2.1
        have g1 := (E.out.nth 1 rfl).2.1
        exact bodyPost_ret (v := .tuple #[.agg #[.float .f64 al, .float .f64 ah], .agg #[.float .f64 bl, .float .f64 bh]]) (by simp [results, Try.results37, go_sem, f1, g1]) rfl ⟨rfl, E.out.put⟩
      · clear hj
        have ca := (E.out.env.nth 0 rfl).2.1
        go_wp2_with fail
        clear ca
        ((with_reducible refine (lit1 sl sh kl kh pb w.heap.size sp kp _ E.out.cal (E.out.env.blocks (w.heap.size, #[.pointer (some ⟨pb, 0, none⟩)]) (by simp)).1 (E.out.env.blocks (sp, #[.float .f64 sl, .float .f64 sh]) (by simp)).1 (E.out.env.blocks (kp, #[.float .f64 kl, .float .f64 kh]) (by simp)).1 n1 np nk).mono ?_); rintro rr w6 ⟨rfl, hp⟩; replace E := Lib.hid (E.out.putc hp); clear hp)
        have q1 := (E.out.env.blocks (w.heap.size + 1, #[.float .f64 0, .float .f64 0]) (by simp)).1.2.1
        have q2 := (E.out.env.blocks (w.heap.size + 1, #[.float .f64 0, .float .f64 0]) (by simp)).1.2.2
        have q3 := (E.out.env.blocks (w.heap.size + 1 + 1, #[.float .f64 0, .float .f64 0]) (by simp)).1.2.1
        have q4 := (E.out.env.blocks (w.heap.size + 1 + 1, #[.float .f64 0, .float .f64 0]) (by simp)).1.2.2
        have E2 := Lib.hid (E.out.env.set2 (E.out.env.blocks (w.heap.size + 1, #[.float .f64 0, .float .f64 0]) (by simp)).1 (E.out.env.blocks (w.heap.size + 1, #[.float .f64 0, .float .f64 0]) (by simp)).2 (by omega) (.float .f64 sl) (.float .f64 sh) [(w.heap.size + 1, #[.float .f64 sl, .float .f64 sh]), (w.heap.size + 1 + 1, #[.float .f64 0, .float .f64 0])] (by simp))
        clear E
        have E := Lib.hid (E2.out.set2 (E2.out.nth 1 rfl) (E2.out.ne 1 rfl) (by omega) (.float .f64 kl) (.float .f64 kh) [(w.heap.size + 1, #[.float .f64 sl, .float .f64 sh]), (w.heap.size + 1 + 1, #[.float .f64 kl, .float .f64 kh])] (by simp))
        clear E2
        go_upto_region 6 with fail
        clear q1 q2 q3 q4
        replace E := Lib.hid E.out.drew
        obtain ⟨k1, k2⟩ := (E.out.nth 0 rfl).two
        obtain ⟨k3, k4⟩ := (E.out.nth 1 rfl).two
        refine wp_region_noPanic ?_
        refine tails_region (S := fun w' => w'.cell? ⟨w.heap.size + 1, 0, none⟩ = some (.float .f64 sl) ∧ w'.cell? ⟨w.heap.size + 1, 1, none⟩ = some (.float .f64 sh) ∧ w'.cell? ⟨w.heap.size + 1 + 1, 0, none⟩ = some (.float .f64 kl) ∧ w'.cell? ⟨w.heap.size + 1 + 1, 1, none⟩ = some (.float .f64 kh)) [4, 5] (by kernel_rfl) ?_ (fun hS => ?_)
        · exact ⟨k1, k2, k3, k4⟩
        refine tails_take (T := [4, 5]) (i := 0) (o := _) (x := ?_) rfl (by kernel_rfl) (by kernel_rfl) (by kernel_rfl) (by kernel_rfl) (fun _ _ _ h => h) (Or.inl ⟨by rfl, ?_⟩) (by assumption) ?_
        rotate_left; focus (intro w hSw; (try dsimp only at hSw); go_simp; first | done | with_reducible rfl)
        refine tails_take (T := [4, 5]) (i := 2) (o := _) (x := ?_) rfl (by kernel_rfl) (by kernel_rfl) (by kernel_rfl) (by kernel_rfl) (fun _ _ _ h => h) (Or.inl ⟨by rfl, ?_⟩) (by assumption) ?_
        rotate_left; focus (intro w hSw; (try dsimp only at hSw); go_simp; first | done | with_reducible rfl)
        refine tails_one (T := [4, 5]) (i := 1) (o := _) rfl (by kernel_rfl) (fun K hK => ?_)
        go_simp
        ((with_reducible refine (bS.out _).mono ?_); rintro rr w7 ⟨rfl, hb⟩; replace E := Lib.hid (E.out.below hb); clear hb k1 k2 k3 k4; obtain ⟨k1, k2⟩ := (E.out.nth 0 rfl).two; obtain ⟨k3, k4⟩ := (E.out.nth 1 rfl).two)
        try go_wp2_with fail
        refine hK.out _ _ (Or.inr ⟨k1, k2, k3, k4⟩) (fun hHeld => ?_)
        clear hK K hS
        have hS := hHeld.resolve_left (by decide)
        clear hHeld
        refine tails_one (T := [4, 5]) (i := 3) (o := _) rfl (by kernel_rfl) (fun K hK => ?_)
        go_simp
        ((with_reducible refine (bK.out _).mono ?_); rintro rr w7 ⟨rfl, hb⟩; replace E := Lib.hid (E.out.below hb); clear hb k1 k2 k3 k4; obtain ⟨k1, k2⟩ := (E.out.nth 0 rfl).two; obtain ⟨k3, k4⟩ := (E.out.nth 1 rfl).two)
        try go_wp2_with fail
        refine hK.out _ _ (Or.inr ⟨k1, k2, k3, k4⟩) (fun hHeld => ?_)
        clear hK K hS
        have hS := hHeld.resolve_left (by decide)
        clear hHeld
        clear k1 k2 k3 k4 hS
        refine tails_one (T := [4, 5]) (i := 4) (o := _) rfl (by kernel_rfl) (fun K hK => ?_)
        have kc := (E.out.nth 0 rfl).2.1
        have kf := (E.out.nth 0 rfl).2.2
        replace E := Lib.hid (E.out.set2 (E.out.nth 0 rfl) (E.out.ne 0 rfl) (by omega) (.float .f64 al) (.float .f64 ah) [(w.heap.size + 1, #[.float .f64 al, .float .f64 ah]), (w.heap.size + 1 + 1, #[.float .f64 kl, .float .f64 kh])] (by simp))
        go_simp
        refine hK.out _ _ (Or.inl (by decide)) (fun hHeld => ?_)
        clear hK K hHeld kc kf
        refine tails_one (T := [4, 5]) (i := 5) (o := _) rfl (by kernel_rfl) (fun K hK => ?_)
        have kc := (E.out.nth 1 rfl).2.1
        have kf := (E.out.nth 1 rfl).2.2
        replace E := Lib.hid (E.out.set2 (E.out.nth 1 rfl) (E.out.ne 1 rfl) (by omega) (.float .f64 bl) (.float .f64 bh) [(w.heap.size + 1, #[.float .f64 al, .float .f64 ah]), (w.heap.size + 1 + 1, #[.float .f64 bl, .float .f64 bh])] (by simp))
        go_simp
        refine hK.out _ _ (Or.inl (by decide)) (fun hHeld => ?_)
        clear hK K hHeld kc kf
        refine tails_done (by kernel_rfl) ?_ _
        refine NoPanic.normal ?_
        go_wp2
        have f1 := (E.out.nth 0 rfl).2.1
        have g1 := (E.out.nth 1 rfl).2.1
        exact bodyPost_ret (v := .tuple #[.agg #[.float .f64 al, .float .f64 ah], .agg #[.float .f64 bl, .float .f64 bh]]) (by simp [results, Try.results37, go_sem, f1, g1]) rfl ⟨rfl, E.out.put⟩
    · clear hR hj
      have ca := (E.out.env.nth 0 rfl).2.1
      go_wp2_with fail
      clear ca
      ((with_reducible refine (lit2 sl sh kl kh xl xh pb w.heap.size sp kp _ E.out.cal (E.out.env.blocks (w.heap.size, #[.pointer (some ⟨pb, 0, none⟩)]) (by simp)).1 (E.out.env.blocks (sp, #[.float .f64 sl, .float .f64 sh]) (by simp)).1 (E.out.env.blocks (kp, #[.float .f64 kl, .float .f64 kh]) (by simp)).1 n1 np nk cNs).mono ?_); rintro rr w6 ⟨rfl, hp⟩; replace E := Lib.hid (E.out.putc hp); clear hp)
      have q1 := (E.out.env.blocks (w.heap.size + 1, #[.float .f64 0, .float .f64 0]) (by simp)).1.2.1
      have q2 := (E.out.env.blocks (w.heap.size + 1, #[.float .f64 0, .float .f64 0]) (by simp)).1.2.2
      have q3 := (E.out.env.blocks (w.heap.size + 1 + 1, #[.float .f64 0, .float .f64 0]) (by simp)).1.2.1
      have q4 := (E.out.env.blocks (w.heap.size + 1 + 1, #[.float .f64 0, .float .f64 0]) (by simp)).1.2.2
      have E2 := Lib.hid (E.out.env.set2 (E.out.env.blocks (w.heap.size + 1, #[.float .f64 0, .float .f64 0]) (by simp)).1 (E.out.env.blocks (w.heap.size + 1, #[.float .f64 0, .float .f64 0]) (by simp)).2 (by omega) (.float .f64 kl) (.float .f64 kh) [(w.heap.size + 1, #[.float .f64 kl, .float .f64 kh]), (w.heap.size + 1 + 1, #[.float .f64 0, .float .f64 0])] (by simp))
      clear E
      have E := Lib.hid (E2.out.set2 (E2.out.nth 1 rfl) (E2.out.ne 1 rfl) (by omega) (.float .f64 xl) (.float .f64 xh) [(w.heap.size + 1, #[.float .f64 kl, .float .f64 kh]), (w.heap.size + 1 + 1, #[.float .f64 xl, .float .f64 xh])] (by simp))
      clear E2
      go_upto_region 6 with fail
      clear q1 q2 q3 q4
      replace E := Lib.hid E.out.drew
      obtain ⟨k1, k2⟩ := (E.out.nth 0 rfl).two
      obtain ⟨k3, k4⟩ := (E.out.nth 1 rfl).two
      refine wp_region_noPanic ?_
      refine tails_region (S := fun w' => w'.cell? ⟨w.heap.size + 1, 0, none⟩ = some (.float .f64 kl) ∧ w'.cell? ⟨w.heap.size + 1, 1, none⟩ = some (.float .f64 kh) ∧ w'.cell? ⟨w.heap.size + 1 + 1, 0, none⟩ = some (.float .f64 xl) ∧ w'.cell? ⟨w.heap.size + 1 + 1, 1, none⟩ = some (.float .f64 xh)) [4, 5] (by kernel_rfl) ?_ (fun hS => ?_)
      · exact ⟨k1, k2, k3, k4⟩
      refine tails_take (T := [4, 5]) (i := 0) (o := _) (x := ?_) rfl (by kernel_rfl) (by kernel_rfl) (by kernel_rfl) (by kernel_rfl) (fun _ _ _ h => h) (Or.inl ⟨by rfl, ?_⟩) (by assumption) ?_
      rotate_left; focus (intro w hSw; (try dsimp only at hSw); go_simp; first | done | with_reducible rfl)
      refine tails_take (T := [4, 5]) (i := 2) (o := _) (x := ?_) rfl (by kernel_rfl) (by kernel_rfl) (by kernel_rfl) (by kernel_rfl) (fun _ _ _ h => h) (Or.inl ⟨by rfl, ?_⟩) (by assumption) ?_
      rotate_left; focus (intro w hSw; (try dsimp only at hSw); go_simp; first | done | with_reducible rfl)
      refine tails_one (T := [4, 5]) (i := 1) (o := _) rfl (by kernel_rfl) (fun K hK => ?_)
      go_simp
      ((with_reducible refine (bK.out _).mono ?_); rintro rr w7 ⟨rfl, hb⟩; replace E := Lib.hid (E.out.below hb); clear hb k1 k2 k3 k4; obtain ⟨k1, k2⟩ := (E.out.nth 0 rfl).two; obtain ⟨k3, k4⟩ := (E.out.nth 1 rfl).two)
      try go_wp2_with fail
      refine hK.out _ _ (Or.inr ⟨k1, k2, k3, k4⟩) (fun hHeld => ?_)
      clear hK K hS
      have hS := hHeld.resolve_left (by decide)
      clear hHeld
      refine tails_one (T := [4, 5]) (i := 3) (o := _) rfl (by kernel_rfl) (fun K hK => ?_)
      go_simp
      ((with_reducible refine (bX.out _).mono ?_); rintro rr w7 ⟨rfl, hb⟩; replace E := Lib.hid (E.out.below hb); clear hb k1 k2 k3 k4; obtain ⟨k1, k2⟩ := (E.out.nth 0 rfl).two; obtain ⟨k3, k4⟩ := (E.out.nth 1 rfl).two)
      try go_wp2_with fail
      refine hK.out _ _ (Or.inr ⟨k1, k2, k3, k4⟩) (fun hHeld => ?_)
      clear hK K hS
      have hS := hHeld.resolve_left (by decide)
      clear hHeld
      clear k1 k2 k3 k4 hS
      refine tails_one (T := [4, 5]) (i := 4) (o := _) rfl (by kernel_rfl) (fun K hK => ?_)
      have kc := (E.out.nth 0 rfl).2.1
      have kf := (E.out.nth 0 rfl).2.2
      replace E := Lib.hid (E.out.set2 (E.out.nth 0 rfl) (E.out.ne 0 rfl) (by omega) (.float .f64 al) (.float .f64 ah) [(w.heap.size + 1, #[.float .f64 al, .float .f64 ah]), (w.heap.size + 1 + 1, #[.float .f64 xl, .float .f64 xh])] (by simp))
      go_simp
      refine hK.out _ _ (Or.inl (by decide)) (fun hHeld => ?_)
      clear hK K hHeld kc kf
      refine tails_one (T := [4, 5]) (i := 5) (o := _) rfl (by kernel_rfl) (fun K hK => ?_)
      have kc := (E.out.nth 1 rfl).2.1
      have kf := (E.out.nth 1 rfl).2.2
      replace E := Lib.hid (E.out.set2 (E.out.nth 1 rfl) (E.out.ne 1 rfl) (by omega) (.float .f64 bl) (.float .f64 bh) [(w.heap.size + 1, #[.float .f64 al, .float .f64 ah]), (w.heap.size + 1 + 1, #[.float .f64 bl, .float .f64 bh])] (by simp))
      go_simp
      refine hK.out _ _ (Or.inl (by decide)) (fun hHeld => ?_)
      clear hK K hHeld kc kf
      refine tails_done (by kernel_rfl) ?_ _
      refine NoPanic.normal ?_
      go_wp2
      have f1 := (E.out.nth 0 rfl).2.1
      have g1 := (E.out.nth 1 rfl).2.1
      exact bodyPost_ret (v := .tuple #[.agg #[.float .f64 al, .float .f64 ah], .agg #[.float .f64 bl, .float .f64 bh]]) (by simp [results, Try.results37, go_sem, f1, g1]) rfl ⟨rfl, E.out.put⟩
    · clear hR hj
      have ca := (E.out.env.nth 0 rfl).2.1
      go_wp2_with fail
      clear ca
      ((with_reducible refine (lit3 sl sh kl kh xl xh yl yh pb w.heap.size sp kp _ E.out.cal (E.out.env.blocks (w.heap.size, #[.pointer (some ⟨pb, 0, none⟩)]) (by simp)).1 (E.out.env.blocks (sp, #[.float .f64 sl, .float .f64 sh]) (by simp)).1 (E.out.env.blocks (kp, #[.float .f64 kl, .float .f64 kh]) (by simp)).1 n1 np nk cNs cNk).mono ?_); rintro rr w6 ⟨rfl, hp⟩; replace E := Lib.hid (E.out.putc hp); clear hp)
      have q1 := (E.out.env.blocks (w.heap.size + 1, #[.float .f64 0, .float .f64 0]) (by simp)).1.2.1
      have q2 := (E.out.env.blocks (w.heap.size + 1, #[.float .f64 0, .float .f64 0]) (by simp)).1.2.2
      have q3 := (E.out.env.blocks (w.heap.size + 1 + 1, #[.float .f64 0, .float .f64 0]) (by simp)).1.2.1
      have q4 := (E.out.env.blocks (w.heap.size + 1 + 1, #[.float .f64 0, .float .f64 0]) (by simp)).1.2.2
      have E2 := Lib.hid (E.out.env.set2 (E.out.env.blocks (w.heap.size + 1, #[.float .f64 0, .float .f64 0]) (by simp)).1 (E.out.env.blocks (w.heap.size + 1, #[.float .f64 0, .float .f64 0]) (by simp)).2 (by omega) (.float .f64 xl) (.float .f64 xh) [(w.heap.size + 1, #[.float .f64 xl, .float .f64 xh]), (w.heap.size + 1 + 1, #[.float .f64 0, .float .f64 0])] (by simp))
      clear E
      have E := Lib.hid (E2.out.set2 (E2.out.nth 1 rfl) (E2.out.ne 1 rfl) (by omega) (.float .f64 yl) (.float .f64 yh) [(w.heap.size + 1, #[.float .f64 xl, .float .f64 xh]), (w.heap.size + 1 + 1, #[.float .f64 yl, .float .f64 yh])] (by simp))
      clear E2
      go_upto_region 6 with fail
      clear q1 q2 q3 q4
      replace E := Lib.hid E.out.drew
      obtain ⟨k1, k2⟩ := (E.out.nth 0 rfl).two
      obtain ⟨k3, k4⟩ := (E.out.nth 1 rfl).two
      refine wp_region_noPanic ?_
      refine tails_region (S := fun w' => w'.cell? ⟨w.heap.size + 1, 0, none⟩ = some (.float .f64 xl) ∧ w'.cell? ⟨w.heap.size + 1, 1, none⟩ = some (.float .f64 xh) ∧ w'.cell? ⟨w.heap.size + 1 + 1, 0, none⟩ = some (.float .f64 yl) ∧ w'.cell? ⟨w.heap.size + 1 + 1, 1, none⟩ = some (.float .f64 yh)) [4, 5] (by kernel_rfl) ?_ (fun hS => ?_)
      · exact ⟨k1, k2, k3, k4⟩
      refine tails_take (T := [4, 5]) (i := 0) (o := _) (x := ?_) rfl (by kernel_rfl) (by kernel_rfl) (by kernel_rfl) (by kernel_rfl) (fun _ _ _ h => h) (Or.inl ⟨by rfl, ?_⟩) (by assumption) ?_
      rotate_left; focus (intro w hSw; (try dsimp only at hSw); go_simp; first | done | with_reducible rfl)
      refine tails_take (T := [4, 5]) (i := 2) (o := _) (x := ?_) rfl (by kernel_rfl) (by kernel_rfl) (by kernel_rfl) (by kernel_rfl) (fun _ _ _ h => h) (Or.inl ⟨by rfl, ?_⟩) (by assumption) ?_
      rotate_left; focus (intro w hSw; (try dsimp only at hSw); go_simp; first | done | with_reducible rfl)
      refine tails_one (T := [4, 5]) (i := 1) (o := _) rfl (by kernel_rfl) (fun K hK => ?_)
      go_simp
      ((with_reducible refine (bX.out _).mono ?_); rintro rr w7 ⟨rfl, hb⟩; replace E := Lib.hid (E.out.below hb); clear hb k1 k2 k3 k4; obtain ⟨k1, k2⟩ := (E.out.nth 0 rfl).two; obtain ⟨k3, k4⟩ := (E.out.nth 1 rfl).two)
      try go_wp2_with fail
      refine hK.out _ _ (Or.inr ⟨k1, k2, k3, k4⟩) (fun hHeld => ?_)
      clear hK K hS
      have hS := hHeld.resolve_left (by decide)
      clear hHeld
      refine tails_one (T := [4, 5]) (i := 3) (o := _) rfl (by kernel_rfl) (fun K hK => ?_)
      go_simp
      ((with_reducible refine (bY.out _).mono ?_); rintro rr w7 ⟨rfl, hb⟩; replace E := Lib.hid (E.out.below hb); clear hb k1 k2 k3 k4; obtain ⟨k1, k2⟩ := (E.out.nth 0 rfl).two; obtain ⟨k3, k4⟩ := (E.out.nth 1 rfl).two)
      try go_wp2_with fail
      refine hK.out _ _ (Or.inr ⟨k1, k2, k3, k4⟩) (fun hHeld => ?_)
      clear hK K hS
      have hS := hHeld.resolve_left (by decide)
      clear hHeld
      clear k1 k2 k3 k4 hS
      refine tails_one (T := [4, 5]) (i := 4) (o := _) rfl (by kernel_rfl) (fun K hK => ?_)
      have kc := (E.out.nth 0 rfl).2.1
      have kf := (E.out.nth 0 rfl).2.2
      replace E := Lib.hid (E.out.set2 (E.out.nth 0 rfl) (E.out.ne 0 rfl) (by omega) (.float .f64 al) (.float .f64 ah) [(w.heap.size + 1, #[.float .f64 al, .float .f64 ah]), (w.heap.size + 1 + 1, #[.float .f64 yl, .float .f64 yh])] (by simp))
      go_simp
      refine hK.out _ _ (Or.inl (by decide)) (fun hHeld => ?_)
      clear hK K hHeld kc kf
      refine tails_one (T := [4, 5]) (i := 5) (o := _) rfl (by kernel_rfl) (fun K hK => ?_)
      have kc := (E.out.nth 1 rfl).2.1
      have kf := (E.out.nth 1 rfl).2.2
      replace E := Lib.hid (E.out.set2 (E.out.nth 1 rfl) (E.out.ne 1 rfl) (by omega) (.float .f64 bl) (.float .f64 bh) [(w.heap.size + 1, #[.float .f64 al, .float .f64 ah]), (w.heap.size + 1 + 1, #[.float .f64 bl, .float .f64 bh])] (by simp))
      go_simp
      refine hK.out _ _ (Or.inl (by decide)) (fun hHeld => ?_)
      clear hK K hHeld kc kf
      refine tails_done (by kernel_rfl) ?_ _
      refine NoPanic.normal ?_
      go_wp2
      have f1 := (E.out.nth 0 rfl).2.1
      have g1 := (E.out.nth 1 rfl).2.1
      exact bodyPost_ret (v := .tuple #[.agg #[.float .f64 al, .float .f64 ah], .agg #[.float .f64 bl, .float .f64 bh]]) (by simp [results, Try.results37, go_sem, f1, g1]) rfl ⟨rfl, E.out.put⟩
    · clear hR hj
      have ca := (E.out.env.nth 0 rfl).2.1
      go_wp2_with fail
      clear ca
      ((with_reducible refine (lit4 sl sh kl kh yl yh pb w.heap.size sp kp _ E.out.cal (E.out.env.blocks (w.heap.size, #[.pointer (some ⟨pb, 0, none⟩)]) (by simp)).1 (E.out.env.blocks (sp, #[.float .f64 sl, .float .f64 sh]) (by simp)).1 (E.out.env.blocks (kp, #[.float .f64 kl, .float .f64 kh]) (by simp)).1 n1 np nk cNk).mono ?_); rintro rr w6 ⟨rfl, hp⟩; replace E := Lib.hid (E.out.putc hp); clear hp)
      have q1 := (E.out.env.blocks (w.heap.size + 1, #[.float .f64 0, .float .f64 0]) (by simp)).1.2.1
      have q2 := (E.out.env.blocks (w.heap.size + 1, #[.float .f64 0, .float .f64 0]) (by simp)).1.2.2
      have q3 := (E.out.env.blocks (w.heap.size + 1 + 1, #[.float .f64 0, .float .f64 0]) (by simp)).1.2.1
      have q4 := (E.out.env.blocks (w.heap.size + 1 + 1, #[.float .f64 0, .float .f64 0]) (by simp)).1.2.2
      have E2 := Lib.hid (E.out.env.set2 (E.out.env.blocks (w.heap.size + 1, #[.float .f64 0, .float .f64 0]) (by simp)).1 (E.out.env.blocks (w.heap.size + 1, #[.float .f64 0, .float .f64 0]) (by simp)).2 (by omega) (.float .f64 yl) (.float .f64 yh) [(w.heap.size + 1, #[.float .f64 yl, .float .f64 yh]), (w.heap.size + 1 + 1, #[.float .f64 0, .float .f64 0])] (by simp))
      clear E
      have E := Lib.hid (E2.out.set2 (E2.out.nth 1 rfl) (E2.out.ne 1 rfl) (by omega) (.float .f64 sl) (.float .f64 sh) [(w.heap.size + 1, #[.float .f64 yl, .float .f64 yh]), (w.heap.size + 1 + 1, #[.float .f64 sl, .float .f64 sh])] (by simp))
      clear E2
      go_upto_region 6 with fail
      clear q1 q2 q3 q4
      replace E := Lib.hid E.out.drew
      obtain ⟨k1, k2⟩ := (E.out.nth 0 rfl).two
      obtain ⟨k3, k4⟩ := (E.out.nth 1 rfl).two
      refine wp_region_noPanic ?_
      refine tails_region (S := fun w' => w'.cell? ⟨w.heap.size + 1, 0, none⟩ = some (.float .f64 yl) ∧ w'.cell? ⟨w.heap.size + 1, 1, none⟩ = some (.float .f64 yh) ∧ w'.cell? ⟨w.heap.size + 1 + 1, 0, none⟩ = some (.float .f64 sl) ∧ w'.cell? ⟨w.heap.size + 1 + 1, 1, none⟩ = some (.float .f64 sh)) [4, 5] (by kernel_rfl) ?_ (fun hS => ?_)
      · exact ⟨k1, k2, k3, k4⟩
      refine tails_take (T := [4, 5]) (i := 0) (o := _) (x := ?_) rfl (by kernel_rfl) (by kernel_rfl) (by kernel_rfl) (by kernel_rfl) (fun _ _ _ h => h) (Or.inl ⟨by rfl, ?_⟩) (by assumption) ?_
      rotate_left; focus (intro w hSw; (try dsimp only at hSw); go_simp; first | done | with_reducible rfl)
      refine tails_take (T := [4, 5]) (i := 2) (o := _) (x := ?_) rfl (by kernel_rfl) (by kernel_rfl) (by kernel_rfl) (by kernel_rfl) (fun _ _ _ h => h) (Or.inl ⟨by rfl, ?_⟩) (by assumption) ?_
      rotate_left; focus (intro w hSw; (try dsimp only at hSw); go_simp; first | done | with_reducible rfl)
      refine tails_one (T := [4, 5]) (i := 1) (o := _) rfl (by kernel_rfl) (fun K hK => ?_)
      go_simp
      ((with_reducible refine (bY.out _).mono ?_); rintro rr w7 ⟨rfl, hb⟩; replace E := Lib.hid (E.out.below hb); clear hb k1 k2 k3 k4; obtain ⟨k1, k2⟩ := (E.out.nth 0 rfl).two; obtain ⟨k3, k4⟩ := (E.out.nth 1 rfl).two)
      try go_wp2_with fail
      refine hK.out _ _ (Or.inr ⟨k1, k2, k3, k4⟩) (fun hHeld => ?_)
      clear hK K hS
      have hS := hHeld.resolve_left (by decide)
      clear hHeld
      refine tails_one (T := [4, 5]) (i := 3) (o := _) rfl (by kernel_rfl) (fun K hK => ?_)
      go_simp
      ((with_reducible refine (bS.out _).mono ?_); rintro rr w7 ⟨rfl, hb⟩; replace E := Lib.hid (E.out.below hb); clear hb k1 k2 k3 k4; obtain ⟨k1, k2⟩ := (E.out.nth 0 rfl).two; obtain ⟨k3, k4⟩ := (E.out.nth 1 rfl).two)
      try go_wp2_with fail
      refine hK.out _ _ (Or.inr ⟨k1, k2, k3, k4⟩) (fun hHeld => ?_)
      clear hK K hS
      have hS := hHeld.resolve_left (by decide)
      clear hHeld
      clear k1 k2 k3 k4 hS
      refine tails_one (T := [4, 5]) (i := 4) (o := _) rfl (by kernel_rfl) (fun K hK => ?_)
      have kc := (E.out.nth 0 rfl).2.1
      have kf := (E.out.nth 0 rfl).2.2
      replace E := Lib.hid (E.out.set2 (E.out.nth 0 rfl) (E.out.ne 0 rfl) (by omega) (.float .f64 al) (.float .f64 ah) [(w.heap.size + 1, #[.float .f64 al, .float .f64 ah]), (w.heap.size + 1 + 1, #[.float .f64 sl, .float .f64 sh])] (by simp))
      go_simp
      refine hK.out _ _ (Or.inl (by decide)) (fun hHeld => ?_)
      clear hK K hHeld kc kf
      refine tails_one (T := [4, 5]) (i := 5) (o := _) rfl (by kernel_rfl) (fun K hK => ?_)
      have kc := (E.out.nth 1 rfl).2.1
      have kf := (E.out.nth 1 rfl).2.2
      replace E := Lib.hid (E.out.set2 (E.out.nth 1 rfl) (E.out.ne 1 rfl) (by omega) (.float .f64 bl) (.float .f64 bh) [(w.heap.size + 1, #[.float .f64 al, .float .f64 ah]), (w.heap.size + 1 + 1, #[.float .f64 bl, .float .f64 bh])] (by simp))
      go_simp
      refine hK.out _ _ (Or.inl (by decide)) (fun hHeld => ?_)
      clear hK K hHeld kc kf
      refine tails_done (by kernel_rfl) ?_ _
      refine NoPanic.normal ?_
      go_wp2
      have f1 := (E.out.nth 0 rfl).2.1
      have g1 := (E.out.nth 1 rfl).2.1
      exact bodyPost_ret (v := .tuple #[.agg #[.float .f64 al, .float .f64 ah], .agg #[.float .f64 bl, .float .f64 bh]]) (by simp [results, Try.results37, go_sem, f1, g1]) rfl ⟨rfl, E.out.put⟩
end
section
open Go.RowKit
attribute [local go_sem] run_store_float

theorem sinT0 (s c : Res) : sinT s c 0 = s := rfl
theorem sinT1 (s c : Res) : sinT s c 1 = c := rfl
theorem sinT2 (s c : Res) : sinT s c 2 = negR s := rfl
theorem sinT3 (s c : Res) : sinT s c 3 = negR c := rfl
theorem sinT4 (s c : Res) : sinT s c 4 = s := rfl
theorem cosT0 (s c : Res) : cosT s c 0 = c := rfl
theorem cosT1 (s c : Res) : cosT s c 1 = negR s := rfl
theorem cosT2 (s c : Res) : cosT s c 2 = negR c := rfl
theorem cosT3 (s c : Res) : cosT s c 3 = s := rfl
theorem cosT4 (s c : Res) : cosT s c 4 = c := rfl
theorem at_sin {x j : Nat} {r : Res} (hj : qN x = j) (hr : sinT (sinS (angleR x (qN x))) (cosS (angleR x (qN x))) j = r) : (sinR x).lo = (boundR r).lo ∧ (sinR x).hi = (boundR r).hi := by
  have h : sinR x = boundR r := (congrArg (fun k => boundR (sinT (sinS (angleR x (qN x))) (cosS (angleR x (qN x))) k)) hj).trans (congrArg boundR hr)
  rw [h]; exact ⟨rfl, rfl⟩
theorem at_cos {x j : Nat} {r : Res} (hj : qN x = j) (hr : cosT (sinS (angleR x (qN x))) (cosS (angleR x (qN x))) j = r) : (cosR x).lo = (boundR r).lo ∧ (cosR x).hi = (boundR r).hi := by
  have h : cosR x = boundR r := (congrArg (fun k => boundR (cosT (sinS (angleR x (qN x))) (cosS (angleR x (qN x))) k)) hj).trans (congrArg boundR hr)
  rw [h]; exact ⟨rfl, rfl⟩

theorem bound_call {r : Res} (h : Fit r) : CalcB r.lo r.hi (boundR r).lo (boundR r).hi := fun w => bounded_any r.lo r.hi w h.lo h.hi h.rlo h.rhi

theorem ofNum_any {x : Nat} (h : Turn x) : CalcO x (sinR x).lo (sinR x).hi (cosR x).lo (cosR x).hi := fun pb w hC => by
  have ft := (angle_in h).fit
  have fs := (sinS_in h).fit
  have fk := (cosS_in h).fit
  have f20 : Fit (serR (sqrR (angleR x (qN x))) 20) := (ser_in ok20.1 ok20.2 (square_in h) 9 (by decide)).fit
  refine of_walk x (qN x) (angleR x (qN x)).lo (angleR x (qN x)).hi (serR (sqrR (angleR x (qN x))) 20).lo (serR (sqrR (angleR x (qN x))) 20).hi (sinS (angleR x (qN x))).lo (sinS (angleR x (qN x))).hi (cosS (angleR x (qN x))).lo (cosS (angleR x (qN x))).hi
    (negR (sinS (angleR x (qN x)))).lo (negR (sinS (angleR x (qN x)))).hi (negR (cosS (angleR x (qN x)))).lo (negR (cosS (angleR x (qN x)))).hi
    (boundR (sinS (angleR x (qN x)))).lo (boundR (sinS (angleR x (qN x)))).hi (boundR (cosS (angleR x (qN x)))).lo (boundR (cosS (angleR x (qN x)))).hi
    (boundR (negR (sinS (angleR x (qN x))))).lo (boundR (negR (sinS (angleR x (qN x))))).hi (boundR (negR (cosS (angleR x (qN x))))).lo (boundR (negR (cosS (angleR x (qN x))))).hi
    (sinR x).lo (sinR x).hi (cosR x).lo (cosR x).hi pb w hC (qN_le x)
    (Lib.hid fun w => quarter_any x w h.lt h.right) (Lib.hid fun v hv => angle_any h pb v hv)
    (Lib.hid fun v hv => series_any (m := 20) (Or.inr rfl) ft (square_in h) pb v hv) (Lib.hid (calc_mul ft f20 fs pb)) (Lib.hid fun v hv => series_any (m := 19) (Or.inl rfl) ft (square_in h) pb v hv)
    (Lib.hid (calc_neg fs pb)) (Lib.hid (calc_neg fk pb)) (Lib.hid (bound_call fs)) (Lib.hid (bound_call fk)) (Lib.hid (bound_call (neg_fit fs))) (Lib.hid (bound_call (neg_fit fk))) (Lib.hid ?_)
  have hq := qN_le x
  rcases (show qN x = 0 ∨ qN x = 1 ∨ qN x = 2 ∨ qN x = 3 ∨ qN x = 4 by omega) with g | g | g | g | g
  · exact Or.inl ⟨Or.inl g, (at_sin g (sinT0 _ _)).1, (at_sin g (sinT0 _ _)).2, (at_cos g (cosT0 _ _)).1, (at_cos g (cosT0 _ _)).2⟩
  · exact Or.inr (Or.inl ⟨g, (at_sin g (sinT1 _ _)).1, (at_sin g (sinT1 _ _)).2, (at_cos g (cosT1 _ _)).1, (at_cos g (cosT1 _ _)).2⟩)
  · exact Or.inr (Or.inr (Or.inl ⟨g, (at_sin g (sinT2 _ _)).1, (at_sin g (sinT2 _ _)).2, (at_cos g (cosT2 _ _)).1, (at_cos g (cosT2 _ _)).2⟩))
  · exact Or.inr (Or.inr (Or.inr ⟨g, (at_sin g (sinT3 _ _)).1, (at_sin g (sinT3 _ _)).2, (at_cos g (cosT3 _ _)).1, (at_cos g (cosT3 _ _)).2⟩))
  · exact Or.inl ⟨Or.inr g, (at_sin g (sinT4 _ _)).1, (at_sin g (sinT4 _ _)).2, (at_cos g (cosT4 _ _)).1, (at_cos g (cosT4 _ _)).2⟩

def fineB (al ah : Nat) : Bool := ivR al ah && leB 0 al && leB ah u1
theorem fine_turn {al ah : Nat} (la : al < 18446744073709551616) (ha : ah < 18446744073709551616) (h : fineB al ah = true) : Turn al ∧ Turn ah ∧ ivR al ah = true ∧ val al ≤ val ah := by
  unfold fineB leB at h
  simp only [Bool.and_eq_true, decide_eq_true_eq] at h
  obtain ⟨⟨h1, h2⟩, h3⟩ := h
  obtain ⟨a1, a2, a3⟩ := ivR_parts h1
  rw [val_nil] at h2
  exact ⟨⟨la, a1, h2, Int.le_trans a3 h3⟩, ⟨ha, a2, Int.le_trans h2 a3, h3⟩, h1, a3⟩

theorem hull_call {a b : Res} (fa : Fit a) (fb : Fit b) : CalcH a.lo a.hi b.lo b.hi (hullR a b).lo (hullR a b).hi := fun w => hull_any a.lo a.hi b.lo b.hi w fa.lo fa.hi fb.lo fb.hi fa.rlo fa.rhi fb.rlo fb.rhi

theorem cond_lo (b : Bool) (r s : Res) : (if b then r else s).lo = cond b r.lo s.lo ∧ (if b then r else s).hi = cond b r.hi s.hi := by cases b <;> exact ⟨rfl, rfl⟩

theorem sin_fits {al ah : Nat} (t1 : Turn al) (t2 : Turn ah) : Fit (sin2 al ah) ∧ Fit (sin3 al ah) ∧ Fit (cos2 al ah) := by
  have f2 := hull_fit (sinR_facts t1).1 (sinR_facts t2).1
  refine ⟨f2, ?_, hull_fit (cosR_facts t1).1 (cosR_facts t2).1⟩
  unfold sin3
  cases hasB al ah 4598175219545276416
  · exact f2
  · exact hull_fit f2 u1_fit

theorem sin_any (al ah : Nat) (w : World) (la : al < 18446744073709551616) (ha : ah < 18446744073709551616) (h : fineB al ah = true) :
    Calls Try.prog 15 #[.agg #[.float .f64 al, .float .f64 ah]] w fun r w' => r = .returned (.tuple #[.agg #[.float .f64 (sinU al ah).lo, .float .f64 (sinU al ah).hi], .agg #[.float .f64 (cosU al ah).lo, .float .f64 (cosU al ah).hi], .int .i64 0]) ∧ Below w.heap.size w w' := by
  obtain ⟨t1, t2, hr, hle⟩ := fine_turn la ha h
  obtain ⟨f2, f3, g2⟩ := sin_fits t1 t2
  have cR := fun w => ivRight_any al ah w la ha
  rw [hr] at cR
  have o1 : (FloatKind.f64.format.order al 0 == some Ordering.lt) = false := by
    rw [lt_zero al la t1.right]; unfold ltB; rw [val_nil]; have := t1.lo; exact decide_eq_false (by omega)
  have o2 : (FloatKind.f64.format.order ah 4607182418800017408 == some Ordering.gt) = false := by
    rw [order_gt ah _ ha (by decide) t2.right (by decide)]; have := t2.hi; exact decide_eq_false (by show ¬ val u1 < val ah; omega)
  exact sin_walk al ah (sinR al).lo (sinR al).hi (cosR al).lo (cosR al).hi (sinR ah).lo (sinR ah).hi (cosR ah).lo (cosR ah).hi (sin2 al ah).lo (sin2 al ah).hi (cos2 al ah).lo (cos2 al ah).hi (sin3 al ah).lo (sin3 al ah).hi (sinU al ah).lo (sinU al ah).hi
    (hullR (sin2 al ah) (oneR u1)).lo (hullR (sin2 al ah) (oneR u1)).hi (hullR (sin3 al ah) (oneR m1)).lo (hullR (sin3 al ah) (oneR m1)).hi (hullR (cos2 al ah) (oneR m1)).lo (hullR (cos2 al ah) (oneR m1)).hi
    (hasB al ah 4598175219545276416) (hasB al ah 4604930618986332160) (hasB al ah 4602678819172646912) w (Lib.hid cR) o1 o2 (Lib.hid (ofNum_any t1)) (Lib.hid (ofNum_any t2))
    (Lib.hid (hull_call (sinR_facts t1).1 (sinR_facts t2).1)) (Lib.hid (hull_call (cosR_facts t1).1 (cosR_facts t2).1))
    (Lib.hid fun w => has_any al ah _ w la ha) (Lib.hid fun w => has_any al ah _ w la ha) (Lib.hid fun w => has_any al ah _ w la ha)
    (Lib.hid fun pb => calc_num u1_fit pb) (Lib.hid fun pb => calc_num m1_fit pb)
    (Lib.hid (hull_call f2 u1_fit)) (Lib.hid (hull_call f3 m1_fit)) (Lib.hid (hull_call g2 m1_fit))
    (Lib.hid (cond_lo _ _ _)) (Lib.hid (cond_lo _ _ _)) (cosU al ah).lo (cosU al ah).hi (Lib.hid (cond_lo _ _ _))
end
section
open Go.RowKit

theorem ivR_of {a b : Nat} (ra : rightB a = true) (rb : rightB b = true) (h : val a ≤ val b) : ivR a b = true := by
  unfold ivR leB
  rw [ra, rb, decide_eq_true h]; rfl
theorem leq_val {x y : Nat} (lx : x < 18446744073709551616) (ly : y < 18446744073709551616) (rx : rightB x = true) (ry : rightB y = true) (h : val x ≤ val y) : ((FloatKind.f64.format.order x y == some Ordering.lt) || (FloatKind.f64.format.order x y == some Ordering.eq)) = true :=
  (order_le x y lx ly rx ry).trans (decide_eq_true h)
theorem geq_val {x y : Nat} (lx : x < 18446744073709551616) (ly : y < 18446744073709551616) (rx : rightB x = true) (ry : rightB y = true) : ((FloatKind.f64.format.order x y == some Ordering.gt) || (FloatKind.f64.format.order x y == some Ordering.eq)) = decide (val y ≤ val x) := by
  rw [order_gt x y lx ly rx ry, order_eq x y lx ly rx ry]
  by_cases h : val y < val x
  · rw [decide_eq_true h, decide_eq_true (Int.le_of_lt h)]; rfl
  · by_cases k : val x = val y
    · rw [decide_eq_true k, decide_eq_true (by omega : val y ≤ val x), Bool.or_true]
    · rw [decide_eq_false h, decide_eq_false k, decide_eq_false (by omega : ¬ val y ≤ val x)]; rfl

def Cx.a (u : Nat) : Res := ⟨0, ofLo u, ofHi u⟩
structure DrawC (u : Nat) : Prop where
  fit : Fit (Cx.a u)
  lo : 0 ≤ val (ofLo u)
  hi : val (ofHi u) ≤ SS
  i : In (Cx.a u) cuI
theorem draw_c {u : Nat} (hu : u < 18446744073709551616) : DrawC u := by
  obtain ⟨hd, hup, _, _⟩ := of_tight u hu
  obtain ⟨a1, a2, a3, a4⟩ := hd.ok
  obtain ⟨b1, b2, b3, b4⟩ := hup.ok
  rw [show ((1 : Nat) : Int) = 1 from rfl, Int.mul_one] at a3 b3
  have v0 := cv0
  have z := a4 0 (by decide) (by decide) (by rw [v0]; omega)
  rw [v0] at z
  have hlt : u * 2 ^ dr < 2 ^ sq := by rw [one_dr]; exact Nat.mul_lt_mul_of_pos_right hu (Nat.two_pow_pos _)
  have o : val (ofHi u) ≤ SS := by
    have := b4 4607182418800017408 (by decide) (by decide) (by rw [val_one]; omega)
    rw [val_one] at this
    exact this
  have f : Fit (Cx.a u) := ⟨rfl, a1, b1, ivR_of a2 b2 (Int.le_trans a3 b3)⟩
  exact ⟨f, z, o, f, by rw [cu_ends.1]; exact z, by rw [cu_ends.2]; exact o⟩
theorem draw_fine {u : Nat} (D : DrawC u) : fineB (ofLo u) (ofHi u) = true := by
  have us : val u1 = SS := by decide +kernel
  unfold fineB leB
  rw [show ivR (ofLo u) (ofHi u) = true from D.fit.iv, decide_eq_true (by rw [val_nil]; exact D.lo : val 0 ≤ val (ofLo u)), decide_eq_true (by rw [us]; exact D.hi : val (ofHi u) ≤ val u1)]; rfl

theorem cedge_call {a : Res} (f : Fit a) (w : World) : Calls Try.prog 25 #[.agg #[.float .f64 a.lo, .float .f64 a.hi], .float .f64 13830554455654793216, .float .f64 4607182418800017408] w fun r w' => r = .returned (.agg #[.float .f64 (edgeR a).lo, .float .f64 (edgeR a).hi]) ∧ Below w.heap.size w w' := by
  rw [edgeR_lo, edgeR_hi]
  obtain ⟨l1, l2, _⟩ := max_facts a.lo m1 f.lo (by decide) f.rlo (by decide)
  obtain ⟨k1, k2, _⟩ := max_facts a.hi m1 f.hi (by decide) f.rhi (by decide)
  exact cclamped_walk w (fun ts t w => (run_less a.lo m1 f.lo (by decide) f.rlo (by decide) ts t w).2) (fun ts t w => (run_less (maxW a.lo m1) u1 l1 (by decide) l2 (by decide) ts t w).1)
    (fun ts t w => (run_less a.hi m1 f.hi (by decide) f.rhi (by decide) ts t w).2) (fun ts t w => (run_less (maxW a.hi m1) u1 k1 (by decide) k2 (by decide) ts t w).1)
theorem cunit_call {a : Res} (f : Fit a) (w : World) : Calls Try.prog 25 #[.agg #[.float .f64 a.lo, .float .f64 a.hi], .float .f64 0, .float .f64 4607182418800017408] w fun r w' => r = .returned (.agg #[.float .f64 (clampR a).lo, .float .f64 (clampR a).hi]) ∧ Below w.heap.size w w' := by
  obtain ⟨l1, l2, _⟩ := max_facts a.lo 0 f.lo (by decide) f.rlo (by decide)
  obtain ⟨k1, k2, _⟩ := max_facts a.hi 0 f.hi (by decide) f.rhi (by decide)
  exact cclamped_walk w (fun ts t w => (run_less a.lo 0 f.lo (by decide) f.rlo (by decide) ts t w).2) (fun ts t w => (run_less (maxW a.lo 0) u1 l1 (by decide) l2 (by decide) ts t w).1)
    (fun ts t w => (run_less a.hi 0 f.hi (by decide) f.rhi (by decide) ts t w).2) (fun ts t w => (run_less (maxW a.hi 0) u1 k1 (by decide) k2 (by decide) ts t w).1)

def Cx.s (v : Nat) : Res := sinU (ofLo v) (ofHi v)
def Cx.c (v : Nat) : Res := cosU (ofLo v) (ofHi v)
theorem wide_c {v : Nat} (hv : v < 18446744073709551616) : In (Cx.s v) wideR ∧ In (Cx.c v) wideR := by
  have V := draw_c hv
  obtain ⟨_, ta, tb, _, _⟩ := draw_in hv V.fit V.lo V.hi
  exact sinU_wide ta tb
theorem sin_c {v : Nat} (hv : v < 18446744073709551616) (w : World) : Calls Try.prog 15 #[.agg #[.float .f64 (ofLo v), .float .f64 (ofHi v)]] w fun r w' => r = .returned (.tuple #[.agg #[.float .f64 (Cx.s v).lo, .float .f64 (Cx.s v).hi], .agg #[.float .f64 (Cx.c v).lo, .float .f64 (Cx.c v).hi], .int .i64 0]) ∧ Below w.heap.size w w' :=
  have V := draw_c hv
  sin_any _ _ w V.fit.lo V.fit.hi (draw_fine V)
def Cx.v (u v : Nat) : Value := .agg #[.float .f64 (Cn.x (Cx.a u) (Cx.c v)).lo, .float .f64 (Cn.x (Cx.a u) (Cx.c v)).hi, .float .f64 (Cn.x (Cx.a u) (Cx.s v)).lo, .float .f64 (Cn.x (Cx.a u) (Cx.s v)).hi, .float .f64 (Cn.z (Cx.a u)).lo, .float .f64 (Cn.z (Cx.a u)).hi]
theorem draw_any {u v : Nat} (hu : u < 18446744073709551616) (hv : v < 18446744073709551616) (w : World) :
    Calls Try.prog 7 #[.int .u64 u, .int .u64 v] w fun r w' => r = .returned (.tuple #[Cx.v u v, .int .i64 0]) ∧ Below w.heap.size w w' := by
  have A := (draw_c hu).i
  obtain ⟨iS, iC⟩ := wide_c hv
  have I := ch_in A
  have R := (cn_r A).fit
  have pX := (cn_p A iC).fit
  have pY := (cn_p A iS).fit
  unfold Cx.v
  rw [← x_edge A iC, ← x_edge A iS]
  exact draw_walk w (Lib.hid fun w => uof_any u w hu) (Lib.hid fun w => uof_any v w hv) (Lib.hid (sin_c hv)) (Lib.hid fun pb => calc_sqrt A.fit R pb) (Lib.hid fun pb => calc_mul R iC.fit pX pb) (Lib.hid (cedge_call pX))
    (Lib.hid fun pb => calc_mul R iS.fit pY pb) (Lib.hid (cedge_call pY)) (Lib.hid fun pb => calc_num u1_fit pb) (Lib.hid fun pb => calc_sub u1_fit A.fit I.d.fit pb) (Lib.hid fun pb => calc_num cn0_fit pb)
    (Lib.hid fun pb => calc_max I.d.fit cn0_fit I.m.fit pb) (Lib.hid fun pb => calc_sqrt I.m.fit I.s.fit pb) (Lib.hid (cunit_call I.s.fit))

theorem down_ok {s : Nat} {T : Int} {c : Nat} {e : Int} (h : Down s T c e) {d : Nat} (ld : d < 18446744073709551616) (rd : rightB d = true) (k : val d * (s : Int) ≤ T) : e = 0 := by
  rcases h with ⟨h, _⟩ | ⟨_, _, h⟩
  · exact h
  · have := h d ld rd; omega
def Cx.w (l h : Nat) : Nat := subW h l false
def Cx.h (l h : Nat) : Nat := mulW 4602678819172646912 (Cx.w l h) false
def Cx.m (l h : Nat) : Nat := addW l (Cx.h l h) false
structure MidC (l h : Nat) : Prop where
  ew : subE h l false = 0
  eh : mulE 4602678819172646912 (Cx.w l h) false = 0
  em : addE l (Cx.h l h) false = 0
  lw : Cx.w l h < 18446744073709551616
  lh : Cx.h l h < 18446744073709551616
  lm : Cx.m l h < 18446744073709551616
  rm : rightB (Cx.m l h) = true
  lo : val l ≤ val (Cx.m l h)
  hi : val (Cx.m l h) ≤ val h
  one : val l = val h → val (Cx.m l h) = val l
theorem mid_c {l h : Nat} (ll : l < 18446744073709551616) (r : ivR l h = true) : MidC l h := by
  obtain ⟨rl, rh, le⟩ := ivR_parts r
  have v0 := cv0
  have hw := sub_down h l rh rl
  have ew := down_ok hw (d := 0) (by decide) (by decide) (by rw [v0]; omega)
  rw [ew] at hw
  obtain ⟨w1, w2, w3, w4⟩ := hw.ok
  have w0 : 0 ≤ val (subW h l false) := by have := w4 0 (by decide) (by decide) (by rw [v0]; omega); omega
  have e : 0 ≤ val 4602678819172646912 := by decide +kernel
  have hh := (mul_dir 4602678819172646912 (subW h l false) (by decide) w2 false).1 rfl
  have p : 0 ≤ val 4602678819172646912 * val (subW h l false) := Int.mul_nonneg e w0
  have eh := down_ok hh (d := 0) (by decide) (by decide) (by rw [v0, Int.zero_mul]; exact p)
  rw [eh] at hh
  obtain ⟨h1, h2, h3, h4⟩ := hh.ok
  have h0 : 0 ≤ val (mulW 4602678819172646912 (subW h l false) false) := by have := h4 0 (by decide) (by decide) (by rw [v0, Int.zero_mul]; exact p); omega
  have hm := add_down l _ rl h2
  have em := down_ok hm (d := l) ll rl (by omega)
  rw [em] at hm
  obtain ⟨m1, m2, m3, m4⟩ := hm.ok
  obtain ⟨a, b, c⟩ := mid_in ll rl le hw hh hm
  exact ⟨ew, eh, em, w1, h1, m1, m2, a, b, c⟩
theorem middle_any {l h : Nat} (ll : l < 18446744073709551616) (lh : h < 18446744073709551616) (M : MidC l h) (p q : Nat) (v : World) (hq : Has1 v (q, #[.int .i64 0])) (hp : Has1 v (p, #[.func (.func 47) #[] #[.pointer (some ⟨q, 0, none⟩)]])) :
    Calls Try.prog 48 #[.agg #[.float .f64 l, .float .f64 h], .pointer (some ⟨p, 0, none⟩)] v fun r w' => r = .returned (.float .f64 (Cx.m l h)) ∧ Below v.heap.size v w' :=
  middle_walk v p q (Lib.hid hp) (Lib.hid hq) (Lib.hid fun v hq => downSub_walk h l (Cx.w l h) q v hq (Lib.hid fun w => sub_lit h l _ 0 false w lh ll rfl M.ew))
    (Lib.hid fun v hq => downMul_walk _ _ (Cx.h l h) q v hq (Lib.hid fun w => mul_lit _ _ _ 0 false w (by decide) M.lw rfl M.eh)) (Lib.hid fun v hq => downAdd_walk _ _ (Cx.m l h) q v hq (Lib.hid fun w => add_lit _ _ _ 0 false w ll M.lh rfl M.em))
theorem rights_c (x y : Nat) (g : Bool) (lx : x < 18446744073709551616) (ly : y < 18446744073709551616) (h : ivR x y = g) : Hid (∀ w, Calls Try.prog 22 #[.agg #[.float .f64 x, .float .f64 y]] w fun r w' => r = .returned (.bool g) ∧ Below w.heap.size w w') := by
  subst h; exact Lib.hid fun w => ivRight_any x y w lx ly
section
variable {a b c d e f : Nat} (la : a < 18446744073709551616) (lb : b < 18446744073709551616) (lc : c < 18446744073709551616) (ld : d < 18446744073709551616) (le : e < 18446744073709551616) (lf : f < 18446744073709551616)
include la lb lc ld le lf
theorem mid_any (h0 : ivR a b = true) (h1 : ivR c d = true) (h2 : ivR e f = true) (w : World) :
    Calls Try.prog 21 #[.agg #[.float .f64 a, .float .f64 b, .float .f64 c, .float .f64 d, .float .f64 e, .float .f64 f]] w fun r w' => r = .returned (.tuple #[.agg #[.float .f64 (Cx.m a b), .float .f64 (Cx.m c d), .float .f64 (Cx.m e f)], .int .i64 0]) ∧ Below w.heap.size w w' :=
  mid_walk w (rights_c a b _ la lb h0) (rights_c c d _ lc ld h1) (rights_c e f _ le lf h2) (Lib.hid (middle_any la lb (mid_c la h0))) (Lib.hid (middle_any lc ld (mid_c lc h1))) (Lib.hid (middle_any le lf (mid_c le h2)))
theorem mid_none (h : ¬ (ivR a b = true ∧ ivR c d = true ∧ ivR e f = true)) (w : World) :
    Calls Try.prog 21 #[.agg #[.float .f64 a, .float .f64 b, .float .f64 c, .float .f64 d, .float .f64 e, .float .f64 f]] w fun r w' => r = .returned (.tuple #[.agg #[.float .f64 0, .float .f64 0, .float .f64 0], .int .i64 20]) ∧ Below w.heap.size w w' := by
  have R := rights_c
  cases h0 : ivR a b
  · exact mid_bad0 w (R a b _ la lb h0)
  cases h1 : ivR c d
  · exact mid_bad1 w (R a b _ la lb h0) (R c d _ lc ld h1)
  cases h2 : ivR e f
  · exact mid_bad2 w (R a b _ la lb h0) (R c d _ lc ld h1) (R e f _ le lf h2)
  · exact absurd ⟨h0, h1, h2⟩ h
end
end
section
open Go.RowKit

theorem point_c {x : Nat} (lx : x < 18446744073709551616) (rx : rightB x = true) (w : World) : Calls Try.prog 10 #[.float .f64 x] w fun r w' => r = .returned (.agg #[.float .f64 x, .float .f64 x]) ∧ Below w.heap.size w w' :=
  point_walk x w fun w => run_float_arith w .add 24 .f64 _ _ _ (add_self0 lx rx)
theorem mid_lit : Cx.m 0 4607182418800017408 = 4602678819172646912 ∧ Cx.m 4611686018427387904 4611686018427387904 = 4611686018427387904 ∧ Cx.m 13830554455654793216 0 = 13826050856027422720 := by decide +kernel
def leF (x y : Nat) : Bool := (FloatKind.f64.format.order x y == some Ordering.lt) || (FloatKind.f64.format.order x y == some Ordering.eq)
def geF (x y : Nat) : Bool := (FloatKind.f64.format.order x y == some Ordering.gt) || (FloatKind.f64.format.order x y == some Ordering.eq)
theorem aw12_a : Op.floatEq .f64 (Cn.z (Cx.a 0)).lo 4607182418800017408 = true ∧ Op.floatEq .f64 (Cn.z (Cx.a 0)).hi 4607182418800017408 = true ∧ leF (Cn.x (Cx.a 0) (Cx.c 0)).lo 0 = true ∧ geF (Cn.x (Cx.a 0) (Cx.c 0)).hi 0 = true ∧
    (FloatKind.f64.format.order (Cn.x (Cx.a 0) (Cx.c 0)).hi 4427038433705197568 == some Ordering.lt) = true := by decide +kernel
theorem aw12_b : leF 4604544271216121918 (Cn.x (Cx.a 9223372036854775808) (Cx.c 0)).lo = true ∧ leF (Cn.x (Cx.a 9223372036854775808) (Cx.c 0)).hi 4604544271225129117 = true ∧ leF 4604544271216121918 (Cn.z (Cx.a 9223372036854775808)).lo = true ∧ leF (Cn.z (Cx.a 9223372036854775808)).hi 4604544271225129117 = true ∧
    leF (Cn.x (Cx.a 9223372036854775808) (Cx.s 0)).lo 0 = true ∧ geF (Cn.x (Cx.a 9223372036854775808) (Cx.s 0)).hi 0 = true := by decide +kernel
theorem aw12_mid (w : World) : Calls Try.prog 21 #[.agg #[.float .f64 0, .float .f64 4607182418800017408, .float .f64 4611686018427387904, .float .f64 4611686018427387904, .float .f64 13830554455654793216, .float .f64 0]] w fun r w' => r = .returned (.tuple #[.agg #[.float .f64 4602678819172646912, .float .f64 4611686018427387904, .float .f64 13826050856027422720], .int .i64 0]) ∧ Below w.heap.size w w' := by
  have h := mid_any (a := 0) (b := 4607182418800017408) (c := 4611686018427387904) (d := 4611686018427387904) (e := 13830554455654793216) (f := 0) (by decide) (by decide) (by decide) (by decide) (by decide) (by decide) (by decide +kernel) (by decide +kernel) (by decide +kernel) w
  obtain ⟨e1, e2, e3⟩ := mid_lit
  rw [e1, e2, e3] at h
  exact h
theorem awake12_any (w : World) : Calls Try.prog 12 #[] w fun r w' => r = .returned (.bool true) ∧ Below w.heap.size w w' := by
  obtain ⟨a1, a2, a3, a4, a5⟩ := aw12_a
  obtain ⟨b1, b2, b3, b4, b5, b6⟩ := aw12_b
  exact awake12_walk w (Lib.hid (draw_any (u := 0) (v := 0) (by decide) (by decide))) (Lib.hid (draw_any (u := 9223372036854775808) (v := 0) (by decide) (by decide))) (Lib.hid (point_c (by decide) (by decide))) (Lib.hid aw12_mid) (Lib.hid (point_c (by decide) (by decide)))
    a1 a2 a3 a4 a5 (Lib.hid fun w => lIn8_any _ _ _ _ w b1 b2) (Lib.hid fun w => lIn8_any _ _ _ _ w b3 b4) b5 b6 (by decide +kernel) (by decide +kernel) (by decide +kernel)
end
section
open Go.RowKit

theorem cmin_any {l h : Nat} (ll : l < 18446744073709551616) (lh : h < 18446744073709551616) (r : ivR l h = true) (w : World) : Calls Try.prog 23 #[.agg #[.float .f64 l, .float .f64 h], .float .f64 (Cx.m l h)] w fun r w' => r = .returned (.bool true) ∧ Below w.heap.size w w' := by
  have M := mid_c ll r
  obtain ⟨rl, rh, le⟩ := ivR_parts r
  have o1 := leq_val ll M.lm rl M.rm M.lo
  have o2 := leq_val M.lm lh M.rm rh M.hi
  have o3 := order_lt l h ll lh rl rh
  by_cases c : val l < val h
  · exact cmin_1 w o1 o2 (o3.trans (decide_eq_true c))
  · have e : val l = val h := by omega
    exact cmin_0 w o1 o2 (o3.trans (decide_eq_false c)) ((order_eq _ _ M.lm ll M.rm rl).trans (decide_eq_true (M.one e)))
theorem mid12_any (a b c d e f : Nat) (w : World) (la : a < 18446744073709551616) (lb : b < 18446744073709551616) (lc : c < 18446744073709551616) (ld : d < 18446744073709551616) (le : e < 18446744073709551616) (lf : f < 18446744073709551616) :
    Calls Try.prog 6 #[.agg #[.float .f64 a, .float .f64 b, .float .f64 c, .float .f64 d, .float .f64 e, .float .f64 f]] w fun r w' => r = .returned (.bool true) ∧ Below w.heap.size w w' := by
  have R := rights_c
  by_cases h : ivR a b = true ∧ ivR c d = true ∧ ivR e f = true
  · obtain ⟨h0, h1, h2⟩ := h
    exact cmid_good w (Lib.hid (mid_any la lb lc ld le lf h0 h1 h2)) (R a b _ la lb h0) (R c d _ lc ld h1) (R e f _ le lf h2) (Lib.hid (cmin_any la lb h0)) (Lib.hid (cmin_any lc ld h1)) (Lib.hid (cmin_any le lf h2)) (Lib.hid awake12_any)
  · have cN := Lib.hid (mid_none la lb lc ld le lf h)
    have z : Op.floatEq .f64 0 0 = true := by decide +kernel
    cases h0 : ivR a b
    · exact cmid_bad0 w cN (R a b _ la lb h0) z (Lib.hid awake12_any)
    cases h1 : ivR c d
    · exact cmid_bad1 w cN (R a b _ la lb h0) (R c d _ lc ld h1) z (Lib.hid awake12_any)
    cases h2 : ivR e f
    · exact cmid_bad2 w cN (R a b _ la lb h0) (R c d _ lc ld h1) (R e f _ le lf h2) z (Lib.hid awake12_any)
    · exact absurd ⟨h0, h1, h2⟩ h
end
end Go.Proofs.Ytnaomilkgfkegaa
