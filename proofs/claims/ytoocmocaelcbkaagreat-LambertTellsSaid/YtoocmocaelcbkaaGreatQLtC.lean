
/- How a row of numbers of 32 bits that comes in reads, and how it reads again; five arguments. -/
import Derived.Test.YtoocmocaelcbkaaGreatQLtA
import Derived.Test.YtoocmocaelcbkaaGreatQRc
import Derived.Deep.RegionHeld3
import Derived.Test.YtoocmocaelcbkaaGreatQRcZ
import Derived.Test.YtoocmocaelcbkaaGreatQLtB
import Derived.Test.YtoocmocaelcbkaaGreatQOpen
import Derived.OpenShut
import Derived.Deep.Strs
import Derived.Carry
namespace Go.Proofs.YtoocmocaelcbkaaGreat
open Go.RowKit
attribute [local go_sem] run_store_float

section
variable {P : Program} {ops : Array Oper} {Q : Exit → Act → World → Prop} {md : Region.Mode} {S : World → Prop}
theorem lpx_ccc_1 {a0 : Act} {B v : World} {l : List (Nat × Array Value)} {x : Nat × Array Value} (_ : Hid (Own B (x :: l) v)) {w0 : World} {L0 : Array Bool} (c1 c2 c3 m1 : Nat) (slots : List Nat) (N : Nat) (J : List (Nat × Array Value) → Act → Nat → List (Option Nat) → Act → World → Prop) (hok : latOkP [false, false, false] md ops L0 [c1, c2, c3] [m1] = true)
    (hsl : (slots.all fun s => decide (s < a0.tmps.size)) = true) (h0 : ∀ A : Act, (∀ s, s ∈ slots → s < A.tmps.size) → J l A 0 (List.replicate 1 none) A w0)
    (hS : ∀ k p a w, J l a0 k p a w → S w)
    (k1 : ∀ p a w, J l a0 0 p a w → wpOp P ops Q c1 (fun b v => J l a0 1 p b v) a w)
    (k2 : ∀ p a w, J l a0 1 p a w → wpOp P ops Q c2 (fun b v => J l a0 2 p b v) a w)
    (k3 : ∀ p a w, J l a0 2 p a w → wpOp P ops Q c3 (fun b v => J l a0 3 p b v) a w)
    (n1 : ∀ k p a w, p[0]? = some none → J l a0 k p a w → wpOp P ops Q m1 (fun b v => ∃ q, J l a0 k (p.set 0 (some q)) b v) a w)
    (fin : ∀ q1 a w, J l a0 3 [some q1] a w → wpAnyV P md ops Q S [] N (lstOf L0 [c1, c2, c3] [m1] 3 [true]) a w) :
    wpAnyV P md ops Q S [] (N + 4) L0 a0 w0 := by
  refine latP_from (pl := [false, false, false]) [c1, c2, c3] [m1] slots N 4 (J l) hok rfl hsl h0 hS (fun k i p a w hk hn hJ => ?_) (fun k i p a w hk hn hJ => ?_) (fun k m i p a w hm hp hJ => ?_) (fun p a w hp hall hJ => ?_)
  · rcases k with _ | _ | _ | k
    · obtain rfl : c1 = i := by simpa using hk
      exact k1 p a w hJ
    · obtain rfl : c2 = i := by simpa using hk
      exact k2 p a w hJ
    · obtain rfl : c3 = i := by simpa using hk
      exact k3 p a w hJ
    · simp at hk
  · rcases k with _ | _ | _ | k
    · exact absurd hn (by decide)
    · exact absurd hn (by decide)
    · exact absurd hn (by decide)
    · simp at hk
  · rcases m with _ | m
    · obtain rfl : m1 = i := by simpa using hm
      exact n1 k p a w hp hJ
    · simp at hm
  · obtain ⟨q1, rfl⟩ := fin_one hp hall
    exact fin q1 a w hJ
end

set_option maxRecDepth 100000 in
set_option maxHeartbeats 16000000 in
theorem refValue_ok {al ah rl rh : Nat} (w : World)
    (c1 : Hid (∀ w, Calls Tryz.prog 13 #[.agg #[.float .f64 al, .float .f64 ah]] w fun r w' => r = .returned (.bool true) ∧ Below w.heap.size w w'))
    (c2 : Hid (∀ w, Calls Tryz.prog 14 #[.agg #[.float .f64 al, .float .f64 ah], .float .f64 0, .float .f64 4607182418800017408] w fun r w' => r = .returned (.bool true) ∧ Below w.heap.size w w'))
    (c3 : Hid (∀ w, Calls Tryz.prog 16 #[] w fun r w' => r = .returned (.agg #[.float .f64 4614256656552045848, .float .f64 4614256656552045849]) ∧ Below w.heap.size w w'))
    (d4 : Hid (K2 15 0 0 al ah 4614256656552045848 4614256656552045849 rl rh)) :
    Calls Tryz.prog 6 #[.agg #[.float .f64 al, .float .f64 ah]] w fun r w' => r = .returned (.tuple #[.agg #[.float .f64 rl, .float .f64 rh], .int .i64 0]) ∧ Below w.heap.size w w' := by
  have M := Lib.hid (((Own.nil w).made #[.float .f64 al, .float .f64 ah] 24).made #[.float .f64 0, .float .f64 0] 24)
  simp only [World.size_alloc] at M
  have eqF := eq_floats
  go_enter Tryz.func6, Tryz.ntmps6
  obtain ⟨k1, k2⟩ := (M.out.nth 1 rfl).two
  go_wp2_with fail
  refine (c1.out _).mono ?_
  rintro r w1_ ⟨rfl, hb⟩
  replace M := Lib.hid (M.out.below hb)
  clear hb
  clear k1 k2
  obtain ⟨k1, k2⟩ := (M.out.nth 1 rfl).two
  go_wp2_with fail
  refine (c2.out _).mono ?_
  rintro r w2_ ⟨rfl, hb⟩
  replace M := Lib.hid (M.out.below hb)
  clear hb
  clear k1 k2
  replace M := Lib.hid (M.out.made #[.int .i64 0] 39)
  go_upto_region 6 with fail
  replace M := Lib.hid M.out.drew
  obtain ⟨k1, k2⟩ := (M.out.nth 2 rfl).two
  have kc0 := (M.out.nth 1 rfl).2.1
  have kf0 := (M.out.nth 1 rfl).2.2
  have zz_b2_b1 := M.out.ne 1 2 rfl rfl (by decide)
  dsimp only at zz_b2_b1
  go_region_held3 (fun w' => (w'.cell? ⟨w.heap.size, 0, none⟩ = some (.float .f64 al) ∧ w'.cell? ⟨w.heap.size, 1, none⟩ = some (.float .f64 ah))) (((try dsimp only); (repeat' apply And.intro); all_goals (repeat (first | (with_reducible assumption) | ((with_reducible refine keep_undrew ?_); (with_reducible assumption)) | (with_reducible refine keep_drew ?_) | (with_reducible refine keep_alloc _ ?_) | (with_reducible refine keep_set _ (by first | (with_reducible assumption) | omega) ?_)))))
    (first
      | (go_at_call 16; (with_reducible refine (c3.out _).mono ?_); rintro rr w5 ⟨rfl, hb⟩; replace M := Lib.hid (M.out.below hb); clear hb; clear k1 k2 kc0 kf0; obtain ⟨k1, k2⟩ := (M.out.nth 2 rfl).two; have kc0 := (M.out.nth 1 rfl).2.1; have kf0 := (M.out.nth 1 rfl).2.2)
      | (go_at_call 15; (with_reducible refine (d4.out _ _ (M.out.nth 0 rfl)).mono ?_); rintro rr w5 ⟨rfl, hb⟩; replace M : Hid (Own w [(w2_.heap.size, #[.int .i64 0]), ((w.heap.size + 1), #[.float .f64 0, .float .f64 0]), (w.heap.size, #[.float .f64 al, .float .f64 ah])] w5) := Lib.hid (M.out.putAt 0 rfl hb); clear hb; clear k1 k2 kc0 kf0; obtain ⟨k1, k2⟩ := (M.out.nth 2 rfl).two; have kc0 := (M.out.nth 1 rfl).2.1; have kf0 := (M.out.nth 1 rfl).2.2))
  clear k1 k2 kc0 kf0
  replace M : Hid (Own w [(w2_.heap.size, #[.int .i64 0]), ((w.heap.size + 1), #[.float .f64 rl, .float .f64 rh]), (w.heap.size, #[.float .f64 al, .float .f64 ah])] _) := Lib.hid (M.out.set2 1 rfl (.float .f64 rl) (.float .f64 rh))
  go_wp2
  obtain ⟨f1, f2⟩ := (M.out.nth 1 rfl).two
  exact bodyPost_ret (v := .tuple #[.agg #[.float .f64 rl, .float .f64 rh], .int .i64 0]) (by simp [results, Tryz.results6, go_sem, f1, f2]) rfl ⟨rfl, M.out.base⟩

set_option maxRecDepth 100000 in
set_option maxHeartbeats 16000000 in
theorem refValue_iv {al ah : Nat} (w : World)
    (c1 : Hid (∀ w, Calls Tryz.prog 13 #[.agg #[.float .f64 al, .float .f64 ah]] w fun r w' => r = .returned (.bool false) ∧ Below w.heap.size w w')) :
    Calls Tryz.prog 6 #[.agg #[.float .f64 al, .float .f64 ah]] w fun r w' => r = .returned (.tuple #[.agg #[.float .f64 0, .float .f64 0], .int .i64 20]) ∧ Below w.heap.size w w' := by
  have M := Lib.hid (((Own.nil w).made #[.float .f64 al, .float .f64 ah] 24).made #[.float .f64 0, .float .f64 0] 24)
  simp only [World.size_alloc] at M
  have eqF := eq_floats
  go_enter Tryz.func6, Tryz.ntmps6
  obtain ⟨k1, k2⟩ := (M.out.nth 1 rfl).two
  go_wp2_with fail
  refine (c1.out _).mono ?_
  rintro r w1_ ⟨rfl, hb⟩
  replace M := Lib.hid (M.out.below hb)
  clear hb
  clear k1 k2
  have kc := (M.out.nth 0 rfl).2.1
  have kf := (M.out.nth 0 rfl).2.2
  replace M : Hid (Own w [((w.heap.size + 1), #[.float .f64 0, .float .f64 0]), (w.heap.size, #[.float .f64 al, .float .f64 ah])] _) := Lib.hid (M.out.set2 0 rfl (.float .f64 0) (.float .f64 0))
  go_wp2
  obtain ⟨f1, f2⟩ := (M.out.nth 0 rfl).two
  exact bodyPost_ret (v := .tuple #[.agg #[.float .f64 0, .float .f64 0], .int .i64 20]) (by simp [results, Tryz.results6, go_sem, f1, f2]) rfl ⟨rfl, M.out.base⟩

set_option maxRecDepth 100000 in
set_option maxHeartbeats 16000000 in
theorem refValue_arg {al ah : Nat} (w : World)
    (c1 : Hid (∀ w, Calls Tryz.prog 13 #[.agg #[.float .f64 al, .float .f64 ah]] w fun r w' => r = .returned (.bool true) ∧ Below w.heap.size w w'))
    (c2 : Hid (∀ w, Calls Tryz.prog 14 #[.agg #[.float .f64 al, .float .f64 ah], .float .f64 0, .float .f64 4607182418800017408] w fun r w' => r = .returned (.bool false) ∧ Below w.heap.size w w')) :
    Calls Tryz.prog 6 #[.agg #[.float .f64 al, .float .f64 ah]] w fun r w' => r = .returned (.tuple #[.agg #[.float .f64 0, .float .f64 0], .int .i64 2]) ∧ Below w.heap.size w w' := by
  have M := Lib.hid (((Own.nil w).made #[.float .f64 al, .float .f64 ah] 24).made #[.float .f64 0, .float .f64 0] 24)
  simp only [World.size_alloc] at M
  have eqF := eq_floats
  go_enter Tryz.func6, Tryz.ntmps6
  obtain ⟨k1, k2⟩ := (M.out.nth 1 rfl).two
  go_wp2_with fail
  refine (c1.out _).mono ?_
  rintro r w1_ ⟨rfl, hb⟩
  replace M := Lib.hid (M.out.below hb)
  clear hb
  clear k1 k2
  obtain ⟨k1, k2⟩ := (M.out.nth 1 rfl).two
  go_wp2_with fail
  refine (c2.out _).mono ?_
  rintro r w2_ ⟨rfl, hb⟩
  replace M := Lib.hid (M.out.below hb)
  clear hb
  clear k1 k2
  have kc := (M.out.nth 0 rfl).2.1
  have kf := (M.out.nth 0 rfl).2.2
  replace M : Hid (Own w [((w.heap.size + 1), #[.float .f64 0, .float .f64 0]), (w.heap.size, #[.float .f64 al, .float .f64 ah])] _) := Lib.hid (M.out.set2 0 rfl (.float .f64 0) (.float .f64 0))
  go_wp2
  obtain ⟨f1, f2⟩ := (M.out.nth 0 rfl).two
  exact bodyPost_ret (v := .tuple #[.agg #[.float .f64 0, .float .f64 0], .int .i64 2]) (by simp [results, Tryz.results6, go_sem, f1, f2]) rfl ⟨rfl, M.out.base⟩

/-- Region 6. -/
def rcokJ6 (w : World) (pb : Nat) (sl sh dl dh : Nat) (l : RowL) (a0 : Act) (k : Nat) (p : List (Option Nat)) (a : Act) (v : World) : Prop :=
  ∃ y1 y2 y3 z1 : Value, a = ((((a0.put (some 30) y1).put (some 33) y2).put (some 34) y3).put (some 7) z1) ∧ (0 < k → y1 = .agg #[.float .f64 4607182418800017408, .float .f64 4607182418800017408]) ∧ (1 < k → y2 = .agg #[.float .f64 sl, .float .f64 sh]) ∧ (2 < k → y3 = .agg #[.float .f64 dl, .float .f64 dh]) ∧ (∀ q, p[0]? = some (some q) → z1 = .pointer (some ⟨q, 0, none⟩)) ∧ OwnF w ((pb, #[.int .i64 0]) :: l) [#[.float .f64 0, .float .f64 0]] p v
section
variable {w v : World} {pb : Nat} {sl sh dl dh : Nat} {l : RowL} {a0 a : Act} {p : List (Option Nat)}
theorem rcokJ6_0 (h : rcokJ6 w pb sl sh dl dh l a0 0 p a v) : ∃ y1 y2 y3 z1 : Value, a = ((((a0.put (some 30) y1).put (some 33) y2).put (some 34) y3).put (some 7) z1) ∧ (∀ q, p[0]? = some (some q) → z1 = .pointer (some ⟨q, 0, none⟩)) ∧ OwnF w ((pb, #[.int .i64 0]) :: l) [#[.float .f64 0, .float .f64 0]] p v := by
  obtain ⟨y1, y2, y3, z1, ha, E1, E2, E3, G1, h⟩ := h
  exact ⟨y1, y2, y3, z1, ha, G1, h⟩
theorem rcokJ6_1 (h : rcokJ6 w pb sl sh dl dh l a0 1 p a v) : ∃ y2 y3 z1 : Value, a = ((((a0.put (some 30) (.agg #[.float .f64 4607182418800017408, .float .f64 4607182418800017408])).put (some 33) y2).put (some 34) y3).put (some 7) z1) ∧ (∀ q, p[0]? = some (some q) → z1 = .pointer (some ⟨q, 0, none⟩)) ∧ OwnF w ((pb, #[.int .i64 0]) :: l) [#[.float .f64 0, .float .f64 0]] p v := by
  obtain ⟨y1, y2, y3, z1, ha, E1, E2, E3, G1, h⟩ := h
  obtain rfl := E1 (by decide)
  exact ⟨y2, y3, z1, ha, G1, h⟩
theorem rcokJ6_2 (h : rcokJ6 w pb sl sh dl dh l a0 2 p a v) : ∃ y3 z1 : Value, a = ((((a0.put (some 30) (.agg #[.float .f64 4607182418800017408, .float .f64 4607182418800017408])).put (some 33) (.agg #[.float .f64 sl, .float .f64 sh])).put (some 34) y3).put (some 7) z1) ∧ (∀ q, p[0]? = some (some q) → z1 = .pointer (some ⟨q, 0, none⟩)) ∧ OwnF w ((pb, #[.int .i64 0]) :: l) [#[.float .f64 0, .float .f64 0]] p v := by
  obtain ⟨y1, y2, y3, z1, ha, E1, E2, E3, G1, h⟩ := h
  obtain rfl := E1 (by decide)
  obtain rfl := E2 (by decide)
  exact ⟨y3, z1, ha, G1, h⟩
theorem rcokJ6_fin {q1 : Nat} (h : rcokJ6 w pb sl sh dl dh l a0 3 [some q1] a v) : a = ((((a0.put (some 30) (.agg #[.float .f64 4607182418800017408, .float .f64 4607182418800017408])).put (some 33) (.agg #[.float .f64 sl, .float .f64 sh])).put (some 34) (.agg #[.float .f64 dl, .float .f64 dh])).put (some 7) (.pointer (some ⟨q1, 0, none⟩))) ∧ OwnF w ((pb, #[.int .i64 0]) :: l) [#[.float .f64 0, .float .f64 0]] [some q1] v := by
  obtain ⟨y1, y2, y3, z1, ha, E1, E2, E3, G1, h⟩ := h
  obtain rfl := E1 (by decide)
  obtain rfl := E2 (by decide)
  obtain rfl := E3 (by decide)
  obtain rfl := G1 _ rfl
  exact ⟨ha, h⟩
end

set_option maxRecDepth 100000 in
set_option maxHeartbeats 16000000 in
theorem refCap_ok {al ah cl ch sl sh dl dh rl rh : Nat} (w : World)
    (c1 : Hid (∀ w, Calls Tryz.prog 13 #[.agg #[.float .f64 al, .float .f64 ah]] w fun r w' => r = .returned (.bool true) ∧ Below w.heap.size w w'))
    (c2 : Hid (∀ w, Calls Tryz.prog 13 #[.agg #[.float .f64 cl, .float .f64 ch]] w fun r w' => r = .returned (.bool true) ∧ Below w.heap.size w w'))
    (c3 : Hid (∀ w, Calls Tryz.prog 14 #[.agg #[.float .f64 al, .float .f64 ah], .float .f64 0, .float .f64 4607182418800017408] w fun r w' => r = .returned (.bool true) ∧ Below w.heap.size w w'))
    (c4 : Hid (∀ w, Calls Tryz.prog 14 #[.agg #[.float .f64 cl, .float .f64 ch], .float .f64 0, .float .f64 4607182418800017408] w fun r w' => r = .returned (.bool true) ∧ Below w.heap.size w w'))
    (d5 : Hid (KN 24 0 0 4607182418800017408 4607182418800017408 4607182418800017408))
    (d6 : Hid (K1 25 0 0 cl ch sl sh))
    (d7 : Hid (K2 23 0 0 4607182418800017408 4607182418800017408 sl sh dl dh))
    (d8 : Hid (K2 26 0 0 al ah dl dh rl rh)) :
    Calls Tryz.prog 9 #[.agg #[.float .f64 al, .float .f64 ah], .agg #[.float .f64 cl, .float .f64 ch]] w fun r w' => r = .returned (.tuple #[.agg #[.float .f64 rl, .float .f64 rh], .int .i64 0]) ∧ Below w.heap.size w w' := by
  have M := Lib.hid ((((Own.nil w).made #[.float .f64 al, .float .f64 ah] 24).made #[.float .f64 cl, .float .f64 ch] 24).made #[.float .f64 0, .float .f64 0] 24)
  simp only [World.size_alloc] at M
  have eqF := eq_floats
  go_enter Tryz.func9, Tryz.ntmps9
  obtain ⟨k1, k2⟩ := (M.out.nth 2 rfl).two
  go_wp2_with fail
  refine (c1.out _).mono ?_
  rintro r w1_ ⟨rfl, hb⟩
  replace M := Lib.hid (M.out.below hb)
  clear hb
  clear k1 k2
  obtain ⟨k1, k2⟩ := (M.out.nth 1 rfl).two
  go_wp2_with fail
  refine (c2.out _).mono ?_
  rintro r w2_ ⟨rfl, hb⟩
  replace M := Lib.hid (M.out.below hb)
  clear hb
  clear k1 k2
  obtain ⟨k1, k2⟩ := (M.out.nth 2 rfl).two
  go_wp2_with fail
  refine (c3.out _).mono ?_
  rintro r w3_ ⟨rfl, hb⟩
  replace M := Lib.hid (M.out.below hb)
  clear hb
  clear k1 k2
  obtain ⟨k1, k2⟩ := (M.out.nth 1 rfl).two
  go_wp2_with fail
  refine (c4.out _).mono ?_
  rintro r w4_ ⟨rfl, hb⟩
  replace M := Lib.hid (M.out.below hb)
  clear hb
  clear k1 k2
  replace M := Lib.hid (M.out.made #[.int .i64 0] 39)
  go_upto_region 6 with fail
  replace M := Lib.hid M.out.drew
  refine wp_region_noPanic ?_
  refine tails_region (S := fun w' => (w'.cell? ⟨(w.heap.size + 1), 0, none⟩ = some (.float .f64 cl) ∧ w'.cell? ⟨(w.heap.size + 1), 1, none⟩ = some (.float .f64 ch))) [] (by kernel_rfl) ?_ (fun hS => ?_)
  · exact (M.out.nth 2 rfl).two
  refine tk (x := ?_) 0 rfl (by kernel_rfl) ⟨by rfl, ?_⟩ (fun _ _ _ h => h) hS ?_
  rotate_left; focus (intro w hSw; (try dsimp only at hSw); go_simp; try with_reducible rfl)
  refine tk (x := ?_) 1 rfl (by kernel_rfl) ⟨by rfl, ?_⟩ (fun _ _ _ h => h) hS ?_
  rotate_left; focus (intro w hSw; (try dsimp only at hSw); go_simp; try with_reducible rfl)
  refine tk (x := ?_) 3 rfl (by kernel_rfl) ⟨by rfl, ?_⟩ (fun _ _ _ h => h) hS ?_
  rotate_left; focus (intro w hSw; (try dsimp only at hSw); go_simp; try with_reducible rfl)
  refine tk (x := ?_) 4 rfl (by kernel_rfl) ⟨by rfl, ?_⟩ (fun _ _ _ h => h) hS ?_
  rotate_left; focus (intro w hSw; (try dsimp only at hSw); go_simp; try with_reducible rfl)
  conv => arg 9; simp only [Act.put, go_sem]
  refine lpx_ccc_1 M 2 5 6 7 [30, 33, 34, 7] 1 (rcokJ6 w w4_.heap.size sl sh dl dh) (by kernel_rfl) (by kernel_rfl) ?_ ?_ ?_ ?_ ?_ ?_ ?_
  · intro A hA
    obtain ⟨y1, hq1⟩ := put_ex (hA 30 (by simp))
    obtain ⟨y2, hq2⟩ := put_ex (hA 33 (by simp))
    obtain ⟨y3, hq3⟩ := put_ex (hA 34 (by simp))
    obtain ⟨z1, hq4⟩ := put_ex (hA 7 (by simp))
    exact ⟨y1, y2, y3, z1, by rw [hq1, hq2, hq3, hq4], by omega, by omega, by omega, by simp, OwnF.start M.out 1⟩
  · rintro k p a v ⟨y1, y2, y3, z1, _, _, _, _, _, h⟩
    exact (h.own.nth 2 rfl).two
  · intro p a v hJ
    refine op_step (o := _) rfl (fun K hK => ?_)
    obtain ⟨y1, y2, y3, z1, ha, gg1, h⟩ := rcokJ6_0 hJ
    have h := Lib.hid h
    clear hJ
    subst ha
    go_simp
    refine (d5.out _ _ (h.out.own.nth 0 rfl)).mono ?_
    rintro rr w5 ⟨rfl, hp⟩
    try go_wp2_with fail
    refine hK.out _ _ ⟨_, y2, y3, z1, ?_, fun _ => rfl, by omega, by omega, gg1, h.out.putHead hp⟩
    kernel_rfl
  · intro p a v hJ
    refine op_step (o := _) rfl (fun K hK => ?_)
    obtain ⟨y2, y3, z1, ha, gg1, h⟩ := rcokJ6_1 hJ
    have h := Lib.hid h
    clear hJ
    subst ha
    go_simp
    refine (d6.out _ _ (h.out.own.nth 0 rfl)).mono ?_
    rintro rr w5 ⟨rfl, hp⟩
    try go_wp2_with fail
    refine hK.out _ _ ⟨_, _, y3, z1, ?_, fun _ => rfl, fun _ => rfl, by omega, gg1, h.out.putHead hp⟩
    kernel_rfl
  · intro p a v hJ
    refine op_step (o := _) rfl (fun K hK => ?_)
    obtain ⟨y3, z1, ha, gg1, h⟩ := rcokJ6_2 hJ
    have h := Lib.hid h
    clear hJ
    subst ha
    go_simp
    refine (d7.out _ _ (h.out.own.nth 0 rfl)).mono ?_
    rintro rr w5 ⟨rfl, hp⟩
    try go_wp2_with fail
    refine hK.out _ _ ⟨_, _, _, z1, ?_, fun _ => rfl, fun _ => rfl, fun _ => rfl, gg1, h.out.putHead hp⟩
    kernel_rfl
  · intro k p a v hp hJ
    refine op_step (o := _) rfl (fun K hK => ?_)
    obtain ⟨y1, y2, y3, z1, ha, ee1, ee2, ee3, gg1, h⟩ := hJ
    have h := Lib.hid h
    subst ha
    go_simp
    refine hK.out _ _ ⟨v.heap.size, y1, y2, y3, .pointer (some ⟨v.heap.size, 0, none⟩), ?_, ee1, ee2, ee3, fun q hq => ptr_set hq, h.out.alloc hp rfl _⟩
    kernel_rfl
  intro p6_1 a v hJ
  obtain ⟨rfl, h⟩ := rcokJ6_fin hJ
  clear hJ
  replace M := Lib.hid h.fin1
  clear h
  refine tails_one (T := []) (i := 8) (o := _) rfl (by kernel_rfl) (fun K hK => ?_)
  have kc := (M.out.nth 0 rfl).2.1
  have kf := (M.out.nth 0 rfl).2.2
  replace M : Hid (Own w [(p6_1, #[.float .f64 dl, .float .f64 dh]), (w4_.heap.size, #[.int .i64 0]), ((w.heap.size + 1 + 1), #[.float .f64 0, .float .f64 0]), ((w.heap.size + 1), #[.float .f64 cl, .float .f64 ch]), (w.heap.size, #[.float .f64 al, .float .f64 ah])] _) := Lib.hid (M.out.set2 0 rfl (.float .f64 dl) (.float .f64 dh))
  go_simp
  refine hK.out _ _ (Or.inr (M.out.nth 3 rfl).two) (fun hHeld => ?_)
  clear hK K hHeld kc kf
  refine tails_done (by kernel_rfl) ?_ _
  refine NoPanic.normal ?_
  clear hS
  replace M : Hid (Own w [(w4_.heap.size, #[.int .i64 0]), (p6_1, #[.float .f64 dl, .float .f64 dh]), ((w.heap.size + 1 + 1), #[.float .f64 0, .float .f64 0]), ((w.heap.size + 1), #[.float .f64 cl, .float .f64 ch]), (w.heap.size, #[.float .f64 al, .float .f64 ah])] _) := Lib.hid M.out.front
  revert M
  generalize ((v.setCell ⟨p6_1, 0, none⟩ (.float .f64 dl)).setCell ⟨p6_1, 1, none⟩ (.float .f64 dh)) = W5_
  intro M
  obtain ⟨k1, k2⟩ := (M.out.nth 4 rfl).two
  obtain ⟨k3, k4⟩ := (M.out.nth 1 rfl).two
  go_wp2_with fail
  refine (d8.out _ _ (M.out.nth 0 rfl)).mono ?_
  rintro r w6_ ⟨rfl, hb⟩
  replace M : Hid (Own w [(w4_.heap.size, #[.int .i64 0]), (p6_1, #[.float .f64 dl, .float .f64 dh]), ((w.heap.size + 1 + 1), #[.float .f64 0, .float .f64 0]), ((w.heap.size + 1), #[.float .f64 cl, .float .f64 ch]), (w.heap.size, #[.float .f64 al, .float .f64 ah])] w6_) := Lib.hid (M.out.putAt 0 rfl hb)
  clear hb
  clear k1 k2 k3 k4
  have kc := (M.out.nth 2 rfl).2.1
  have kf := (M.out.nth 2 rfl).2.2
  replace M : Hid (Own w [(w4_.heap.size, #[.int .i64 0]), (p6_1, #[.float .f64 dl, .float .f64 dh]), ((w.heap.size + 1 + 1), #[.float .f64 rl, .float .f64 rh]), ((w.heap.size + 1), #[.float .f64 cl, .float .f64 ch]), (w.heap.size, #[.float .f64 al, .float .f64 ah])] _) := Lib.hid (M.out.set2 2 rfl (.float .f64 rl) (.float .f64 rh))
  go_wp2
  obtain ⟨f1, f2⟩ := (M.out.nth 2 rfl).two
  exact bodyPost_ret (v := .tuple #[.agg #[.float .f64 rl, .float .f64 rh], .int .i64 0]) (by simp [results, Tryz.results9, go_sem, f1, f2]) rfl ⟨rfl, M.out.base⟩

set_option maxRecDepth 100000 in
set_option maxHeartbeats 16000000 in
theorem refCap_iv1 {al ah cl ch : Nat} (w : World)
    (c1 : Hid (∀ w, Calls Tryz.prog 13 #[.agg #[.float .f64 al, .float .f64 ah]] w fun r w' => r = .returned (.bool false) ∧ Below w.heap.size w w')) :
    Calls Tryz.prog 9 #[.agg #[.float .f64 al, .float .f64 ah], .agg #[.float .f64 cl, .float .f64 ch]] w fun r w' => r = .returned (.tuple #[.agg #[.float .f64 0, .float .f64 0], .int .i64 20]) ∧ Below w.heap.size w w' := by
  have M := Lib.hid ((((Own.nil w).made #[.float .f64 al, .float .f64 ah] 24).made #[.float .f64 cl, .float .f64 ch] 24).made #[.float .f64 0, .float .f64 0] 24)
  simp only [World.size_alloc] at M
  have eqF := eq_floats
  go_enter Tryz.func9, Tryz.ntmps9
  obtain ⟨k1, k2⟩ := (M.out.nth 2 rfl).two
  go_wp2_with fail
  refine (c1.out _).mono ?_
  rintro r w1_ ⟨rfl, hb⟩
  replace M := Lib.hid (M.out.below hb)
  clear hb
  clear k1 k2
  have kc := (M.out.nth 0 rfl).2.1
  have kf := (M.out.nth 0 rfl).2.2
  replace M : Hid (Own w [((w.heap.size + 1 + 1), #[.float .f64 0, .float .f64 0]), ((w.heap.size + 1), #[.float .f64 cl, .float .f64 ch]), (w.heap.size, #[.float .f64 al, .float .f64 ah])] _) := Lib.hid (M.out.set2 0 rfl (.float .f64 0) (.float .f64 0))
  go_wp2
  obtain ⟨f1, f2⟩ := (M.out.nth 0 rfl).two
  exact bodyPost_ret (v := .tuple #[.agg #[.float .f64 0, .float .f64 0], .int .i64 20]) (by simp [results, Tryz.results9, go_sem, f1, f2]) rfl ⟨rfl, M.out.base⟩

set_option maxRecDepth 100000 in
set_option maxHeartbeats 16000000 in
theorem refCap_iv2 {al ah cl ch : Nat} (w : World)
    (c1 : Hid (∀ w, Calls Tryz.prog 13 #[.agg #[.float .f64 al, .float .f64 ah]] w fun r w' => r = .returned (.bool true) ∧ Below w.heap.size w w'))
    (c2 : Hid (∀ w, Calls Tryz.prog 13 #[.agg #[.float .f64 cl, .float .f64 ch]] w fun r w' => r = .returned (.bool false) ∧ Below w.heap.size w w')) :
    Calls Tryz.prog 9 #[.agg #[.float .f64 al, .float .f64 ah], .agg #[.float .f64 cl, .float .f64 ch]] w fun r w' => r = .returned (.tuple #[.agg #[.float .f64 0, .float .f64 0], .int .i64 20]) ∧ Below w.heap.size w w' := by
  have M := Lib.hid ((((Own.nil w).made #[.float .f64 al, .float .f64 ah] 24).made #[.float .f64 cl, .float .f64 ch] 24).made #[.float .f64 0, .float .f64 0] 24)
  simp only [World.size_alloc] at M
  have eqF := eq_floats
  go_enter Tryz.func9, Tryz.ntmps9
  obtain ⟨k1, k2⟩ := (M.out.nth 2 rfl).two
  go_wp2_with fail
  refine (c1.out _).mono ?_
  rintro r w1_ ⟨rfl, hb⟩
  replace M := Lib.hid (M.out.below hb)
  clear hb
  clear k1 k2
  obtain ⟨k1, k2⟩ := (M.out.nth 1 rfl).two
  go_wp2_with fail
  refine (c2.out _).mono ?_
  rintro r w2_ ⟨rfl, hb⟩
  replace M := Lib.hid (M.out.below hb)
  clear hb
  clear k1 k2
  have kc := (M.out.nth 0 rfl).2.1
  have kf := (M.out.nth 0 rfl).2.2
  replace M : Hid (Own w [((w.heap.size + 1 + 1), #[.float .f64 0, .float .f64 0]), ((w.heap.size + 1), #[.float .f64 cl, .float .f64 ch]), (w.heap.size, #[.float .f64 al, .float .f64 ah])] _) := Lib.hid (M.out.set2 0 rfl (.float .f64 0) (.float .f64 0))
  go_wp2
  obtain ⟨f1, f2⟩ := (M.out.nth 0 rfl).two
  exact bodyPost_ret (v := .tuple #[.agg #[.float .f64 0, .float .f64 0], .int .i64 20]) (by simp [results, Tryz.results9, go_sem, f1, f2]) rfl ⟨rfl, M.out.base⟩

set_option maxRecDepth 100000 in
set_option maxHeartbeats 16000000 in
theorem refCap_arg1 {al ah cl ch : Nat} (w : World)
    (c1 : Hid (∀ w, Calls Tryz.prog 13 #[.agg #[.float .f64 al, .float .f64 ah]] w fun r w' => r = .returned (.bool true) ∧ Below w.heap.size w w'))
    (c2 : Hid (∀ w, Calls Tryz.prog 13 #[.agg #[.float .f64 cl, .float .f64 ch]] w fun r w' => r = .returned (.bool true) ∧ Below w.heap.size w w'))
    (c3 : Hid (∀ w, Calls Tryz.prog 14 #[.agg #[.float .f64 al, .float .f64 ah], .float .f64 0, .float .f64 4607182418800017408] w fun r w' => r = .returned (.bool false) ∧ Below w.heap.size w w')) :
    Calls Tryz.prog 9 #[.agg #[.float .f64 al, .float .f64 ah], .agg #[.float .f64 cl, .float .f64 ch]] w fun r w' => r = .returned (.tuple #[.agg #[.float .f64 0, .float .f64 0], .int .i64 2]) ∧ Below w.heap.size w w' := by
  have M := Lib.hid ((((Own.nil w).made #[.float .f64 al, .float .f64 ah] 24).made #[.float .f64 cl, .float .f64 ch] 24).made #[.float .f64 0, .float .f64 0] 24)
  simp only [World.size_alloc] at M
  have eqF := eq_floats
  go_enter Tryz.func9, Tryz.ntmps9
  obtain ⟨k1, k2⟩ := (M.out.nth 2 rfl).two
  go_wp2_with fail
  refine (c1.out _).mono ?_
  rintro r w1_ ⟨rfl, hb⟩
  replace M := Lib.hid (M.out.below hb)
  clear hb
  clear k1 k2
  obtain ⟨k1, k2⟩ := (M.out.nth 1 rfl).two
  go_wp2_with fail
  refine (c2.out _).mono ?_
  rintro r w2_ ⟨rfl, hb⟩
  replace M := Lib.hid (M.out.below hb)
  clear hb
  clear k1 k2
  obtain ⟨k1, k2⟩ := (M.out.nth 2 rfl).two
  go_wp2_with fail
  refine (c3.out _).mono ?_
  rintro r w3_ ⟨rfl, hb⟩
  replace M := Lib.hid (M.out.below hb)
  clear hb
  clear k1 k2
  have kc := (M.out.nth 0 rfl).2.1
  have kf := (M.out.nth 0 rfl).2.2
  replace M : Hid (Own w [((w.heap.size + 1 + 1), #[.float .f64 0, .float .f64 0]), ((w.heap.size + 1), #[.float .f64 cl, .float .f64 ch]), (w.heap.size, #[.float .f64 al, .float .f64 ah])] _) := Lib.hid (M.out.set2 0 rfl (.float .f64 0) (.float .f64 0))
  go_wp2
  obtain ⟨f1, f2⟩ := (M.out.nth 0 rfl).two
  exact bodyPost_ret (v := .tuple #[.agg #[.float .f64 0, .float .f64 0], .int .i64 2]) (by simp [results, Tryz.results9, go_sem, f1, f2]) rfl ⟨rfl, M.out.base⟩

set_option maxRecDepth 100000 in
set_option maxHeartbeats 16000000 in
theorem refCap_arg2 {al ah cl ch : Nat} (w : World)
    (c1 : Hid (∀ w, Calls Tryz.prog 13 #[.agg #[.float .f64 al, .float .f64 ah]] w fun r w' => r = .returned (.bool true) ∧ Below w.heap.size w w'))
    (c2 : Hid (∀ w, Calls Tryz.prog 13 #[.agg #[.float .f64 cl, .float .f64 ch]] w fun r w' => r = .returned (.bool true) ∧ Below w.heap.size w w'))
    (c3 : Hid (∀ w, Calls Tryz.prog 14 #[.agg #[.float .f64 al, .float .f64 ah], .float .f64 0, .float .f64 4607182418800017408] w fun r w' => r = .returned (.bool true) ∧ Below w.heap.size w w'))
    (c4 : Hid (∀ w, Calls Tryz.prog 14 #[.agg #[.float .f64 cl, .float .f64 ch], .float .f64 0, .float .f64 4607182418800017408] w fun r w' => r = .returned (.bool false) ∧ Below w.heap.size w w')) :
    Calls Tryz.prog 9 #[.agg #[.float .f64 al, .float .f64 ah], .agg #[.float .f64 cl, .float .f64 ch]] w fun r w' => r = .returned (.tuple #[.agg #[.float .f64 0, .float .f64 0], .int .i64 2]) ∧ Below w.heap.size w w' := by
  have M := Lib.hid ((((Own.nil w).made #[.float .f64 al, .float .f64 ah] 24).made #[.float .f64 cl, .float .f64 ch] 24).made #[.float .f64 0, .float .f64 0] 24)
  simp only [World.size_alloc] at M
  have eqF := eq_floats
  go_enter Tryz.func9, Tryz.ntmps9
  obtain ⟨k1, k2⟩ := (M.out.nth 2 rfl).two
  go_wp2_with fail
  refine (c1.out _).mono ?_
  rintro r w1_ ⟨rfl, hb⟩
  replace M := Lib.hid (M.out.below hb)
  clear hb
  clear k1 k2
  obtain ⟨k1, k2⟩ := (M.out.nth 1 rfl).two
  go_wp2_with fail
  refine (c2.out _).mono ?_
  rintro r w2_ ⟨rfl, hb⟩
  replace M := Lib.hid (M.out.below hb)
  clear hb
  clear k1 k2
  obtain ⟨k1, k2⟩ := (M.out.nth 2 rfl).two
  go_wp2_with fail
  refine (c3.out _).mono ?_
  rintro r w3_ ⟨rfl, hb⟩
  replace M := Lib.hid (M.out.below hb)
  clear hb
  clear k1 k2
  obtain ⟨k1, k2⟩ := (M.out.nth 1 rfl).two
  go_wp2_with fail
  refine (c4.out _).mono ?_
  rintro r w4_ ⟨rfl, hb⟩
  replace M := Lib.hid (M.out.below hb)
  clear hb
  clear k1 k2
  have kc := (M.out.nth 0 rfl).2.1
  have kf := (M.out.nth 0 rfl).2.2
  replace M : Hid (Own w [((w.heap.size + 1 + 1), #[.float .f64 0, .float .f64 0]), ((w.heap.size + 1), #[.float .f64 cl, .float .f64 ch]), (w.heap.size, #[.float .f64 al, .float .f64 ah])] _) := Lib.hid (M.out.set2 0 rfl (.float .f64 0) (.float .f64 0))
  go_wp2
  obtain ⟨f1, f2⟩ := (M.out.nth 0 rfl).two
  exact bodyPost_ret (v := .tuple #[.agg #[.float .f64 0, .float .f64 0], .int .i64 2]) (by simp [results, Tryz.results9, go_sem, f1, f2]) rfl ⟨rfl, M.out.base⟩

end Go.Proofs.YtoocmocaelcbkaaGreat

namespace Go.Proofs.YtoocmocaelcbkaaGreat
open Go.RowKit
attribute [local go_sem] run_store_float

set_option maxRecDepth 100000 in
set_option maxHeartbeats 16000000 in
theorem lambert_tells_odd {al ah cl ch u0 u1 u2 u3 xl xh yl yh zl zh : Nat} {xe ye ze : Int} (w : World)
    (c1 : Hid (∀ w, Calls Tryz.prog 5 #[.agg #[.float .f64 al, .float .f64 ah]] w fun r w' => r = .returned (.tuple #[.agg #[.float .f64 xl, .float .f64 xh], .int .i64 xe]) ∧ Below w.heap.size w w'))
    (c2 : Hid (∀ w, Calls Tryz.prog 6 #[.agg #[.float .f64 al, .float .f64 ah]] w fun r w' => r = .returned (.tuple #[.agg #[.float .f64 xl, .float .f64 xh], .int .i64 xe]) ∧ Below w.heap.size w w'))
    (c3 : Hid (∀ w, Calls Tryz.prog 7 #[.agg #[.float .f64 cl, .float .f64 ch]] w fun r w' => r = .returned (.tuple #[.agg #[.float .f64 yl, .float .f64 yh], .int .i64 ye]) ∧ Below w.heap.size w w'))
    (c4 : Hid (∀ w, Calls Tryz.prog 6 #[.agg #[.float .f64 cl, .float .f64 ch]] w fun r w' => r = .returned (.tuple #[.agg #[.float .f64 yl, .float .f64 yh], .int .i64 ye]) ∧ Below w.heap.size w w'))
    (c5 : Hid (∀ w, Calls Tryz.prog 8 #[.agg #[.float .f64 al, .float .f64 ah], .agg #[.float .f64 cl, .float .f64 ch]] w fun r w' => r = .returned (.tuple #[.agg #[.float .f64 zl, .float .f64 zh], .int .i64 ze]) ∧ Below w.heap.size w w'))
    (c6 : Hid (∀ w, Calls Tryz.prog 9 #[.agg #[.float .f64 al, .float .f64 ah], .agg #[.float .f64 cl, .float .f64 ch]] w fun r w' => r = .returned (.tuple #[.agg #[.float .f64 zl, .float .f64 zh], .int .i64 ze]) ∧ Below w.heap.size w w'))
    (e_xl_xl : (Op.floatEq .f64 xl xl = true))
    (e_xh_xh : (Op.floatEq .f64 xh xh = true))
    (e_yl_yl : (Op.floatEq .f64 yl yl = true))
    (e_yh_yh : (Op.floatEq .f64 yh yh = true))
    (e_zl_zl : (Op.floatEq .f64 zl zl = true))
    (e_zh_zh : (Op.floatEq .f64 zh zh = true))
    (c7 : Hid (∀ w, Calls Tryz.prog 10 #[] w fun r w' => r = .returned (.bool true) ∧ Below w.heap.size w w'))
    (t : ((u0 : Int) % 2 == 0) = false) :
    Calls Tryz.prog 3 #[.agg #[.float .f64 al, .float .f64 ah], .agg #[.float .f64 cl, .float .f64 ch], .agg #[.int .u32 u0, .int .u32 u1, .int .u32 u2, .int .u32 u3]] w fun r w' => r = .returned (.bool true) ∧ Below w.heap.size w w' := by
  have M := Lib.hid ((((Own.nil w).made #[.float .f64 al, .float .f64 ah] 24).made #[.float .f64 cl, .float .f64 ch] 24).made #[.int .u32 u0, .int .u32 u1, .int .u32 u2, .int .u32 u3] 26)
  simp only [World.size_alloc] at M
  have eqF := eq_floats
  go_enter Tryz.func3, Tryz.ntmps3
  obtain ⟨k1, k2, k3, k4⟩ := (M.out.nth 0 rfl).four
  obtain ⟨k5, k6⟩ := (M.out.nth 2 rfl).two
  go_wp2_with fail
  refine (c1.out _).mono ?_
  rintro r w1_ ⟨rfl, hb⟩
  replace M := Lib.hid (M.out.below hb)
  clear hb
  clear k1 k2 k3 k4 k5 k6
  replace M := Lib.hid (M.out.made #[.float .f64 xl, .float .f64 xh] 24)
  obtain ⟨k1, k2⟩ := (M.out.nth 3 rfl).two
  go_wp2_with fail
  refine (c2.out _).mono ?_
  rintro r w2_ ⟨rfl, hb⟩
  replace M := Lib.hid (M.out.below hb)
  clear hb
  clear k1 k2
  replace M := Lib.hid (M.out.made #[.float .f64 xl, .float .f64 xh] 24)
  obtain ⟨k1, k2⟩ := (M.out.nth 3 rfl).two
  go_wp2_with fail
  refine (c3.out _).mono ?_
  rintro r w3_ ⟨rfl, hb⟩
  replace M := Lib.hid (M.out.below hb)
  clear hb
  clear k1 k2
  replace M := Lib.hid (M.out.made #[.float .f64 yl, .float .f64 yh] 24)
  obtain ⟨k1, k2⟩ := (M.out.nth 4 rfl).two
  go_wp2_with fail
  refine (c4.out _).mono ?_
  rintro r w4_ ⟨rfl, hb⟩
  replace M := Lib.hid (M.out.below hb)
  clear hb
  clear k1 k2
  replace M := Lib.hid (M.out.made #[.float .f64 yl, .float .f64 yh] 24)
  obtain ⟨k1, k2⟩ := (M.out.nth 6 rfl).two
  obtain ⟨k3, k4⟩ := (M.out.nth 5 rfl).two
  go_wp2_with fail
  refine (c5.out _).mono ?_
  rintro r w5_ ⟨rfl, hb⟩
  replace M := Lib.hid (M.out.below hb)
  clear hb
  clear k1 k2 k3 k4
  replace M := Lib.hid (M.out.made #[.float .f64 zl, .float .f64 zh] 24)
  obtain ⟨k1, k2⟩ := (M.out.nth 7 rfl).two
  obtain ⟨k3, k4⟩ := (M.out.nth 6 rfl).two
  go_wp2_with fail
  refine (c6.out _).mono ?_
  rintro r w6_ ⟨rfl, hb⟩
  replace M := Lib.hid (M.out.below hb)
  clear hb
  clear k1 k2 k3 k4
  replace M := Lib.hid (M.out.made #[.float .f64 zl, .float .f64 zh] 24)
  obtain ⟨k1, k2⟩ := (M.out.nth 5 rfl).two
  obtain ⟨k3, k4⟩ := (M.out.nth 4 rfl).two
  obtain ⟨k5, k6⟩ := (M.out.nth 3 rfl).two
  obtain ⟨k7, k8⟩ := (M.out.nth 2 rfl).two
  obtain ⟨k9, k10⟩ := (M.out.nth 1 rfl).two
  go_wp2_with fail
  refine (c7.out _).mono ?_
  rintro r w7_ ⟨rfl, hb⟩
  replace M := Lib.hid (M.out.below hb)
  clear hb
  clear k1 k2 k3 k4 k5 k6 k7 k8 k9 k10
  go_wp2
  go_ret
  exact ⟨rfl, M.out.base⟩

set_option maxRecDepth 100000 in
set_option maxHeartbeats 16000000 in
theorem lambert_tells_even {al ah cl ch u0 u1 u2 u3 pl ph ql qh xl xh yl yh zl zh : Nat} {xe ye ze : Int} (w : World)
    (c1 : Hid (∀ w, Calls Tryz.prog 4 #[.float .f64 0, .float .f64 4607182418800017408, .int .u32 u0, .int .u32 u1] w fun r w' => r = .returned (.agg #[.float .f64 pl, .float .f64 ph]) ∧ Below w.heap.size w w'))
    (c2 : Hid (∀ w, Calls Tryz.prog 4 #[.float .f64 0, .float .f64 4607182418800017408, .int .u32 u2, .int .u32 u3] w fun r w' => r = .returned (.agg #[.float .f64 ql, .float .f64 qh]) ∧ Below w.heap.size w w'))
    (c3 : Hid (∀ w, Calls Tryz.prog 5 #[.agg #[.float .f64 pl, .float .f64 ph]] w fun r w' => r = .returned (.tuple #[.agg #[.float .f64 xl, .float .f64 xh], .int .i64 xe]) ∧ Below w.heap.size w w'))
    (c4 : Hid (∀ w, Calls Tryz.prog 6 #[.agg #[.float .f64 pl, .float .f64 ph]] w fun r w' => r = .returned (.tuple #[.agg #[.float .f64 xl, .float .f64 xh], .int .i64 xe]) ∧ Below w.heap.size w w'))
    (c5 : Hid (∀ w, Calls Tryz.prog 7 #[.agg #[.float .f64 ql, .float .f64 qh]] w fun r w' => r = .returned (.tuple #[.agg #[.float .f64 yl, .float .f64 yh], .int .i64 ye]) ∧ Below w.heap.size w w'))
    (c6 : Hid (∀ w, Calls Tryz.prog 6 #[.agg #[.float .f64 ql, .float .f64 qh]] w fun r w' => r = .returned (.tuple #[.agg #[.float .f64 yl, .float .f64 yh], .int .i64 ye]) ∧ Below w.heap.size w w'))
    (c7 : Hid (∀ w, Calls Tryz.prog 8 #[.agg #[.float .f64 pl, .float .f64 ph], .agg #[.float .f64 ql, .float .f64 qh]] w fun r w' => r = .returned (.tuple #[.agg #[.float .f64 zl, .float .f64 zh], .int .i64 ze]) ∧ Below w.heap.size w w'))
    (c8 : Hid (∀ w, Calls Tryz.prog 9 #[.agg #[.float .f64 pl, .float .f64 ph], .agg #[.float .f64 ql, .float .f64 qh]] w fun r w' => r = .returned (.tuple #[.agg #[.float .f64 zl, .float .f64 zh], .int .i64 ze]) ∧ Below w.heap.size w w'))
    (e_xl_xl : (Op.floatEq .f64 xl xl = true))
    (e_xh_xh : (Op.floatEq .f64 xh xh = true))
    (e_yl_yl : (Op.floatEq .f64 yl yl = true))
    (e_yh_yh : (Op.floatEq .f64 yh yh = true))
    (e_zl_zl : (Op.floatEq .f64 zl zl = true))
    (e_zh_zh : (Op.floatEq .f64 zh zh = true))
    (c9 : Hid (∀ w, Calls Tryz.prog 10 #[] w fun r w' => r = .returned (.bool true) ∧ Below w.heap.size w w'))
    (t : ((u0 : Int) % 2 == 0) = true) :
    Calls Tryz.prog 3 #[.agg #[.float .f64 al, .float .f64 ah], .agg #[.float .f64 cl, .float .f64 ch], .agg #[.int .u32 u0, .int .u32 u1, .int .u32 u2, .int .u32 u3]] w fun r w' => r = .returned (.bool true) ∧ Below w.heap.size w w' := by
  have M := Lib.hid ((((Own.nil w).made #[.float .f64 al, .float .f64 ah] 24).made #[.float .f64 cl, .float .f64 ch] 24).made #[.int .u32 u0, .int .u32 u1, .int .u32 u2, .int .u32 u3] 26)
  simp only [World.size_alloc] at M
  have eqF := eq_floats
  go_enter Tryz.func3, Tryz.ntmps3
  obtain ⟨k1, k2, k3, k4⟩ := (M.out.nth 0 rfl).four
  go_upto_region 2 with fail
  clear k1 k2 k3 k4
  replace M := Lib.hid M.out.drew
  obtain ⟨k1, k2, k3, k4⟩ := (M.out.nth 0 rfl).four
  have kc0 := (M.out.nth 2 rfl).2.1
  have kf0 := (M.out.nth 2 rfl).2.2
  have kc1 := (M.out.nth 1 rfl).2.1
  have kf1 := (M.out.nth 1 rfl).2.2
  have zz_b1_b3 := M.out.ne 2 0 rfl rfl (by decide)
  dsimp only at zz_b1_b3
  have zz_b2_b3 := M.out.ne 1 0 rfl rfl (by decide)
  dsimp only at zz_b2_b3
  go_region_held3 (fun w' => (w'.cell? ⟨(w.heap.size + 1 + 1), 0, none⟩ = some (.int .u32 u0) ∧ w'.cell? ⟨(w.heap.size + 1 + 1), 1, none⟩ = some (.int .u32 u1) ∧ w'.cell? ⟨(w.heap.size + 1 + 1), 2, none⟩ = some (.int .u32 u2) ∧ w'.cell? ⟨(w.heap.size + 1 + 1), 3, none⟩ = some (.int .u32 u3))) (((try dsimp only); (repeat' apply And.intro); all_goals (repeat (first | (with_reducible assumption) | ((with_reducible refine keep_undrew ?_); (with_reducible assumption)) | (with_reducible refine keep_drew ?_) | (with_reducible refine keep_alloc _ ?_) | (with_reducible refine keep_set _ (by first | (with_reducible assumption) | omega) ?_)))))
    (first
      | (go_at_call 4; (with_reducible refine (c1.out _).mono ?_); rintro rr w5 ⟨rfl, hb⟩; replace M := Lib.hid (M.out.below hb); clear hb; clear k1 k2 k3 k4 kc0 kf0 kc1 kf1; obtain ⟨k1, k2, k3, k4⟩ := (M.out.nth 0 rfl).four; have kc0 := (M.out.nth 2 rfl).2.1; have kf0 := (M.out.nth 2 rfl).2.2; have kc1 := (M.out.nth 1 rfl).2.1; have kf1 := (M.out.nth 1 rfl).2.2)
      | (go_at_call 4; (with_reducible refine (c2.out _).mono ?_); rintro rr w5 ⟨rfl, hb⟩; replace M := Lib.hid (M.out.below hb); clear hb; clear k1 k2 k3 k4 kc0 kf0 kc1 kf1; obtain ⟨k1, k2, k3, k4⟩ := (M.out.nth 0 rfl).four; have kc0 := (M.out.nth 2 rfl).2.1; have kf0 := (M.out.nth 2 rfl).2.2; have kc1 := (M.out.nth 1 rfl).2.1; have kf1 := (M.out.nth 1 rfl).2.2))
  clear k1 k2 k3 k4 kc0 kf0 kc1 kf1
  replace M : Hid (Own w [((w.heap.size + 1 + 1), #[.int .u32 u0, .int .u32 u1, .int .u32 u2, .int .u32 u3]), ((w.heap.size + 1), #[.float .f64 cl, .float .f64 ch]), (w.heap.size, #[.float .f64 pl, .float .f64 ph])] _) := Lib.hid (M.out.set2 2 rfl (.float .f64 pl) (.float .f64 ph))
  replace M : Hid (Own w [((w.heap.size + 1 + 1), #[.int .u32 u0, .int .u32 u1, .int .u32 u2, .int .u32 u3]), ((w.heap.size + 1), #[.float .f64 ql, .float .f64 qh]), (w.heap.size, #[.float .f64 pl, .float .f64 ph])] _) := Lib.hid (M.out.set2 1 rfl (.float .f64 ql) (.float .f64 qh))
  obtain ⟨k1, k2⟩ := (M.out.nth 2 rfl).two
  go_wp2_with fail
  refine (c3.out _).mono ?_
  rintro r w1_ ⟨rfl, hb⟩
  replace M := Lib.hid (M.out.below hb)
  clear hb
  clear k1 k2
  replace M := Lib.hid (M.out.made #[.float .f64 xl, .float .f64 xh] 24)
  obtain ⟨k1, k2⟩ := (M.out.nth 3 rfl).two
  go_wp2_with fail
  refine (c4.out _).mono ?_
  rintro r w2_ ⟨rfl, hb⟩
  replace M := Lib.hid (M.out.below hb)
  clear hb
  clear k1 k2
  replace M := Lib.hid (M.out.made #[.float .f64 xl, .float .f64 xh] 24)
  obtain ⟨k1, k2⟩ := (M.out.nth 3 rfl).two
  go_wp2_with fail
  refine (c5.out _).mono ?_
  rintro r w3_ ⟨rfl, hb⟩
  replace M := Lib.hid (M.out.below hb)
  clear hb
  clear k1 k2
  replace M := Lib.hid (M.out.made #[.float .f64 yl, .float .f64 yh] 24)
  obtain ⟨k1, k2⟩ := (M.out.nth 4 rfl).two
  go_wp2_with fail
  refine (c6.out _).mono ?_
  rintro r w4_ ⟨rfl, hb⟩
  replace M := Lib.hid (M.out.below hb)
  clear hb
  clear k1 k2
  replace M := Lib.hid (M.out.made #[.float .f64 yl, .float .f64 yh] 24)
  obtain ⟨k1, k2⟩ := (M.out.nth 6 rfl).two
  obtain ⟨k3, k4⟩ := (M.out.nth 5 rfl).two
  go_wp2_with fail
  refine (c7.out _).mono ?_
  rintro r w5_ ⟨rfl, hb⟩
  replace M := Lib.hid (M.out.below hb)
  clear hb
  clear k1 k2 k3 k4
  replace M := Lib.hid (M.out.made #[.float .f64 zl, .float .f64 zh] 24)
  obtain ⟨k1, k2⟩ := (M.out.nth 7 rfl).two
  obtain ⟨k3, k4⟩ := (M.out.nth 6 rfl).two
  go_wp2_with fail
  refine (c8.out _).mono ?_
  rintro r w6_ ⟨rfl, hb⟩
  replace M := Lib.hid (M.out.below hb)
  clear hb
  clear k1 k2 k3 k4
  replace M := Lib.hid (M.out.made #[.float .f64 zl, .float .f64 zh] 24)
  obtain ⟨k1, k2⟩ := (M.out.nth 5 rfl).two
  obtain ⟨k3, k4⟩ := (M.out.nth 4 rfl).two
  obtain ⟨k5, k6⟩ := (M.out.nth 3 rfl).two
  obtain ⟨k7, k8⟩ := (M.out.nth 2 rfl).two
  obtain ⟨k9, k10⟩ := (M.out.nth 1 rfl).two
  go_wp2_with fail
  refine (c9.out _).mono ?_
  rintro r w7_ ⟨rfl, hb⟩
  replace M := Lib.hid (M.out.below hb)
  clear hb
  clear k1 k2 k3 k4 k5 k6 k7 k8 k9 k10
  go_wp2
  go_ret
  exact ⟨rfl, M.out.base⟩

end Go.Proofs.YtoocmocaelcbkaaGreat

namespace Go.Proofs.YtoocmocaelcbkaaGreat
open Go.RowKit

theorem told_put {R : Res} {e1 : Int} {l h : Nat} {f : FuncId} {args : Array Value} {pb : Nat} {w : World} (k : Calls Tryz.prog f args w (Told R pb 0 w)) (he : R.e = e1) (hl : R.lo = l) (hh : R.hi = h) :
    Calls Tryz.prog f args w fun r w' => r = .returned (.agg #[.float .f64 l, .float .f64 h]) ∧ Put ⟨pb, 0, none⟩ (.int .i64 e1) w w' := by
  subst he hl hh
  exact k.mono fun _ _ ⟨h1, h2⟩ => ⟨h1, h2⟩
theorem step_fit {R : Res} (b : Bool) (hb : b = true) : stepI 0 b R = R := by subst hb; rfl
section
variable {a c : Res}
theorem rdiv_fit (ia : In a unI) (pb : Nat) (v : World) (hC : Has1 v (pb, #[.int .i64 0])) :
    Calls Tryz.prog 15 #[.pointer (some ⟨pb, 0, none⟩), .agg #[.float .f64 a.lo, .float .f64 a.hi], .agg #[.float .f64 4614256656552045848, .float .f64 4614256656552045849]] v fun r w' => r = .returned (.agg #[.float .f64 (valueR a).lo, .float .f64 (valueR a).hi]) ∧ Put ⟨pb, 0, none⟩ (.int .i64 0) v w' := by
  have k := rDiv_any 0 a.lo a.hi piR.lo piR.hi pb v ia.fit.lo ia.fit.hi big_fit.1.lo big_fit.1.hi hC
  rw [step_fit _ (by rw [ia.fit.iv, big_fit.1.iv]; rfl)] at k
  exact told_put k (value_fit ia).e rfl rfl
theorem rsqr_fit (ic : In c unI) (pb : Nat) (v : World) (hC : Has1 v (pb, #[.int .i64 0])) :
    Calls Tryz.prog 25 #[.pointer (some ⟨pb, 0, none⟩), .agg #[.float .f64 c.lo, .float .f64 c.hi]] v fun r w' => r = .returned (.agg #[.float .f64 (sqrR c).lo, .float .f64 (sqrR c).hi]) ∧ Put ⟨pb, 0, none⟩ (.int .i64 0) v w' := by
  have k := rSqr_any 0 c.lo c.hi pb v ic.fit.lo ic.fit.hi hC
  rw [step_fit _ ic.fit.iv] at k
  exact told_put k (sqr_fit1 ic).e rfl rfl
theorem rnum_one (pb : Nat) (v : World) (hC : Has1 v (pb, #[.int .i64 0])) :
    Calls Tryz.prog 24 #[.pointer (some ⟨pb, 0, none⟩), .float .f64 4607182418800017408] v fun r w' => r = .returned (.agg #[.float .f64 4607182418800017408, .float .f64 4607182418800017408]) ∧ Put ⟨pb, 0, none⟩ (.int .i64 0) v w' := by
  have k := rNum_any 0 4607182418800017408 pb v (by decide) hC
  rw [step_fit _ rfl] at k
  exact told_put k (by decide +kernel) (by decide +kernel) (by decide +kernel)
theorem rsub_fit (ic : In c unI) (pb : Nat) (v : World) (hC : Has1 v (pb, #[.int .i64 0])) :
    Calls Tryz.prog 23 #[.pointer (some ⟨pb, 0, none⟩), .agg #[.float .f64 4607182418800017408, .float .f64 4607182418800017408], .agg #[.float .f64 (sqrR c).lo, .float .f64 (sqrR c).hi]] v fun r w' => r = .returned (.agg #[.float .f64 (subR (oneR u1) (sqrR c)).lo, .float .f64 (subR (oneR u1) (sqrR c)).hi]) ∧ Put ⟨pb, 0, none⟩ (.int .i64 0) v w' := by
  have f := sqr_fit1 ic
  have k := rSub_any 0 (oneR u1).lo (oneR u1).hi (sqrR c).lo (sqrR c).hi pb v u1_fit.lo u1_fit.hi f.lo f.hi hC
  rw [step_fit _ (by rw [u1_fit.iv, f.iv]; rfl)] at k
  exact told_put k (left_fit ic).e rfl rfl
theorem rmul_fit (ia : In a unI) (ic : In c unI) (pb : Nat) (v : World) (hC : Has1 v (pb, #[.int .i64 0])) :
    Calls Tryz.prog 26 #[.pointer (some ⟨pb, 0, none⟩), .agg #[.float .f64 a.lo, .float .f64 a.hi], .agg #[.float .f64 (subR (oneR u1) (sqrR c)).lo, .float .f64 (subR (oneR u1) (sqrR c)).hi]] v fun r w' => r = .returned (.agg #[.float .f64 (capR a c).lo, .float .f64 (capR a c).hi]) ∧ Put ⟨pb, 0, none⟩ (.int .i64 0) v w' := by
  have f := left_fit ic
  have k := rMul_any 0 a.lo a.hi (subR (oneR u1) (sqrR c)).lo (subR (oneR u1) (sqrR c)).hi pb v ia.fit.lo ia.fit.hi f.lo f.hi hC
  rw [step_fit _ (by rw [ia.fit.iv, f.iv]; rfl)] at k
  exact told_put k (cap_fit ia ic).e rfl rfl
theorem rright_fit (f : Fit a) (w : World) : Calls Tryz.prog 13 #[.agg #[.float .f64 a.lo, .float .f64 a.hi]] w fun r w' => r = .returned (.bool true) ∧ Below w.heap.size w w' := by
  have k := rRight_any a.lo a.hi w f.lo f.hi
  rw [f.iv] at k
  exact k
theorem rwithin_is (f : Fit a) (b : Bool) (hb : okB 0 4607182418800017408 a.lo a.hi = b) (w : World) : Calls Tryz.prog 14 #[.agg #[.float .f64 a.lo, .float .f64 a.hi], .float .f64 0, .float .f64 4607182418800017408] w fun r w' => r = .returned (.bool b) ∧ Below w.heap.size w w' := by
  have k := within6_any a.lo a.hi 0 4607182418800017408 w f.lo f.hi f.rlo f.rhi (by decide) (by decide) (by decide) (by decide)
  rw [hb] at k
  exact k
end
theorem un_ok {l h : Nat} (ll : l < 18446744073709551616) (lh : h < 18446744073709551616) (r : ivR l h = true) (k : okB 0 4607182418800017408 l h = true) : In ⟨0, l, h⟩ unI := by
  unfold okB at k
  rw [Bool.and_eq_true] at k
  exact ⟨⟨rfl, ll, lh, r⟩, of_decide_eq_true k.1, of_decide_eq_true k.2⟩
/-- Whether a program's test fails, by the words. -/
theorem bad_ends {l h : Nat} (ll : l < 18446744073709551616) (lh : h < 18446744073709551616) (r : ivR l h = true) :
    ((FloatKind.f64.format.order l 0 == some Ordering.lt) || (FloatKind.f64.format.order h 4607182418800017408 == some Ordering.gt)) = !okB 0 4607182418800017408 l h := by
  obtain ⟨r1, r2, _⟩ := ivR_parts r
  rw [order_lt l 0 ll (by decide) r1 (by decide), order_gt h 4607182418800017408 lh (by decide) r2 (by decide)]
  unfold okB
  by_cases g1 : val 0 ≤ val l
  · by_cases g2 : val h ≤ val 4607182418800017408
    · rw [decide_eq_true g1, decide_eq_true g2, decide_eq_false (by omega), decide_eq_false (by omega)]; rfl
    · rw [decide_eq_true g1, decide_eq_false g2, decide_eq_false (by omega : ¬ val l < val 0), decide_eq_true (by omega : val 4607182418800017408 < val h)]; rfl
  · rw [decide_eq_false g1, decide_eq_true (by omega : val l < val 0)]; rfl
theorem eq_nil : Op.floatEq .f64 0 0 = true := by decide +kernel
theorem eq_fit {a : Res} (f : Fit a) : Op.floatEq .f64 a.lo a.lo = true ∧ Op.floatEq .f64 a.hi a.hi = true :=
  ⟨(order_eq _ _ f.lo f.lo f.rlo f.rlo).trans (decide_eq_true rfl), (order_eq _ _ f.hi f.hi f.rhi f.rhi).trans (decide_eq_true rfl)⟩

/-- What both tell of any words. -/
theorem value_words (l h : Nat) (ll : l < 18446744073709551616) (lh : h < 18446744073709551616) :
    ∃ (e : Int) (x y : Nat), Op.floatEq .f64 x x = true ∧ Op.floatEq .f64 y y = true ∧
      (∀ w, Calls Tryz.prog 5 #[.agg #[.float .f64 l, .float .f64 h]] w fun r w' => r = .returned (.tuple #[.agg #[.float .f64 x, .float .f64 y], .int .i64 e]) ∧ Below w.heap.size w w') ∧
      (∀ w, Calls Tryz.prog 7 #[.agg #[.float .f64 l, .float .f64 h]] w fun r w' => r = .returned (.tuple #[.agg #[.float .f64 x, .float .f64 y], .int .i64 e]) ∧ Below w.heap.size w w') ∧
      (∀ w, Calls Tryz.prog 6 #[.agg #[.float .f64 l, .float .f64 h]] w fun r w' => r = .returned (.tuple #[.agg #[.float .f64 x, .float .f64 y], .int .i64 e]) ∧ Below w.heap.size w w') := by
  have cR := fun w => ivRight_any l h w ll lh
  have rR := fun w => rRight_any l h w ll lh
  cases r : ivR l h
  · simp only [r] at cR rR
    have o := over_bad l h false _ _ 20 rfl rfl cR rfl rfl
    exact ⟨20, 0, 0, eq_nil, eq_nil, fun w => value_walk _ _ _ _ _ w (Lib.hid o), fun w => density_walk _ _ _ _ _ w (Lib.hid o), fun w => refValue_iv w (c1 := Lib.hid rR)⟩
  · simp only [r] at cR rR
    have f : Fit ⟨0, l, h⟩ := ⟨rfl, ll, lh, r⟩
    cases k : okB 0 4607182418800017408 l h
    · have b := bad_ends ll lh r
      rw [k] at b
      have o := over_bad l h true _ _ 2 (by rw [b]; rfl) rfl cR rfl rfl
      exact ⟨2, 0, 0, eq_nil, eq_nil, fun w => value_walk _ _ _ _ _ w (Lib.hid o), fun w => density_walk _ _ _ _ _ w (Lib.hid o), fun w => refValue_arg w (c1 := Lib.hid rR) (c2 := Lib.hid fun w => rwithin_is f false k w)⟩
    · have i := un_ok ll lh r k
      obtain ⟨e1, e2⟩ := eq_fit (value_fit i)
      exact ⟨0, _, _, e1, e2, fun w => value_any i w, fun w => density_any i w, fun w => refValue_ok w (c1 := Lib.hid rR) (c2 := Lib.hid fun w => rwithin_is f true k w) (c3 := Lib.hid fun w => rPi_any w) (d4 := Lib.hid fun pb v hC => rdiv_fit i pb v hC)⟩

theorem cap_bad (al ah cl ch : Nat) (R S p g p' g' : Bool) (e : Int) (he : (if (R && S) = true then (if (p || g || p' || g') = true then (2 : Int) else 0) else 20) = e) (hne : (e != 0) = true)
    (cR : ∀ w, Calls Tryz.prog 66 #[.agg #[.float .f64 al, .float .f64 ah]] w fun r w' => r = .returned (.bool R) ∧ Below w.heap.size w w')
    (cS : ∀ w, Calls Tryz.prog 66 #[.agg #[.float .f64 cl, .float .f64 ch]] w fun r w' => r = .returned (.bool S) ∧ Below w.heap.size w w')
    (o : (FloatKind.f64.format.order al 0 == some Ordering.lt) = p) (u : (FloatKind.f64.format.order ah 4607182418800017408 == some Ordering.gt) = g)
    (o' : (FloatKind.f64.format.order cl 0 == some Ordering.lt) = p') (u' : (FloatKind.f64.format.order ch 4607182418800017408 == some Ordering.gt) = g') (w : World) :
    Calls Tryz.prog 8 #[.agg #[.float .f64 al, .float .f64 ah], .agg #[.float .f64 cl, .float .f64 ch]] w fun r w' => r = .returned (.tuple #[.agg #[.float .f64 0, .float .f64 0], .int .i64 e]) ∧ Below w.heap.size w w' := by
  subst he
  exact cap_walk al ah cl ch 0 0 _ w (Lib.hid fun p₁ q₁ s v _ _ hs => computed_cap_bad _ hne p₁ q₁ s v (Lib.hid fun t hb => lcheck2_walk s al ah cl ch R S _ _ _ _ t (hs.below hb) (Lib.hid cR) (Lib.hid cS) o u o' u'))

theorem cap_words (l h m n : Nat) (ll : l < 18446744073709551616) (lh : h < 18446744073709551616) (lm : m < 18446744073709551616) (ln : n < 18446744073709551616) :
    ∃ (e : Int) (x y : Nat), Op.floatEq .f64 x x = true ∧ Op.floatEq .f64 y y = true ∧
      (∀ w, Calls Tryz.prog 8 #[.agg #[.float .f64 l, .float .f64 h], .agg #[.float .f64 m, .float .f64 n]] w fun r w' => r = .returned (.tuple #[.agg #[.float .f64 x, .float .f64 y], .int .i64 e]) ∧ Below w.heap.size w w') ∧
      (∀ w, Calls Tryz.prog 9 #[.agg #[.float .f64 l, .float .f64 h], .agg #[.float .f64 m, .float .f64 n]] w fun r w' => r = .returned (.tuple #[.agg #[.float .f64 x, .float .f64 y], .int .i64 e]) ∧ Below w.heap.size w w') := by
  have cR := fun w => ivRight_any l h w ll lh
  have rR := fun w => rRight_any l h w ll lh
  have cS := fun w => ivRight_any m n w lm ln
  have rS := fun w => rRight_any m n w lm ln
  cases r : ivR l h
  · simp only [r] at cR rR
    exact ⟨20, 0, 0, eq_nil, eq_nil, cap_bad l h m n false _ _ _ _ _ 20 rfl rfl cR cS rfl rfl rfl rfl, fun w => refCap_iv1 w (c1 := Lib.hid rR)⟩
  · simp only [r] at cR rR
    cases s : ivR m n
    · simp only [s] at cS rS
      exact ⟨20, 0, 0, eq_nil, eq_nil, cap_bad l h m n true false _ _ _ _ 20 rfl rfl cR cS rfl rfl rfl rfl, fun w => refCap_iv2 w (c1 := Lib.hid rR) (c2 := Lib.hid rS)⟩
    · simp only [s] at cS rS
      have f : Fit ⟨0, l, h⟩ := ⟨rfl, ll, lh, r⟩
      have g : Fit ⟨0, m, n⟩ := ⟨rfl, lm, ln, s⟩
      have b := bad_ends ll lh r
      have b' := bad_ends lm ln s
      cases k : okB 0 4607182418800017408 l h
      · rw [k] at b
        exact ⟨2, 0, 0, eq_nil, eq_nil, cap_bad l h m n true true _ _ _ _ 2 (by rw [b]; rfl) rfl cR cS rfl rfl rfl rfl, fun w => refCap_arg1 w (c1 := Lib.hid rR) (c2 := Lib.hid rS) (c3 := Lib.hid fun w => rwithin_is f false k w)⟩
      · have i := un_ok ll lh r k
        cases t : okB 0 4607182418800017408 m n
        · rw [t] at b'
          exact ⟨2, 0, 0, eq_nil, eq_nil, cap_bad l h m n true true _ _ _ _ 2 (by rw [Bool.or_assoc, b', Bool.not_false, Bool.or_true]; rfl) rfl cR cS rfl rfl rfl rfl, fun w => refCap_arg2 w (c1 := Lib.hid rR) (c2 := Lib.hid rS) (c3 := Lib.hid fun w => rwithin_is f true k w) (c4 := Lib.hid fun w => rwithin_is g false t w)⟩
        · have j := un_ok lm ln s t
          obtain ⟨e1, e2⟩ := eq_fit (cap_fit i j)
          exact ⟨0, _, _, e1, e2, fun w => cap_any i j w, fun w => refCap_ok w (c1 := Lib.hid rR) (c2 := Lib.hid rS) (c3 := Lib.hid fun w => rwithin_is f true k w) (c4 := Lib.hid fun w => rwithin_is g true t w)
            (d5 := Lib.hid fun pb v hC => rnum_one pb v hC) (d6 := Lib.hid fun pb v hC => rsqr_fit j pb v hC) (d7 := Lib.hid fun pb v hC => rsub_fit j pb v hC) (d8 := Lib.hid fun pb v hC => rmul_fit i j pb v hC)⟩

theorem tells7_any (al ah cl ch u0 u1 u2 u3 : Nat) (w : World) (l1 : al < 18446744073709551616) (l2 : ah < 18446744073709551616) (l3 : cl < 18446744073709551616) (l4 : ch < 18446744073709551616) (g0 : u0 < 4294967296) (g1 : u1 < 4294967296) (g2 : u2 < 4294967296) (g3 : u3 < 4294967296) :
    Calls Tryz.prog 3 #[.agg #[.float .f64 al, .float .f64 ah], .agg #[.float .f64 cl, .float .f64 ch], .agg #[.int .u32 u0, .int .u32 u1, .int .u32 u2, .int .u32 u3]] w fun r w' => r = .returned (.bool true) ∧ Below w.heap.size w w' := by
  cases ev : ((u0 : Int) % 2 == 0)
  · obtain ⟨e, x, y, f1, f2, a1, _, a3⟩ := value_words al ah l1 l2
    obtain ⟨e', x', y', f1', f2', _, b2, b3⟩ := value_words cl ch l3 l4
    obtain ⟨e'', x'', y'', f1'', f2'', c1, c2⟩ := cap_words al ah cl ch l1 l2 l3 l4
    exact lambert_tells_odd w (c1 := Lib.hid a1) (c2 := Lib.hid a3) (c3 := Lib.hid b2) (c4 := Lib.hid b3) (c5 := Lib.hid c1) (c6 := Lib.hid c2) (e_xl_xl := f1) (e_xh_xh := f2) (e_yl_yl := f1') (e_yh_yh := f2') (e_zl_zl := f1'') (e_zh_zh := f2'') (c7 := Lib.hid awake7_any) (t := ev)
  · obtain ⟨p, ip, sp⟩ := span_any 0 4607182418800017408 u0 u1 (by decide) (by decide) (by decide) (by decide) (by decide +kernel) (by decide +kernel) (by decide +kernel) g0 g1
    obtain ⟨q, iq, sq⟩ := span_any 0 4607182418800017408 u2 u3 (by decide) (by decide) (by decide) (by decide) (by decide +kernel) (by decide +kernel) (by decide +kernel) g2 g3
    obtain ⟨e, x, y, f1, f2, a1, _, a3⟩ := value_words p.lo p.hi ip.fit.lo ip.fit.hi
    obtain ⟨e', x', y', f1', f2', _, b2, b3⟩ := value_words q.lo q.hi iq.fit.lo iq.fit.hi
    obtain ⟨e'', x'', y'', f1'', f2'', c1, c2⟩ := cap_words p.lo p.hi q.lo q.hi ip.fit.lo ip.fit.hi iq.fit.lo iq.fit.hi
    exact lambert_tells_even w (c1 := Lib.hid sp) (c2 := Lib.hid sq) (c3 := Lib.hid a1) (c4 := Lib.hid a3) (c5 := Lib.hid b2) (c6 := Lib.hid b3) (c7 := Lib.hid c1) (c8 := Lib.hid c2) (e_xl_xl := f1) (e_xh_xh := f2) (e_yl_yl := f1') (e_yh_yh := f2') (e_zl_zl := f1'') (e_zh_zh := f2'') (c9 := Lib.hid awake7_any) (t := ev)

end Go.Proofs.YtoocmocaelcbkaaGreat

namespace Go.Proofs.YtoocmocaelcbkaaGreat
open Go.ChangeShapes Go.WideShapes Go.ChangeAt Go.RowKit Go.Joins Go.Deep

theorem Tryz.cellsU32 : Tryz.prog.cellsOf 25 = 1 := by kernel_rfl
theorem u32_nat {y : Int} (wf : (Lit.int .u32 y).wf = true) : ∃ x : Nat, y = (x : Int) ∧ x < 4294967296 := by
  have h := wf
  simp [Lit.wf] at h
  have e1 : IntKind.u32.min = 0 := by decide
  have e2 : IntKind.u32.max = 4294967295 := by decide
  obtain ⟨x, rfl⟩ := Int.eq_ofNat_of_zero_le (by omega : 0 ≤ y)
  exact ⟨x, rfl, by omega⟩

section
variable {H : Type} {enc : TypeId × Value → H} {P : Program} {w : World} {base : Nat} {spare : Nat → Bool} {held : Bool}
theorem trodAll_five {t t' t'' t3 t4 : TypeId} {args : Array Value} {ds : List (DataW H)} {ps : List MemPlace} (h : DataW.TrodAll enc P w base spare held [t, t', t'', t3, t4] args.toList ds ps) :
    ∃ v v' v'' v3 v4 d d' d'' d3 d4 p p' p'' p3 p4, args = #[v, v', v'', v3, v4] ∧ ds = [d, d', d'', d3, d4] ∧ ps = p ++ p' ++ p'' ++ p3 ++ p4 ∧ DataW.Trod enc P w base spare held t v d p ∧ DataW.Trod enc P w base spare held t' v' d' p' ∧ DataW.Trod enc P w base spare held t'' v'' d'' p'' ∧ DataW.Trod enc P w base spare held t3 v3 d3 p3 ∧ DataW.Trod enc P w base spare held t4 v4 d4 p4 := by
  obtain ⟨v, vs, d, ds', p, q, hargs, rfl, rfl, hd, hrest⟩ := trodAll_cons h
  obtain ⟨v', vs', d', ds'', p', q', rfl, rfl, rfl, hd', hrest'⟩ := trodAll_cons hrest
  obtain ⟨v'', vs'', d'', dsss, p'', q'', rfl, rfl, rfl, hd'', hrest''⟩ := trodAll_cons hrest'
  obtain ⟨v3, vs3, d3, ds3, p3, q3, rfl, rfl, rfl, hd3, hrest3⟩ := trodAll_cons hrest''
  obtain ⟨v4, vs4, d4, ds4, p4, q4, rfl, rfl, rfl, hd4, hrest4⟩ := trodAll_cons hrest3
  obtain ⟨rfl, rfl, rfl⟩ := trodAll_nil hrest4
  exact ⟨v, v', v'', v3, v4, d, d', d'', d3, d4, p, p', p'', p3, p4, by cases args; simp_all, rfl, by simp, hd, hd', hd'', hd3, hd4⟩
theorem trodAll_mk5 {t t' t'' t3 t4 : TypeId} {v v' v'' v3 v4 : Value} {d d' d'' d3 d4 : DataW H} {p p' p'' p3 p4 : List MemPlace} (h : DataW.Trod enc P w base spare held t v d p) (h' : DataW.Trod enc P w base spare held t' v' d' p')
    (h'' : DataW.Trod enc P w base spare held t'' v'' d'' p'') (h3 : DataW.Trod enc P w base spare held t3 v3 d3 p3) (h4 : DataW.Trod enc P w base spare held t4 v4 d4 p4) : DataW.TrodAll enc P w base spare held [t, t', t'', t3, t4] [v, v', v'', v3, v4] [d, d', d'', d3, d4] (p ++ (p' ++ (p'' ++ (p3 ++ p4)))) := ⟨p, p' ++ (p'' ++ (p3 ++ p4)), h, trodAll_mk4 h' h'' h3 h4, rfl⟩
end

theorem arr4 {α : Type} {cs : Array α} (h : cs.size = 4) : ∃ c0 c1 c2 c3, cs = #[c0, c1, c2, c3] := by
  obtain ⟨l⟩ := cs
  match l, h with
  | [c0, c1, c2, c3], _ => exact ⟨c0, c1, c2, c3, rfl⟩
theorem Tryz.cellsN4 : Tryz.prog.cellsOf 26 = 4 := by kernel_rfl
set_option maxRecDepth 100000 in
theorem open_u4 {H : Type} {enc : TypeId × Value → H} {W : World} {base : Nat} {spare : Nat → Bool} {held : Bool} {r : Reach} {b0 : Nat} {v : Value} {d : DataW H} {p : List MemPlace} (hv : Value.okWide Tryz.prog W r b0 26 v) (h : DataW.Trod enc Tryz.prog W base spare held 26 v d p) :
    ∃ x0 x1 x2 x3 : Int, v = .agg #[.int .u32 x0, .int .u32 x1, .int .u32 x2, .int .u32 x3] ∧ d = .agg [.lit (.int .u32 x0), .lit (.int .u32 x1), .lit (.int .u32 x2), .lit (.int .u32 x3)] ∧ p = [] ∧ (Lit.int .u32 x0).wf = true ∧ (Lit.int .u32 x1).wf = true ∧ (Lit.int .u32 x2).wf = true ∧ (Lit.int .u32 x3).wf = true := by
  obtain ⟨cs, rfl, hsz, _⟩ : ∃ cs, v = .agg cs ∧ cs.size = Tryz.prog.cellsOf 26 ∧ Row.okWide Tryz.prog W r b0 26 cs := by
    simpa [Value.okWide, Tryz.underlying26] using hv
  obtain ⟨c0, c1, c2, c3, rfl⟩ := arr4 (hsz.trans Tryz.cellsN4)
  obtain ⟨fuel, hf⟩ := h
  have hf' : DataW.trod enc Tryz.prog W base spare held fuel 26 [c0, c1, c2, c3] = some (d, p) := hf
  obtain ⟨xs, m, rfl, hx, _, hl, hel⟩ := DataW.trod_array Tryz.underlying26 hf'
  match xs, hl with
  | [y0, y1, y2, y3], _ =>
    have g0 := hel 0 (by decide)
    have g1 := hel 1 (by decide)
    have g2 := hel 2 (by decide)
    have g3 := hel 3 (by decide)
    rw [Tryz.cellsU32] at g0 g1 g2 g3
    obtain ⟨x0, e0, rfl, w0⟩ := DataW.trod_int Tryz.underlying25 g0
    obtain ⟨x1, e1, rfl, w1⟩ := DataW.trod_int Tryz.underlying25 g1
    obtain ⟨x2, e2, rfl, w2⟩ := DataW.trod_int Tryz.underlying25 g2
    obtain ⟨x3, e3, rfl, w3⟩ := DataW.trod_int Tryz.underlying25 g3
    simp at e0 e1 e2 e3
    subst e0 e1 e2 e3
    simp only [Prod.mk.injEq] at hx
    exact ⟨x0, x1, x2, x3, rfl, hx.1, hx.2, w0, w1, w2, w3⟩

set_option maxRecDepth 100000 in
theorem shut_u4 {H : Type} {enc : TypeId × Value → H} {W : World} {base : Nat} {spare : Nat → Bool} {held : Bool} {x0 x1 x2 x3 : Int} (w0 : (Lit.int .u32 x0).wf = true) (w1 : (Lit.int .u32 x1).wf = true) (w2 : (Lit.int .u32 x2).wf = true) (w3 : (Lit.int .u32 x3).wf = true) :
    DataW.Trod enc Tryz.prog W base spare held 26 (.agg #[.int .u32 x0, .int .u32 x1, .int .u32 x2, .int .u32 x3]) (.agg [.lit (.int .u32 x0), .lit (.int .u32 x1), .lit (.int .u32 x2), .lit (.int .u32 x3)]) [] :=
  ⟨2, by simp [DataW.trod, Value.cells, Tryz.underlying26, Tryz.underlying25, Tryz.cellsN4, Tryz.cellsU32, w0, w1, w2, w3, show List.range 4 = [0, 1, 2, 3] from rfl]⟩

end Go.Proofs.YtoocmocaelcbkaaGreat
