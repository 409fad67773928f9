
/- TrigExact holds for every interval of any ends: the law answers true, and its argument reads as before. No conditions. -/
import Derived.Test.YtpgbcdplicodmaaTrigNV
import Derived.Deep.CutRange
import Derived.Test.YtpgbcdplicodmaaBase
import Derived.ProofKit
import Derived.Lib.SmallJoins
import Derived.Laws.Cover2
import Derived.Carry
namespace Go.Proofs.Ytpgbcdplicodmaa
open Go.RowKit
attribute [local go_sem] run_store_float

/-- A number whose sine and cosine are just these. -/
def exB (x s c : Nat) : Bool := fineB x x && decide ((sinU x x).lo = s) && decide ((sinU x x).hi = s) && decide ((cosU x x).lo = c) && decide ((cosU x x).hi = c)
theorem ex_all : (exB 0 0 u1 && exB 4598175219545276416 u1 0 && exB 4602678819172646912 0 m1 && exB 4604930618986332160 m1 0 && exB u1 0 u1) = true := by decide +kernel

set_option maxRecDepth 100000 in
set_option maxHeartbeats 2000000 in
theorem exact_walk (x s c : Nat) (w : World) (cS : Hid (∀ w, Calls Try.prog 41 #[.agg #[.float .f64 x, .float .f64 x]] w fun r w' => r = .returned (.tuple #[.agg #[.float .f64 s, .float .f64 s], .agg #[.float .f64 c, .float .f64 c], .int .i64 0]) ∧ Below w.heap.size w w')) :
    Calls Try.prog 58 #[.float .f64 x, .float .f64 s, .float .f64 c] w fun r w' => r = .returned (.bool true) ∧ Below w.heap.size w w' := by
  go_enter Try.func58, Try.ntmps58
  go_wp2_with fail
  refine (iv4_any _ _ _).mono ?_
  rintro r w1 ⟨rfl, hb⟩
  have M0 := Lib.hid ((Mem.nil w).below hb)
  clear hb
  go_wp2_with fail
  refine (cS.out _).mono ?_
  rintro r w2 ⟨rfl, hb⟩
  have M : Hid (Mem w [(w2.heap.size + 1, #[.float .f64 c, .float .f64 c]), (w2.heap.size, #[.float .f64 s, .float .f64 s])] ((w2.alloc (.cells #[.float .f64 s, .float .f64 s] 39)).alloc (.cells #[.float .f64 c, .float .f64 c] 39))) := by
    have h := ((M0.out.below hb).made #[.float .f64 s, .float .f64 s] 39).made #[.float .f64 c, .float .f64 c] 39
    simp only [World.size_alloc] at h
    exact Lib.hid h
  clear hb M0
  go_upto_region 2 with fail
  obtain ⟨k1, k2⟩ := (M.out.blocks (w2.heap.size, #[.float .f64 s, .float .f64 s]) (by simp)).two
  obtain ⟨k3, k4⟩ := (M.out.blocks (w2.heap.size + 1, #[.float .f64 c, .float .f64 c]) (by simp)).two
  go_region_held3 (fun w' => w'.cell? ⟨w2.heap.size, 0, none⟩ = some (.float .f64 s) ∧ w'.cell? ⟨w2.heap.size, 1, none⟩ = some (.float .f64 s) ∧ w'.cell? ⟨w2.heap.size + 1, 0, none⟩ = some (.float .f64 c) ∧ w'.cell? ⟨w2.heap.size + 1, 1, none⟩ = some (.float .f64 c)) (((try dsimp only); (repeat' apply And.intro); all_goals (repeat (first | (with_reducible assumption) | ((with_reducible refine keep_undrew ?_); (with_reducible assumption)) | (with_reducible refine keep_drew ?_) | (with_reducible refine keep_alloc _ ?_) | (with_reducible refine keep_set _ (by first | (with_reducible assumption) | omega) ?_)))))
    (first
      | (go_at_call 47; (with_reducible refine (iv4_any _ _ _).mono ?_); rintro rr w7 ⟨rfl, hb⟩; (with_reducible have M' := Lib.hid ((M.out).below hb)); clear M hb k1 k2 k3 k4; have M := M'; clear M'; obtain ⟨k1, k2⟩ := (M.out.blocks (w2.heap.size, #[.float .f64 s, .float .f64 s]) (by simp)).two; obtain ⟨k3, k4⟩ := (M.out.blocks (w2.heap.size + 1, #[.float .f64 c, .float .f64 c]) (by simp)).two)
      | (go_at_call 47; (with_reducible refine (iv4_any _ _ _).mono ?_); rintro rr w7 ⟨rfl, hb⟩; (with_reducible have M' := Lib.hid ((M.out.drew).below hb)); clear M hb k1 k2 k3 k4; have M := M'; clear M'; obtain ⟨k1, k2⟩ := (M.out.blocks (w2.heap.size, #[.float .f64 s, .float .f64 s]) (by simp)).two; obtain ⟨k3, k4⟩ := (M.out.blocks (w2.heap.size + 1, #[.float .f64 c, .float .f64 c]) (by simp)).two)
      | (go_at_call 38; (with_reducible refine (l_same _ _ _).mono ?_); rintro rr w7 ⟨rfl, hb⟩; (with_reducible have M' := Lib.hid ((M.out).below hb)); clear M hb k1 k2 k3 k4; have M := M'; clear M'; obtain ⟨k1, k2⟩ := (M.out.blocks (w2.heap.size, #[.float .f64 s, .float .f64 s]) (by simp)).two; obtain ⟨k3, k4⟩ := (M.out.blocks (w2.heap.size + 1, #[.float .f64 c, .float .f64 c]) (by simp)).two)
      | (go_at_call 38; (with_reducible refine (l_same _ _ _).mono ?_); rintro rr w7 ⟨rfl, hb⟩; (with_reducible have M' := Lib.hid ((M.out.drew).below hb)); clear M hb k1 k2 k3 k4; have M := M'; clear M'; obtain ⟨k1, k2⟩ := (M.out.blocks (w2.heap.size, #[.float .f64 s, .float .f64 s]) (by simp)).two; obtain ⟨k3, k4⟩ := (M.out.blocks (w2.heap.size + 1, #[.float .f64 c, .float .f64 c]) (by simp)).two))
  go_wp2
  go_ret
  exact ⟨rfl, M.out.base⟩

theorem exact_any {x s c : Nat} (lx : x < 18446744073709551616) (h : exB x s c = true) (w : World) : Calls Try.prog 58 #[.float .f64 x, .float .f64 s, .float .f64 c] w fun r w' => r = .returned (.bool true) ∧ Below w.heap.size w w' := by
  unfold exB at h
  simp only [Bool.and_eq_true, decide_eq_true_eq] at h
  obtain ⟨⟨⟨⟨h0, h1⟩, h2⟩, h3⟩, h4⟩ := h
  have cS := fun w => sin_any x x w lx lx h0
  rw [h1, h2, h3, h4] at cS
  exact exact_walk x s c w (Lib.hid cS)

theorem ex_parts : exB 0 0 4607182418800017408 = true ∧ exB 4598175219545276416 4607182418800017408 0 = true ∧ exB 4602678819172646912 0 13830554455654793216 = true ∧ exB 4604930618986332160 13830554455654793216 0 = true ∧ exB 4607182418800017408 0 4607182418800017408 = true := by
  have h := ex_all
  simp only [Bool.and_eq_true] at h
  exact ⟨h.1.1.1.1, h.1.1.1.2, h.1.1.2, h.1.2, h.2⟩
theorem exact_0 (w : World) : Calls Try.prog 58 #[.float .f64 0, .float .f64 0, .float .f64 4607182418800017408] w fun r w' => r = .returned (.bool true) ∧ Below w.heap.size w w' := exact_any (x := 0) (s := 0) (c := 4607182418800017408) (by decide) ex_parts.1 w
theorem exact_1 (w : World) : Calls Try.prog 58 #[.float .f64 4598175219545276416, .float .f64 4607182418800017408, .float .f64 0] w fun r w' => r = .returned (.bool true) ∧ Below w.heap.size w w' := exact_any (x := 4598175219545276416) (s := 4607182418800017408) (c := 0) (by decide) ex_parts.2.1 w
theorem exact_2 (w : World) : Calls Try.prog 58 #[.float .f64 4602678819172646912, .float .f64 0, .float .f64 13830554455654793216] w fun r w' => r = .returned (.bool true) ∧ Below w.heap.size w w' := exact_any (x := 4602678819172646912) (s := 0) (c := 13830554455654793216) (by decide) ex_parts.2.2.1 w
theorem exact_3 (w : World) : Calls Try.prog 58 #[.float .f64 4604930618986332160, .float .f64 13830554455654793216, .float .f64 0] w fun r w' => r = .returned (.bool true) ∧ Below w.heap.size w w' := exact_any (x := 4604930618986332160) (s := 13830554455654793216) (c := 0) (by decide) ex_parts.2.2.2.1 w
theorem exact_4 (w : World) : Calls Try.prog 58 #[.float .f64 4607182418800017408, .float .f64 0, .float .f64 4607182418800017408] w fun r w' => r = .returned (.bool true) ∧ Below w.heap.size w w' := exact_any (x := 4607182418800017408) (s := 0) (c := 4607182418800017408) (by decide) ex_parts.2.2.2.2 w

theorem aw_vals : (fineB 0 4607182418800017408 && decide ((sinU 0 4607182418800017408).lo = 13830554455654793216) && decide ((sinU 0 4607182418800017408).hi = 4607182418800017408) && decide ((cosU 0 4607182418800017408).lo = 13830554455654793216) && decide ((cosU 0 4607182418800017408).hi = 4607182418800017408)) = true := by decide +kernel
theorem aw_vals2 : (fineB 4591870180066957722 4599075939470750515 && decide ((sinU 4591870180066957722 4599075939470750515).lo = 4603469518431672925) && decide ((sinU 4591870180066957722 4599075939470750515).hi = 4607182418800017408) && decide ((cosU 4591870180066957722 4599075939470750515).lo = 13822610412055554384) && decide ((cosU 4591870180066957722 4599075939470750515).hi = 4605462196814083241)) = true := by decide +kernel
theorem aw_sin1 (w : World) : Calls Try.prog 41 #[.agg #[.float .f64 0, .float .f64 4607182418800017408]] w fun r w' => r = .returned (.tuple #[.agg #[.float .f64 13830554455654793216, .float .f64 4607182418800017408], .agg #[.float .f64 13830554455654793216, .float .f64 4607182418800017408], .int .i64 0]) ∧ Below w.heap.size w w' := by
  have h := aw_vals
  simp only [Bool.and_eq_true, decide_eq_true_eq] at h
  obtain ⟨⟨⟨⟨h0, h1⟩, h2⟩, h3⟩, h4⟩ := h
  have c := sin_any 0 4607182418800017408 w (by decide) (by decide) h0
  rw [h1, h2, h3, h4] at c
  exact c
theorem aw_sin2 (w : World) : Calls Try.prog 41 #[.agg #[.float .f64 4591870180066957722, .float .f64 4599075939470750515]] w fun r w' => r = .returned (.tuple #[.agg #[.float .f64 4603469518431672925, .float .f64 4607182418800017408], .agg #[.float .f64 13822610412055554384, .float .f64 4605462196814083241], .int .i64 0]) ∧ Below w.heap.size w w' := by
  have h := aw_vals2
  simp only [Bool.and_eq_true, decide_eq_true_eq] at h
  obtain ⟨⟨⟨⟨h0, h1⟩, h2⟩, h3⟩, h4⟩ := h
  have c := sin_any 4591870180066957722 4599075939470750515 w (by decide) (by decide) h0
  rw [h1, h2, h3, h4] at c
  exact c
theorem aw_sin3 (w : World) : Calls Try.prog 41 #[.agg #[.float .f64 4602678819172646912, .float .f64 4609434218613702656]] w fun r w' => r = .returned (.tuple #[.agg #[.float .f64 0, .float .f64 0], .agg #[.float .f64 0, .float .f64 0], .int .i64 2]) ∧ Below w.heap.size w w' :=
  sin_bad _ _ w (by decide) (by decide) (by decide +kernel)

set_option maxRecDepth 100000 in
set_option maxHeartbeats 8000000 in
theorem awake4_any (w : World) : Calls Try.prog 43 #[] w fun r w' => r = .returned (.bool true) ∧ Below w.heap.size w w' := by
  have o1 : (FloatKind.f64.format.order 4607182418800017408 4607182418800017408 == some Ordering.eq) = true := by decide +kernel
  have o2 : (FloatKind.f64.format.order 4603469518431672925 4603399395113026191 == some Ordering.gt) = true := by decide +kernel
  have o3 : (FloatKind.f64.format.order 13822610412055554384 0 == some Ordering.lt) = true := by decide +kernel
  have o4 : (FloatKind.f64.format.order 4605462196814083241 0 == some Ordering.gt) = true := by decide +kernel
  go_enter Try.func43, Try.ntmps43
  go_wp2_with fail
  refine (iv4_any _ _ _).mono ?_
  rintro r w1 ⟨rfl, hb⟩
  have M := Lib.hid ((Mem.nil w).below hb)
  clear hb
  go_wp2_with fail
  refine (aw_sin1 _).mono ?_
  rintro r w2 ⟨rfl, hb⟩
  replace M : Hid (Mem w [(w2.heap.size + 1, #[.float .f64 13830554455654793216, .float .f64 4607182418800017408]), (w2.heap.size, #[.float .f64 13830554455654793216, .float .f64 4607182418800017408])] ((w2.alloc (.cells #[.float .f64 13830554455654793216, .float .f64 4607182418800017408] 39)).alloc (.cells #[.float .f64 13830554455654793216, .float .f64 4607182418800017408] 39))) := by
    have h := ((M.out.below hb).made #[.float .f64 13830554455654793216, .float .f64 4607182418800017408] 39).made #[.float .f64 13830554455654793216, .float .f64 4607182418800017408] 39
    simp only [World.size_alloc] at h
    exact Lib.hid h
  clear hb
  go_wp2_with fail
  refine (iv4_any _ _ _).mono ?_
  rintro r w3 ⟨rfl, hb⟩
  replace M := Lib.hid (M.out.below hb)
  clear hb
  go_wp2_with fail
  refine (aw_sin2 _).mono ?_
  rintro r w4 ⟨rfl, hb⟩
  replace M : Hid (Mem w [(w4.heap.size + 1, #[.float .f64 13822610412055554384, .float .f64 4605462196814083241]), (w4.heap.size, #[.float .f64 4603469518431672925, .float .f64 4607182418800017408]), (w2.heap.size + 1, #[.float .f64 13830554455654793216, .float .f64 4607182418800017408]), (w2.heap.size, #[.float .f64 13830554455654793216, .float .f64 4607182418800017408])] ((w4.alloc (.cells #[.float .f64 4603469518431672925, .float .f64 4607182418800017408] 39)).alloc (.cells #[.float .f64 13822610412055554384, .float .f64 4605462196814083241] 39))) := by
    have h := ((M.out.below hb).made #[.float .f64 4603469518431672925, .float .f64 4607182418800017408] 39).made #[.float .f64 13822610412055554384, .float .f64 4605462196814083241] 39
    simp only [World.size_alloc] at h
    exact Lib.hid h
  clear hb
  go_wp2_with fail
  refine (iv4_any _ _ _).mono ?_
  rintro r w5 ⟨rfl, hb⟩
  replace M := Lib.hid (M.out.below hb)
  clear hb
  go_wp2_with fail
  refine (aw_sin3 _).mono ?_
  rintro r w6 ⟨rfl, hb⟩
  replace M : Hid (Mem w [(w4.heap.size + 1, #[.float .f64 13822610412055554384, .float .f64 4605462196814083241]), (w4.heap.size, #[.float .f64 4603469518431672925, .float .f64 4607182418800017408]), (w2.heap.size + 1, #[.float .f64 13830554455654793216, .float .f64 4607182418800017408]), (w2.heap.size, #[.float .f64 13830554455654793216, .float .f64 4607182418800017408])] ((w6.alloc (.cells #[.float .f64 0, .float .f64 0] 39)).alloc (.cells #[.float .f64 0, .float .f64 0] 39))) := Lib.hid ((((M.out.below hb).made #[.float .f64 0, .float .f64 0] 39).made #[.float .f64 0, .float .f64 0] 39).sub (by simp))
  clear hb
  go_upto_region 4 with fail
  obtain ⟨k1, k2⟩ := (M.out.blocks (w2.heap.size, #[.float .f64 13830554455654793216, .float .f64 4607182418800017408]) (by simp)).two
  obtain ⟨k3, k4⟩ := (M.out.blocks (w2.heap.size + 1, #[.float .f64 13830554455654793216, .float .f64 4607182418800017408]) (by simp)).two
  obtain ⟨k5, k6⟩ := (M.out.blocks (w4.heap.size, #[.float .f64 4603469518431672925, .float .f64 4607182418800017408]) (by simp)).two
  obtain ⟨k7, k8⟩ := (M.out.blocks (w4.heap.size + 1, #[.float .f64 13822610412055554384, .float .f64 4605462196814083241]) (by simp)).two
  go_region_held3 (fun w' => w'.cell? ⟨w2.heap.size, 0, none⟩ = some (.float .f64 13830554455654793216) ∧ w'.cell? ⟨w2.heap.size, 1, none⟩ = some (.float .f64 4607182418800017408) ∧ w'.cell? ⟨w2.heap.size + 1, 0, none⟩ = some (.float .f64 13830554455654793216) ∧ w'.cell? ⟨w2.heap.size + 1, 1, none⟩ = some (.float .f64 4607182418800017408) ∧ w'.cell? ⟨w4.heap.size, 0, none⟩ = some (.float .f64 4603469518431672925) ∧ w'.cell? ⟨w4.heap.size, 1, none⟩ = some (.float .f64 4607182418800017408) ∧ w'.cell? ⟨w4.heap.size + 1, 0, none⟩ = some (.float .f64 13822610412055554384) ∧ w'.cell? ⟨w4.heap.size + 1, 1, none⟩ = some (.float .f64 4605462196814083241)) (((try dsimp only); (repeat' apply And.intro); all_goals (repeat (first | (with_reducible assumption) | ((with_reducible refine keep_undrew ?_); (with_reducible assumption)) | (with_reducible refine keep_drew ?_) | (with_reducible refine keep_alloc _ ?_) | (with_reducible refine keep_set _ (by first | (with_reducible assumption) | omega) ?_)))))
    (first
      | (go_at_call 58; (with_reducible refine (exact_0 _).mono ?_); rintro rr w7 ⟨rfl, hb⟩; (with_reducible have M' := Lib.hid ((M.out).below hb)); clear M hb k1 k2 k3 k4 k5 k6 k7 k8; have M := M'; clear M'; obtain ⟨k1, k2⟩ := (M.out.blocks (w2.heap.size, #[.float .f64 13830554455654793216, .float .f64 4607182418800017408]) (by simp)).two; obtain ⟨k3, k4⟩ := (M.out.blocks (w2.heap.size + 1, #[.float .f64 13830554455654793216, .float .f64 4607182418800017408]) (by simp)).two; obtain ⟨k5, k6⟩ := (M.out.blocks (w4.heap.size, #[.float .f64 4603469518431672925, .float .f64 4607182418800017408]) (by simp)).two; obtain ⟨k7, k8⟩ := (M.out.blocks (w4.heap.size + 1, #[.float .f64 13822610412055554384, .float .f64 4605462196814083241]) (by simp)).two)
      | (go_at_call 58; (with_reducible refine (exact_0 _).mono ?_); rintro rr w7 ⟨rfl, hb⟩; (with_reducible have M' := Lib.hid ((M.out.drew).below hb)); clear M hb k1 k2 k3 k4 k5 k6 k7 k8; have M := M'; clear M'; obtain ⟨k1, k2⟩ := (M.out.blocks (w2.heap.size, #[.float .f64 13830554455654793216, .float .f64 4607182418800017408]) (by simp)).two; obtain ⟨k3, k4⟩ := (M.out.blocks (w2.heap.size + 1, #[.float .f64 13830554455654793216, .float .f64 4607182418800017408]) (by simp)).two; obtain ⟨k5, k6⟩ := (M.out.blocks (w4.heap.size, #[.float .f64 4603469518431672925, .float .f64 4607182418800017408]) (by simp)).two; obtain ⟨k7, k8⟩ := (M.out.blocks (w4.heap.size + 1, #[.float .f64 13822610412055554384, .float .f64 4605462196814083241]) (by simp)).two)
      | (go_at_call 58; (with_reducible refine (exact_1 _).mono ?_); rintro rr w7 ⟨rfl, hb⟩; (with_reducible have M' := Lib.hid ((M.out).below hb)); clear M hb k1 k2 k3 k4 k5 k6 k7 k8; have M := M'; clear M'; obtain ⟨k1, k2⟩ := (M.out.blocks (w2.heap.size, #[.float .f64 13830554455654793216, .float .f64 4607182418800017408]) (by simp)).two; obtain ⟨k3, k4⟩ := (M.out.blocks (w2.heap.size + 1, #[.float .f64 13830554455654793216, .float .f64 4607182418800017408]) (by simp)).two; obtain ⟨k5, k6⟩ := (M.out.blocks (w4.heap.size, #[.float .f64 4603469518431672925, .float .f64 4607182418800017408]) (by simp)).two; obtain ⟨k7, k8⟩ := (M.out.blocks (w4.heap.size + 1, #[.float .f64 13822610412055554384, .float .f64 4605462196814083241]) (by simp)).two)
      | (go_at_call 58; (with_reducible refine (exact_1 _).mono ?_); rintro rr w7 ⟨rfl, hb⟩; (with_reducible have M' := Lib.hid ((M.out.drew).below hb)); clear M hb k1 k2 k3 k4 k5 k6 k7 k8; have M := M'; clear M'; obtain ⟨k1, k2⟩ := (M.out.blocks (w2.heap.size, #[.float .f64 13830554455654793216, .float .f64 4607182418800017408]) (by simp)).two; obtain ⟨k3, k4⟩ := (M.out.blocks (w2.heap.size + 1, #[.float .f64 13830554455654793216, .float .f64 4607182418800017408]) (by simp)).two; obtain ⟨k5, k6⟩ := (M.out.blocks (w4.heap.size, #[.float .f64 4603469518431672925, .float .f64 4607182418800017408]) (by simp)).two; obtain ⟨k7, k8⟩ := (M.out.blocks (w4.heap.size + 1, #[.float .f64 13822610412055554384, .float .f64 4605462196814083241]) (by simp)).two)
      | (go_at_call 47; (with_reducible refine (iv4_any _ _ _).mono ?_); rintro rr w7 ⟨rfl, hb⟩; (with_reducible have M' := Lib.hid ((M.out).below hb)); clear M hb k1 k2 k3 k4 k5 k6 k7 k8; have M := M'; clear M'; obtain ⟨k1, k2⟩ := (M.out.blocks (w2.heap.size, #[.float .f64 13830554455654793216, .float .f64 4607182418800017408]) (by simp)).two; obtain ⟨k3, k4⟩ := (M.out.blocks (w2.heap.size + 1, #[.float .f64 13830554455654793216, .float .f64 4607182418800017408]) (by simp)).two; obtain ⟨k5, k6⟩ := (M.out.blocks (w4.heap.size, #[.float .f64 4603469518431672925, .float .f64 4607182418800017408]) (by simp)).two; obtain ⟨k7, k8⟩ := (M.out.blocks (w4.heap.size + 1, #[.float .f64 13822610412055554384, .float .f64 4605462196814083241]) (by simp)).two)
      | (go_at_call 47; (with_reducible refine (iv4_any _ _ _).mono ?_); rintro rr w7 ⟨rfl, hb⟩; (with_reducible have M' := Lib.hid ((M.out.drew).below hb)); clear M hb k1 k2 k3 k4 k5 k6 k7 k8; have M := M'; clear M'; obtain ⟨k1, k2⟩ := (M.out.blocks (w2.heap.size, #[.float .f64 13830554455654793216, .float .f64 4607182418800017408]) (by simp)).two; obtain ⟨k3, k4⟩ := (M.out.blocks (w2.heap.size + 1, #[.float .f64 13830554455654793216, .float .f64 4607182418800017408]) (by simp)).two; obtain ⟨k5, k6⟩ := (M.out.blocks (w4.heap.size, #[.float .f64 4603469518431672925, .float .f64 4607182418800017408]) (by simp)).two; obtain ⟨k7, k8⟩ := (M.out.blocks (w4.heap.size + 1, #[.float .f64 13822610412055554384, .float .f64 4605462196814083241]) (by simp)).two)
      | (go_at_call 38; (with_reducible refine (l_same _ _ _).mono ?_); rintro rr w7 ⟨rfl, hb⟩; (with_reducible have M' := Lib.hid ((M.out).below hb)); clear M hb k1 k2 k3 k4 k5 k6 k7 k8; have M := M'; clear M'; obtain ⟨k1, k2⟩ := (M.out.blocks (w2.heap.size, #[.float .f64 13830554455654793216, .float .f64 4607182418800017408]) (by simp)).two; obtain ⟨k3, k4⟩ := (M.out.blocks (w2.heap.size + 1, #[.float .f64 13830554455654793216, .float .f64 4607182418800017408]) (by simp)).two; obtain ⟨k5, k6⟩ := (M.out.blocks (w4.heap.size, #[.float .f64 4603469518431672925, .float .f64 4607182418800017408]) (by simp)).two; obtain ⟨k7, k8⟩ := (M.out.blocks (w4.heap.size + 1, #[.float .f64 13822610412055554384, .float .f64 4605462196814083241]) (by simp)).two)
      | (go_at_call 38; (with_reducible refine (l_same _ _ _).mono ?_); rintro rr w7 ⟨rfl, hb⟩; (with_reducible have M' := Lib.hid ((M.out.drew).below hb)); clear M hb k1 k2 k3 k4 k5 k6 k7 k8; have M := M'; clear M'; obtain ⟨k1, k2⟩ := (M.out.blocks (w2.heap.size, #[.float .f64 13830554455654793216, .float .f64 4607182418800017408]) (by simp)).two; obtain ⟨k3, k4⟩ := (M.out.blocks (w2.heap.size + 1, #[.float .f64 13830554455654793216, .float .f64 4607182418800017408]) (by simp)).two; obtain ⟨k5, k6⟩ := (M.out.blocks (w4.heap.size, #[.float .f64 4603469518431672925, .float .f64 4607182418800017408]) (by simp)).two; obtain ⟨k7, k8⟩ := (M.out.blocks (w4.heap.size + 1, #[.float .f64 13822610412055554384, .float .f64 4605462196814083241]) (by simp)).two))
  go_wp2
  go_ret
  exact ⟨rfl, M.out.base⟩

end Go.Proofs.Ytpgbcdplicodmaa

namespace Go.Proofs.Ytpgbcdplicodmaa
open Go.RowKit
attribute [local go_sem] run_store_float

/-- One slot that holds a sign, and what lies in memory. -/
def LawC (w : World) (l : List (Nat × Array Value)) (b : Bool) (p : Value) (wx : World) : Prop := p = .bool b ∧ Mem w l wx

set_option maxRecDepth 100000 in
set_option maxHeartbeats 2000000 in
theorem exactlaw_none (al ah : Nat) (w : World) (cF : Hid (∀ w, Calls Try.prog 42 #[.agg #[.float .f64 al, .float .f64 ah]] w fun r w' => r = .returned (.bool false) ∧ Below w.heap.size w w')) :
    Calls Try.prog 9 #[.agg #[.float .f64 al, .float .f64 ah]] w fun r w' => r = .returned (.bool true) ∧ Below w.heap.size w w' := by
  have M := Lib.hid ((Mem.nil w).made #[.float .f64 al, .float .f64 ah] 39)
  go_enter Try.func9, Try.ntmps9
  go_wp2_with fail
  refine (exact_0 _).mono ?_
  rintro r w1 ⟨rfl, hb⟩
  replace M := Lib.hid (M.out.below hb)
  clear hb
  go_wp2_with fail
  refine (exact_1 _).mono ?_
  rintro r w2 ⟨rfl, hb⟩
  replace M := Lib.hid (M.out.below hb)
  clear hb
  go_wp2_with fail
  refine (exact_2 _).mono ?_
  rintro r w3 ⟨rfl, hb⟩
  replace M := Lib.hid (M.out.below hb)
  clear hb
  go_wp2_with fail
  refine (exact_3 _).mono ?_
  rintro r w4 ⟨rfl, hb⟩
  replace M := Lib.hid (M.out.below hb)
  clear hb
  go_wp2_with fail
  refine (exact_4 _).mono ?_
  rintro r w5 ⟨rfl, hb⟩
  replace M := Lib.hid (M.out.below hb)
  clear hb
  obtain ⟨k1, k2⟩ := (M.out.nth 0 rfl).two
  go_wp2_with fail
  refine (cF.out _).mono ?_
  rintro r w6 ⟨rfl, hb⟩
  replace M := Lib.hid (M.out.below hb)
  clear hb k1 k2
  go_wp2_with fail
  refine (awake4_any _).mono ?_
  rintro r w7 ⟨rfl, hb⟩
  replace M := Lib.hid (M.out.below hb)
  clear hb
  go_wp2
  go_ret
  exact ⟨rfl, M.out.base⟩

set_option maxRecDepth 100000 in
set_option maxHeartbeats 16000000 in
theorem exactlaw_walk (al ah sl sh ol oh pl ph ql qh xl xh yl yh : Nat) (b1 b2 b3 a0 a1 : Bool) (w : World) (cF : Hid (∀ w, Calls Try.prog 42 #[.agg #[.float .f64 al, .float .f64 ah]] w fun r w' => r = .returned (.bool true) ∧ Below w.heap.size w w'))
    (c1 : Hid (∀ w, Calls Try.prog 41 #[.agg #[.float .f64 al, .float .f64 ah]] w fun r w' => r = .returned (.tuple #[.agg #[.float .f64 sl, .float .f64 sh], .agg #[.float .f64 ol, .float .f64 oh], .int .i64 0]) ∧ Below w.heap.size w w')) (c2 : Hid (∀ w, Calls Try.prog 41 #[.agg #[.float .f64 al, .float .f64 al]] w fun r w' => r = .returned (.tuple #[.agg #[.float .f64 pl, .float .f64 ph], .agg #[.float .f64 ql, .float .f64 qh], .int .i64 0]) ∧ Below w.heap.size w w')) (c3 : Hid (∀ w, Calls Try.prog 41 #[.agg #[.float .f64 ah, .float .f64 ah]] w fun r w' => r = .returned (.tuple #[.agg #[.float .f64 xl, .float .f64 xh], .agg #[.float .f64 yl, .float .f64 yh], .int .i64 0]) ∧ Below w.heap.size w w'))
    (cH1 : Hid (CalcHas al ah 4598175219545276416 b1)) (cH2 : Hid (CalcHas al ah 4604930618986332160 b2)) (cH3 : Hid (CalcHas al ah 4602678819172646912 b3))
    (F1 : Hid (b1 = true → (FloatKind.f64.format.order sh 4607182418800017408 != some Ordering.eq) = false)) (F2 : Hid (b2 = true → (FloatKind.f64.format.order sl 13830554455654793216 != some Ordering.eq) = false)) (F3 : Hid (b3 = true → (FloatKind.f64.format.order ol 13830554455654793216 != some Ordering.eq) = false))
    (z0 : (FloatKind.f64.format.order al 0 == some Ordering.eq) = a0) (z1 : (FloatKind.f64.format.order ah 4607182418800017408 == some Ordering.eq) = a1) (F4 : Hid ((a0 || a1) = true → (FloatKind.f64.format.order oh 4607182418800017408 != some Ordering.eq) = false))
    (cU1 : Hid (b1 = false → b2 = false → CalcH pl ph xl xh sl sh)) (cU2 : Hid (b3 = false → CalcH ql qh yl yh ol oh)) :
    Calls Try.prog 9 #[.agg #[.float .f64 al, .float .f64 ah]] w fun r w' => r = .returned (.bool true) ∧ Below w.heap.size w w' := by
  have Z0 := Lib.hid z0
  have Z1 := Lib.hid z1
  clear z0 z1
  have M := Lib.hid ((Mem.nil w).made #[.float .f64 al, .float .f64 ah] 39)
  go_enter Try.func9, Try.ntmps9
  go_wp2_with fail
  refine (exact_0 _).mono ?_
  rintro r w1 ⟨rfl, hb⟩
  replace M := Lib.hid (M.out.below hb)
  clear hb
  go_wp2_with fail
  refine (exact_1 _).mono ?_
  rintro r w2 ⟨rfl, hb⟩
  replace M := Lib.hid (M.out.below hb)
  clear hb
  go_wp2_with fail
  refine (exact_2 _).mono ?_
  rintro r w3 ⟨rfl, hb⟩
  replace M := Lib.hid (M.out.below hb)
  clear hb
  go_wp2_with fail
  refine (exact_3 _).mono ?_
  rintro r w4 ⟨rfl, hb⟩
  replace M := Lib.hid (M.out.below hb)
  clear hb
  go_wp2_with fail
  refine (exact_4 _).mono ?_
  rintro r w5 ⟨rfl, hb⟩
  replace M := Lib.hid (M.out.below hb)
  clear hb
  obtain ⟨k1, k2⟩ := (M.out.nth 0 rfl).two
  go_wp2_with fail
  refine (cF.out _).mono ?_
  rintro r w6 ⟨rfl, hb⟩
  replace M := Lib.hid (M.out.below hb)
  clear hb k1 k2 cF
  obtain ⟨k1, k2⟩ := (M.out.blocks (w.heap.size, #[.float .f64 al, .float .f64 ah]) (by simp)).two
  go_wp2_with fail
  refine (c1.out _).mono ?_
  rintro r w7 ⟨rfl, hb⟩
  replace M : Hid (Mem w [(w7.heap.size + 1, #[.float .f64 ol, .float .f64 oh]), (w7.heap.size, #[.float .f64 sl, .float .f64 sh]), (w.heap.size, #[.float .f64 al, .float .f64 ah])] ((w7.alloc (.cells #[.float .f64 sl, .float .f64 sh] 39)).alloc (.cells #[.float .f64 ol, .float .f64 oh] 39))) := by
    have h := ((M.out.below hb).made #[.float .f64 sl, .float .f64 sh] 39).made #[.float .f64 ol, .float .f64 oh] 39
    simp only [World.size_alloc] at h
    exact Lib.hid h
  clear hb c1 k1 k2
  obtain ⟨k1, k2⟩ := (M.out.blocks (w.heap.size, #[.float .f64 al, .float .f64 ah]) (by simp)).two
  go_wp2_with fail
  refine (iv4_any _ _ _).mono ?_
  rintro r w8 ⟨rfl, hb⟩
  replace M := Lib.hid (M.out.below hb)
  clear hb k1 k2
  go_wp2_with fail
  refine (c2.out _).mono ?_
  rintro r w9 ⟨rfl, hb⟩
  replace M : Hid (Mem w [(w9.heap.size + 1, #[.float .f64 ql, .float .f64 qh]), (w9.heap.size, #[.float .f64 pl, .float .f64 ph]), (w7.heap.size + 1, #[.float .f64 ol, .float .f64 oh]), (w7.heap.size, #[.float .f64 sl, .float .f64 sh]), (w.heap.size, #[.float .f64 al, .float .f64 ah])] ((w9.alloc (.cells #[.float .f64 pl, .float .f64 ph] 39)).alloc (.cells #[.float .f64 ql, .float .f64 qh] 39))) := by
    have h := ((M.out.below hb).made #[.float .f64 pl, .float .f64 ph] 39).made #[.float .f64 ql, .float .f64 qh] 39
    simp only [World.size_alloc] at h
    exact Lib.hid h
  clear hb c2
  obtain ⟨k1, k2⟩ := (M.out.blocks (w.heap.size, #[.float .f64 al, .float .f64 ah]) (by simp)).two
  go_wp2_with fail
  refine (iv4_any _ _ _).mono ?_
  rintro r w10 ⟨rfl, hb⟩
  replace M := Lib.hid (M.out.below hb)
  clear hb k1 k2
  go_wp2_with fail
  refine (c3.out _).mono ?_
  rintro r w11 ⟨rfl, hb⟩
  replace M : Hid (Mem w [(w11.heap.size + 1, #[.float .f64 yl, .float .f64 yh]), (w11.heap.size, #[.float .f64 xl, .float .f64 xh]), (w9.heap.size + 1, #[.float .f64 ql, .float .f64 qh]), (w9.heap.size, #[.float .f64 pl, .float .f64 ph]), (w7.heap.size + 1, #[.float .f64 ol, .float .f64 oh]), (w7.heap.size, #[.float .f64 sl, .float .f64 sh]), (w.heap.size, #[.float .f64 al, .float .f64 ah])] ((w11.alloc (.cells #[.float .f64 xl, .float .f64 xh] 39)).alloc (.cells #[.float .f64 yl, .float .f64 yh] 39))) := by
    have h := ((M.out.below hb).made #[.float .f64 xl, .float .f64 xh] 39).made #[.float .f64 yl, .float .f64 yh] 39
    simp only [World.size_alloc] at h
    exact Lib.hid h
  clear hb c3
  go_upto_region 8 with fail
  go_cut [107] (LawC w [(w11.heap.size + 1, #[.float .f64 yl, .float .f64 yh]), (w11.heap.size, #[.float .f64 xl, .float .f64 xh]), (w9.heap.size + 1, #[.float .f64 ql, .float .f64 qh]), (w9.heap.size, #[.float .f64 pl, .float .f64 ph]), (w7.heap.size + 1, #[.float .f64 ol, .float .f64 oh]), (w7.heap.size, #[.float .f64 sl, .float .f64 sh]), (w.heap.size, #[.float .f64 al, .float .f64 ah])] false)
  case first =>
    have z0 := Z0.out
    have z1 := Z1.out
    obtain ⟨k1, k2⟩ := (M.out.blocks (w.heap.size, #[.float .f64 al, .float .f64 ah]) (by simp)).two
    obtain ⟨k3, k4⟩ := (M.out.blocks (w7.heap.size, #[.float .f64 sl, .float .f64 sh]) (by simp)).two
    obtain ⟨k5, k6⟩ := (M.out.blocks (w7.heap.size + 1, #[.float .f64 ol, .float .f64 oh]) (by simp)).two
    go_wp2_with fail
    refine (cH1.out _).mono ?_
    rintro r w20 ⟨rfl, hb⟩
    replace M := Lib.hid (M.out.below hb)
    clear hb k1 k2 k3 k4 k5 k6
    obtain ⟨k1, k2⟩ := (M.out.blocks (w.heap.size, #[.float .f64 al, .float .f64 ah]) (by simp)).two
    obtain ⟨k3, k4⟩ := (M.out.blocks (w7.heap.size, #[.float .f64 sl, .float .f64 sh]) (by simp)).two
    obtain ⟨k5, k6⟩ := (M.out.blocks (w7.heap.size + 1, #[.float .f64 ol, .float .f64 oh]) (by simp)).two
    cases b1
    · clear F1
      go_wp2_with fail
      refine (cH2.out _).mono ?_
      rintro r w20 ⟨rfl, hb⟩
      replace M := Lib.hid (M.out.below hb)
      clear hb k1 k2 k3 k4 k5 k6
      obtain ⟨k1, k2⟩ := (M.out.blocks (w.heap.size, #[.float .f64 al, .float .f64 ah]) (by simp)).two
      obtain ⟨k3, k4⟩ := (M.out.blocks (w7.heap.size, #[.float .f64 sl, .float .f64 sh]) (by simp)).two
      obtain ⟨k5, k6⟩ := (M.out.blocks (w7.heap.size + 1, #[.float .f64 ol, .float .f64 oh]) (by simp)).two
      cases b2
      · clear F2
        go_wp2_with fail
        refine (cH3.out _).mono ?_
        rintro r w20 ⟨rfl, hb⟩
        replace M := Lib.hid (M.out.below hb)
        clear hb k1 k2 k3 k4 k5 k6
        obtain ⟨k1, k2⟩ := (M.out.blocks (w.heap.size, #[.float .f64 al, .float .f64 ah]) (by simp)).two
        obtain ⟨k3, k4⟩ := (M.out.blocks (w7.heap.size, #[.float .f64 sl, .float .f64 sh]) (by simp)).two
        obtain ⟨k5, k6⟩ := (M.out.blocks (w7.heap.size + 1, #[.float .f64 ol, .float .f64 oh]) (by simp)).two
        cases b3
        · clear F3
          cases a0
          · cases a1
            · clear F4
              go_wp2_with fail
              go_meet
              exact ⟨rfl, M.out⟩
            · have g4 := F4.out rfl
              clear F4
              go_wp2_with fail
              go_meet
              exact ⟨rfl, M.out⟩
          · have g4 := F4.out rfl
            clear F4
            go_wp2_with fail
            go_meet
            exact ⟨rfl, M.out⟩
        · have g3 := F3.out rfl
          clear F3
          cases a0
          · cases a1
            · clear F4
              go_wp2_with fail
              go_meet
              exact ⟨rfl, M.out⟩
            · have g4 := F4.out rfl
              clear F4
              go_wp2_with fail
              go_meet
              exact ⟨rfl, M.out⟩
          · have g4 := F4.out rfl
            clear F4
            go_wp2_with fail
            go_meet
            exact ⟨rfl, M.out⟩
      · have g2 := F2.out rfl
        clear F2
        go_wp2_with fail
        refine (cH3.out _).mono ?_
        rintro r w20 ⟨rfl, hb⟩
        replace M := Lib.hid (M.out.below hb)
        clear hb k1 k2 k3 k4 k5 k6
        obtain ⟨k1, k2⟩ := (M.out.blocks (w.heap.size, #[.float .f64 al, .float .f64 ah]) (by simp)).two
        obtain ⟨k3, k4⟩ := (M.out.blocks (w7.heap.size, #[.float .f64 sl, .float .f64 sh]) (by simp)).two
        obtain ⟨k5, k6⟩ := (M.out.blocks (w7.heap.size + 1, #[.float .f64 ol, .float .f64 oh]) (by simp)).two
        cases b3
        · clear F3
          cases a0
          · cases a1
            · clear F4
              go_wp2_with fail
              go_meet
              exact ⟨rfl, M.out⟩
            · have g4 := F4.out rfl
              clear F4
              go_wp2_with fail
              go_meet
              exact ⟨rfl, M.out⟩
          · have g4 := F4.out rfl
            clear F4
            go_wp2_with fail
            go_meet
            exact ⟨rfl, M.out⟩
        · have g3 := F3.out rfl
          clear F3
          cases a0
          · cases a1
            · clear F4
              go_wp2_with fail
              go_meet
              exact ⟨rfl, M.out⟩
            · have g4 := F4.out rfl
              clear F4
              go_wp2_with fail
              go_meet
              exact ⟨rfl, M.out⟩
          · have g4 := F4.out rfl
            clear F4
            go_wp2_with fail
            go_meet
            exact ⟨rfl, M.out⟩
    · have g1 := F1.out rfl
      clear F1
      go_wp2_with fail
      refine (cH2.out _).mono ?_
      rintro r w20 ⟨rfl, hb⟩
      replace M := Lib.hid (M.out.below hb)
      clear hb k1 k2 k3 k4 k5 k6
      obtain ⟨k1, k2⟩ := (M.out.blocks (w.heap.size, #[.float .f64 al, .float .f64 ah]) (by simp)).two
      obtain ⟨k3, k4⟩ := (M.out.blocks (w7.heap.size, #[.float .f64 sl, .float .f64 sh]) (by simp)).two
      obtain ⟨k5, k6⟩ := (M.out.blocks (w7.heap.size + 1, #[.float .f64 ol, .float .f64 oh]) (by simp)).two
      cases b2
      · clear F2
        go_wp2_with fail
        refine (cH3.out _).mono ?_
        rintro r w20 ⟨rfl, hb⟩
        replace M := Lib.hid (M.out.below hb)
        clear hb k1 k2 k3 k4 k5 k6
        obtain ⟨k1, k2⟩ := (M.out.blocks (w.heap.size, #[.float .f64 al, .float .f64 ah]) (by simp)).two
        obtain ⟨k3, k4⟩ := (M.out.blocks (w7.heap.size, #[.float .f64 sl, .float .f64 sh]) (by simp)).two
        obtain ⟨k5, k6⟩ := (M.out.blocks (w7.heap.size + 1, #[.float .f64 ol, .float .f64 oh]) (by simp)).two
        cases b3
        · clear F3
          cases a0
          · cases a1
            · clear F4
              go_wp2_with fail
              go_meet
              exact ⟨rfl, M.out⟩
            · have g4 := F4.out rfl
              clear F4
              go_wp2_with fail
              go_meet
              exact ⟨rfl, M.out⟩
          · have g4 := F4.out rfl
            clear F4
            go_wp2_with fail
            go_meet
            exact ⟨rfl, M.out⟩
        · have g3 := F3.out rfl
          clear F3
          cases a0
          · cases a1
            · clear F4
              go_wp2_with fail
              go_meet
              exact ⟨rfl, M.out⟩
            · have g4 := F4.out rfl
              clear F4
              go_wp2_with fail
              go_meet
              exact ⟨rfl, M.out⟩
          · have g4 := F4.out rfl
            clear F4
            go_wp2_with fail
            go_meet
            exact ⟨rfl, M.out⟩
      · have g2 := F2.out rfl
        clear F2
        go_wp2_with fail
        refine (cH3.out _).mono ?_
        rintro r w20 ⟨rfl, hb⟩
        replace M := Lib.hid (M.out.below hb)
        clear hb k1 k2 k3 k4 k5 k6
        obtain ⟨k1, k2⟩ := (M.out.blocks (w.heap.size, #[.float .f64 al, .float .f64 ah]) (by simp)).two
        obtain ⟨k3, k4⟩ := (M.out.blocks (w7.heap.size, #[.float .f64 sl, .float .f64 sh]) (by simp)).two
        obtain ⟨k5, k6⟩ := (M.out.blocks (w7.heap.size + 1, #[.float .f64 ol, .float .f64 oh]) (by simp)).two
        cases b3
        · clear F3
          cases a0
          · cases a1
            · clear F4
              go_wp2_with fail
              go_meet
              exact ⟨rfl, M.out⟩
            · have g4 := F4.out rfl
              clear F4
              go_wp2_with fail
              go_meet
              exact ⟨rfl, M.out⟩
          · have g4 := F4.out rfl
            clear F4
            go_wp2_with fail
            go_meet
            exact ⟨rfl, M.out⟩
        · have g3 := F3.out rfl
          clear F3
          cases a0
          · cases a1
            · clear F4
              go_wp2_with fail
              go_meet
              exact ⟨rfl, M.out⟩
            · have g4 := F4.out rfl
              clear F4
              go_wp2_with fail
              go_meet
              exact ⟨rfl, M.out⟩
          · have g4 := F4.out rfl
            clear F4
            go_wp2_with fail
            go_meet
            exact ⟨rfl, M.out⟩
  case rest =>
    obtain ⟨w12, rfl⟩ : ∃ x : World, x = wc := ⟨_, rfl⟩
    obtain ⟨rfl, hM⟩ := hcut
    clear M F1 F2 F3 F4 Z0 Z1
    have M := Lib.hid hM
    clear hM
    go_upto_region 10 with fail
    go_cut [123] (LawC w [(w11.heap.size + 1, #[.float .f64 yl, .float .f64 yh]), (w11.heap.size, #[.float .f64 xl, .float .f64 xh]), (w9.heap.size + 1, #[.float .f64 ql, .float .f64 qh]), (w9.heap.size, #[.float .f64 pl, .float .f64 ph]), (w7.heap.size + 1, #[.float .f64 ol, .float .f64 oh]), (w7.heap.size, #[.float .f64 sl, .float .f64 sh]), (w.heap.size, #[.float .f64 al, .float .f64 ah])] false)
    case first =>
      cases b1
      · cases b2
        · have cU := Lib.hid (cU1.out rfl rfl)
          replace M := Lib.hid M.out.drew
          obtain ⟨k1, k2⟩ := (M.out.blocks (w.heap.size, #[.float .f64 al, .float .f64 ah]) (by simp)).two
          obtain ⟨k3, k4⟩ := (M.out.blocks (w7.heap.size, #[.float .f64 sl, .float .f64 sh]) (by simp)).two
          obtain ⟨k5, k6⟩ := (M.out.blocks (w9.heap.size, #[.float .f64 pl, .float .f64 ph]) (by simp)).two
          obtain ⟨k7, k8⟩ := (M.out.blocks (w11.heap.size, #[.float .f64 xl, .float .f64 xh]) (by simp)).two
          refine wp_region_noPanic ?_
          refine tails_region (S := fun w' => w'.cell? ⟨w.heap.size, 0, none⟩ = some (.float .f64 al) ∧ w'.cell? ⟨w.heap.size, 1, none⟩ = some (.float .f64 ah) ∧ w'.cell? ⟨w7.heap.size, 0, none⟩ = some (.float .f64 sl) ∧ w'.cell? ⟨w7.heap.size, 1, none⟩ = some (.float .f64 sh) ∧ w'.cell? ⟨w9.heap.size, 0, none⟩ = some (.float .f64 pl) ∧ w'.cell? ⟨w9.heap.size, 1, none⟩ = some (.float .f64 ph) ∧ w'.cell? ⟨w11.heap.size, 0, none⟩ = some (.float .f64 xl) ∧ w'.cell? ⟨w11.heap.size, 1, none⟩ = some (.float .f64 xh)) [] (by kernel_rfl) ?_ (fun hS => ?_)
          · exact ⟨k1, k2, k3, k4, k5, k6, k7, k8⟩
          refine tails_take (T := []) (i := 0) (o := _) (x := ?_) rfl (by kernel_rfl) (by kernel_rfl) (by kernel_rfl) (by kernel_rfl) (fun _ _ _ h => h) (Or.inl ⟨by rfl, ?_⟩) (by assumption) ?_
          rotate_left; focus (intro w hSw; (try dsimp only at hSw); go_simp; first | done | with_reducible rfl)
          refine tails_one (T := []) (i := 1) (o := _) rfl (by kernel_rfl) (fun K hK => ?_)
          go_simp
          ((with_reducible refine (cH1.out _).mono ?_); rintro rr w20 ⟨rfl, hb⟩; replace M := Lib.hid (M.out.below hb); clear hb k1 k2 k3 k4 k5 k6 k7 k8; obtain ⟨k1, k2⟩ := (M.out.blocks (w.heap.size, #[.float .f64 al, .float .f64 ah]) (by simp)).two; obtain ⟨k3, k4⟩ := (M.out.blocks (w7.heap.size, #[.float .f64 sl, .float .f64 sh]) (by simp)).two; obtain ⟨k5, k6⟩ := (M.out.blocks (w9.heap.size, #[.float .f64 pl, .float .f64 ph]) (by simp)).two; obtain ⟨k7, k8⟩ := (M.out.blocks (w11.heap.size, #[.float .f64 xl, .float .f64 xh]) (by simp)).two)
          try go_wp2_with fail
          refine hK.out _ _ (Or.inr ⟨k1, k2, k3, k4, k5, k6, k7, k8⟩) (fun hHeld => ?_)
          clear hK K hS
          have hS := hHeld.resolve_left (by decide)
          clear hHeld
          refine tails_take (T := []) (i := 2) (o := _) (x := ?_) rfl (by kernel_rfl) (by kernel_rfl) (by kernel_rfl) (by kernel_rfl) (fun _ _ _ h => h) (Or.inl ⟨by rfl, ?_⟩) (by assumption) ?_
          rotate_left; focus (intro w hSw; (try dsimp only at hSw); go_simp; first | done | with_reducible rfl)
          refine tails_take (T := []) (i := 3) (o := _) (x := ?_) rfl (by kernel_rfl) (by kernel_rfl) (by kernel_rfl) (by kernel_rfl) (fun _ _ _ h => h) (Or.inl ⟨by rfl, ?_⟩) (by assumption) ?_
          rotate_left; focus (intro w hSw; (try dsimp only at hSw); go_simp; first | done | with_reducible rfl)
          refine tails_take (T := []) (i := 4) (o := _) (x := ?_) rfl (by kernel_rfl) (by kernel_rfl) (by kernel_rfl) (by kernel_rfl) (fun _ _ _ h => h) (Or.inl ⟨by rfl, ?_⟩) (by assumption) ?_
          rotate_left; focus (intro w hSw; (try dsimp only at hSw); go_simp; first | done | with_reducible rfl)
          refine tails_one (T := []) (i := 5) (o := _) rfl (by kernel_rfl) (fun K hK => ?_)
          go_simp
          ((with_reducible refine (cH2.out _).mono ?_); rintro rr w20 ⟨rfl, hb⟩; replace M := Lib.hid (M.out.below hb); clear hb k1 k2 k3 k4 k5 k6 k7 k8; obtain ⟨k1, k2⟩ := (M.out.blocks (w.heap.size, #[.float .f64 al, .float .f64 ah]) (by simp)).two; obtain ⟨k3, k4⟩ := (M.out.blocks (w7.heap.size, #[.float .f64 sl, .float .f64 sh]) (by simp)).two; obtain ⟨k5, k6⟩ := (M.out.blocks (w9.heap.size, #[.float .f64 pl, .float .f64 ph]) (by simp)).two; obtain ⟨k7, k8⟩ := (M.out.blocks (w11.heap.size, #[.float .f64 xl, .float .f64 xh]) (by simp)).two)
          try go_wp2_with fail
          refine hK.out _ _ (Or.inr ⟨k1, k2, k3, k4, k5, k6, k7, k8⟩) (fun hHeld => ?_)
          clear hK K hS
          have hS := hHeld.resolve_left (by decide)
          clear hHeld
          refine tails_take (T := []) (i := 6) (o := _) (x := ?_) rfl (by kernel_rfl) (by kernel_rfl) (by kernel_rfl) (by kernel_rfl) (fun _ _ _ h => h) (Or.inl ⟨by rfl, ?_⟩) (by assumption) ?_
          rotate_left; focus (intro w hSw; (try dsimp only at hSw); go_simp; first | done | with_reducible rfl)
          refine tails_take (T := []) (i := 7) (o := _) (x := ?_) rfl (by kernel_rfl) (by kernel_rfl) (by kernel_rfl) (by kernel_rfl) (fun _ _ _ h => h) (Or.inl ⟨by rfl, ?_⟩) (by assumption) ?_
          rotate_left; focus (intro w hSw; (try dsimp only at hSw); go_simp; first | done | with_reducible rfl)
          refine tails_take (T := []) (i := 8) (o := _) (x := ?_) rfl (by kernel_rfl) (by kernel_rfl) (by kernel_rfl) (by kernel_rfl) (fun _ _ _ h => h) (Or.inl ⟨by rfl, ?_⟩) (by assumption) ?_
          rotate_left; focus (intro w hSw; (try dsimp only at hSw); go_simp; first | done | with_reducible rfl)
          refine tails_take (T := []) (i := 9) (o := _) (x := ?_) rfl (by kernel_rfl) (by kernel_rfl) (by kernel_rfl) (by kernel_rfl) (fun _ _ _ h => h) (Or.inl ⟨by rfl, ?_⟩) (by assumption) ?_
          rotate_left; focus (intro w hSw; (try dsimp only at hSw); go_simp; first | done | with_reducible rfl)
          refine tails_take (T := []) (i := 10) (o := _) (x := ?_) rfl (by kernel_rfl) (by kernel_rfl) (by kernel_rfl) (by kernel_rfl) (fun _ _ _ h => h) (Or.inl ⟨by rfl, ?_⟩) (by assumption) ?_
          rotate_left; focus (intro w hSw; (try dsimp only at hSw); go_simp; first | done | with_reducible rfl)
          refine tails_take (T := []) (i := 11) (o := _) (x := ?_) rfl (by kernel_rfl) (by kernel_rfl) (by kernel_rfl) (by kernel_rfl) (fun _ _ _ h => h) (Or.inl ⟨by rfl, ?_⟩) (by assumption) ?_
          rotate_left; focus (intro w hSw; (try dsimp only at hSw); go_simp; first | done | with_reducible rfl)
          refine tails_one (T := []) (i := 12) (o := _) rfl (by kernel_rfl) (fun K hK => ?_)
          go_simp
          ((with_reducible refine (cU.out _).mono ?_); rintro rr w20 ⟨rfl, hb⟩; replace M := Lib.hid (M.out.below hb); clear hb k1 k2 k3 k4 k5 k6 k7 k8; obtain ⟨k1, k2⟩ := (M.out.blocks (w.heap.size, #[.float .f64 al, .float .f64 ah]) (by simp)).two; obtain ⟨k3, k4⟩ := (M.out.blocks (w7.heap.size, #[.float .f64 sl, .float .f64 sh]) (by simp)).two; obtain ⟨k5, k6⟩ := (M.out.blocks (w9.heap.size, #[.float .f64 pl, .float .f64 ph]) (by simp)).two; obtain ⟨k7, k8⟩ := (M.out.blocks (w11.heap.size, #[.float .f64 xl, .float .f64 xh]) (by simp)).two)
          try go_wp2_with fail
          refine hK.out _ _ (Or.inr ⟨k1, k2, k3, k4, k5, k6, k7, k8⟩) (fun hHeld => ?_)
          clear hK K hS
          have hS := hHeld.resolve_left (by decide)
          clear hHeld
          refine tails_one (T := []) (i := 13) (o := _) rfl (by kernel_rfl) (fun K hK => ?_)
          go_simp
          ((with_reducible refine (l_same _ _ _).mono ?_); rintro rr w20 ⟨rfl, hb⟩; replace M := Lib.hid (M.out.below hb); clear hb k1 k2 k3 k4 k5 k6 k7 k8; obtain ⟨k1, k2⟩ := (M.out.blocks (w.heap.size, #[.float .f64 al, .float .f64 ah]) (by simp)).two; obtain ⟨k3, k4⟩ := (M.out.blocks (w7.heap.size, #[.float .f64 sl, .float .f64 sh]) (by simp)).two; obtain ⟨k5, k6⟩ := (M.out.blocks (w9.heap.size, #[.float .f64 pl, .float .f64 ph]) (by simp)).two; obtain ⟨k7, k8⟩ := (M.out.blocks (w11.heap.size, #[.float .f64 xl, .float .f64 xh]) (by simp)).two)
          try go_wp2_with fail
          refine hK.out _ _ (Or.inr ⟨k1, k2, k3, k4, k5, k6, k7, k8⟩) (fun hHeld => ?_)
          clear hK K hS
          have hS := hHeld.resolve_left (by decide)
          clear hHeld
          refine tails_take (T := []) (i := 14) (o := _) (x := ?_) rfl (by kernel_rfl) (by kernel_rfl) (by kernel_rfl) (by kernel_rfl) (fun _ _ _ h => h) (Or.inl ⟨by rfl, ?_⟩) (by assumption) ?_
          rotate_left; focus (intro w hSw; (try dsimp only at hSw); go_simp; first | done | with_reducible rfl)
          refine tails_take (T := []) (i := 15) (o := _) (x := ?_) rfl (by kernel_rfl) (by kernel_rfl) (by kernel_rfl) (by kernel_rfl) (fun _ _ _ h => h) (Or.inl ⟨by rfl, ?_⟩) (by assumption) ?_
          rotate_left; focus (intro w hSw; (try dsimp only at hSw); go_simp; first | done | with_reducible rfl)
          clear hS k1 k2 k3 k4 k5 k6 k7 k8
          refine tails_done (by kernel_rfl) ?_ _
          refine NoPanic.normal ?_
          go_wp2_with fail
          go_meet
          exact ⟨rfl, M.out⟩
        · skip
          replace M := Lib.hid M.out.drew
          obtain ⟨k1, k2⟩ := (M.out.blocks (w.heap.size, #[.float .f64 al, .float .f64 ah]) (by simp)).two
          obtain ⟨k3, k4⟩ := (M.out.blocks (w7.heap.size, #[.float .f64 sl, .float .f64 sh]) (by simp)).two
          obtain ⟨k5, k6⟩ := (M.out.blocks (w9.heap.size, #[.float .f64 pl, .float .f64 ph]) (by simp)).two
          obtain ⟨k7, k8⟩ := (M.out.blocks (w11.heap.size, #[.float .f64 xl, .float .f64 xh]) (by simp)).two
          refine wp_region_noPanic ?_
          refine tails_region (S := fun w' => w'.cell? ⟨w.heap.size, 0, none⟩ = some (.float .f64 al) ∧ w'.cell? ⟨w.heap.size, 1, none⟩ = some (.float .f64 ah) ∧ w'.cell? ⟨w7.heap.size, 0, none⟩ = some (.float .f64 sl) ∧ w'.cell? ⟨w7.heap.size, 1, none⟩ = some (.float .f64 sh) ∧ w'.cell? ⟨w9.heap.size, 0, none⟩ = some (.float .f64 pl) ∧ w'.cell? ⟨w9.heap.size, 1, none⟩ = some (.float .f64 ph) ∧ w'.cell? ⟨w11.heap.size, 0, none⟩ = some (.float .f64 xl) ∧ w'.cell? ⟨w11.heap.size, 1, none⟩ = some (.float .f64 xh)) [] (by kernel_rfl) ?_ (fun hS => ?_)
          · exact ⟨k1, k2, k3, k4, k5, k6, k7, k8⟩
          refine tails_take (T := []) (i := 0) (o := _) (x := ?_) rfl (by kernel_rfl) (by kernel_rfl) (by kernel_rfl) (by kernel_rfl) (fun _ _ _ h => h) (Or.inl ⟨by rfl, ?_⟩) (by assumption) ?_
          rotate_left; focus (intro w hSw; (try dsimp only at hSw); go_simp; first | done | with_reducible rfl)
          refine tails_one (T := []) (i := 1) (o := _) rfl (by kernel_rfl) (fun K hK => ?_)
          go_simp
          ((with_reducible refine (cH1.out _).mono ?_); rintro rr w20 ⟨rfl, hb⟩; replace M := Lib.hid (M.out.below hb); clear hb k1 k2 k3 k4 k5 k6 k7 k8; obtain ⟨k1, k2⟩ := (M.out.blocks (w.heap.size, #[.float .f64 al, .float .f64 ah]) (by simp)).two; obtain ⟨k3, k4⟩ := (M.out.blocks (w7.heap.size, #[.float .f64 sl, .float .f64 sh]) (by simp)).two; obtain ⟨k5, k6⟩ := (M.out.blocks (w9.heap.size, #[.float .f64 pl, .float .f64 ph]) (by simp)).two; obtain ⟨k7, k8⟩ := (M.out.blocks (w11.heap.size, #[.float .f64 xl, .float .f64 xh]) (by simp)).two)
          try go_wp2_with fail
          refine hK.out _ _ (Or.inr ⟨k1, k2, k3, k4, k5, k6, k7, k8⟩) (fun hHeld => ?_)
          clear hK K hS
          have hS := hHeld.resolve_left (by decide)
          clear hHeld
          refine tails_take (T := []) (i := 2) (o := _) (x := ?_) rfl (by kernel_rfl) (by kernel_rfl) (by kernel_rfl) (by kernel_rfl) (fun _ _ _ h => h) (Or.inl ⟨by rfl, ?_⟩) (by assumption) ?_
          rotate_left; focus (intro w hSw; (try dsimp only at hSw); go_simp; first | done | with_reducible rfl)
          refine tails_take (T := []) (i := 3) (o := _) (x := ?_) rfl (by kernel_rfl) (by kernel_rfl) (by kernel_rfl) (by kernel_rfl) (fun _ _ _ h => h) (Or.inl ⟨by rfl, ?_⟩) (by assumption) ?_
          rotate_left; focus (intro w hSw; (try dsimp only at hSw); go_simp; first | done | with_reducible rfl)
          refine tails_take (T := []) (i := 4) (o := _) (x := ?_) rfl (by kernel_rfl) (by kernel_rfl) (by kernel_rfl) (by kernel_rfl) (fun _ _ _ h => h) (Or.inl ⟨by rfl, ?_⟩) (by assumption) ?_
          rotate_left; focus (intro w hSw; (try dsimp only at hSw); go_simp; first | done | with_reducible rfl)
          refine tails_one (T := []) (i := 5) (o := _) rfl (by kernel_rfl) (fun K hK => ?_)
          go_simp
          ((with_reducible refine (cH2.out _).mono ?_); rintro rr w20 ⟨rfl, hb⟩; replace M := Lib.hid (M.out.below hb); clear hb k1 k2 k3 k4 k5 k6 k7 k8; obtain ⟨k1, k2⟩ := (M.out.blocks (w.heap.size, #[.float .f64 al, .float .f64 ah]) (by simp)).two; obtain ⟨k3, k4⟩ := (M.out.blocks (w7.heap.size, #[.float .f64 sl, .float .f64 sh]) (by simp)).two; obtain ⟨k5, k6⟩ := (M.out.blocks (w9.heap.size, #[.float .f64 pl, .float .f64 ph]) (by simp)).two; obtain ⟨k7, k8⟩ := (M.out.blocks (w11.heap.size, #[.float .f64 xl, .float .f64 xh]) (by simp)).two)
          try go_wp2_with fail
          refine hK.out _ _ (Or.inr ⟨k1, k2, k3, k4, k5, k6, k7, k8⟩) (fun hHeld => ?_)
          clear hK K hS
          have hS := hHeld.resolve_left (by decide)
          clear hHeld
          refine tails_take (T := []) (i := 6) (o := _) (x := ?_) rfl (by kernel_rfl) (by kernel_rfl) (by kernel_rfl) (by kernel_rfl) (fun _ _ _ h => h) (Or.inl ⟨by rfl, ?_⟩) (by assumption) ?_
          rotate_left; focus (intro w hSw; (try dsimp only at hSw); go_simp; first | done | with_reducible rfl)
          refine tails_take (T := []) (i := 7) (o := _) (x := ?_) rfl (by kernel_rfl) (by kernel_rfl) (by kernel_rfl) (by kernel_rfl) (fun _ _ _ h => h) (Or.inl ⟨by rfl, ?_⟩) (by assumption) ?_
          rotate_left; focus (intro w hSw; (try dsimp only at hSw); go_simp; first | done | with_reducible rfl)
          refine tails_take (T := []) (i := 8) (o := _) (x := ?_) rfl (by kernel_rfl) (by kernel_rfl) (by kernel_rfl) (by kernel_rfl) (fun _ _ _ h => h) (Or.inl ⟨by rfl, ?_⟩) (by assumption) ?_
          rotate_left; focus (intro w hSw; (try dsimp only at hSw); go_simp; first | done | with_reducible rfl)
          refine tails_take (T := []) (i := 9) (o := _) (x := undef) rfl (by kernel_rfl) (by kernel_rfl) (by kernel_rfl) (by kernel_rfl) (fun _ _ _ h => h) (Or.inr ⟨by rfl, rfl⟩) (by assumption) ?_
          refine tails_take (T := []) (i := 10) (o := _) (x := undef) rfl (by kernel_rfl) (by kernel_rfl) (by kernel_rfl) (by kernel_rfl) (fun _ _ _ h => h) (Or.inr ⟨by rfl, rfl⟩) (by assumption) ?_
          refine tails_take (T := []) (i := 11) (o := _) (x := undef) rfl (by kernel_rfl) (by kernel_rfl) (by kernel_rfl) (by kernel_rfl) (fun _ _ _ h => h) (Or.inr ⟨by rfl, rfl⟩) (by assumption) ?_
          refine tails_one (T := []) (i := 12) (o := _) rfl (by kernel_rfl) (fun K hK => ?_)
          go_simp
          refine hK.out _ _ (Or.inr ⟨k1, k2, k3, k4, k5, k6, k7, k8⟩) (fun hHeld => ?_)
          clear hK K hS
          have hS := hHeld.resolve_left (by decide)
          clear hHeld
          refine tails_one (T := []) (i := 13) (o := _) rfl (by kernel_rfl) (fun K hK => ?_)
          go_simp
          refine hK.out _ _ (Or.inr ⟨k1, k2, k3, k4, k5, k6, k7, k8⟩) (fun hHeld => ?_)
          clear hK K hS
          have hS := hHeld.resolve_left (by decide)
          clear hHeld
          refine tails_take (T := []) (i := 14) (o := _) (x := undef) rfl (by kernel_rfl) (by kernel_rfl) (by kernel_rfl) (by kernel_rfl) (fun _ _ _ h => h) (Or.inr ⟨by rfl, rfl⟩) (by assumption) ?_
          refine tails_take (T := []) (i := 15) (o := _) (x := ?_) rfl (by kernel_rfl) (by kernel_rfl) (by kernel_rfl) (by kernel_rfl) (fun _ _ _ h => h) (Or.inl ⟨by rfl, ?_⟩) (by assumption) ?_
          rotate_left; focus (intro w hSw; (try dsimp only at hSw); go_simp; first | done | with_reducible rfl)
          clear hS k1 k2 k3 k4 k5 k6 k7 k8
          refine tails_done (by kernel_rfl) ?_ _
          refine NoPanic.normal ?_
          go_wp2_with fail
          go_meet
          exact ⟨rfl, M.out⟩
      · skip
        replace M := Lib.hid M.out.drew
        obtain ⟨k1, k2⟩ := (M.out.blocks (w.heap.size, #[.float .f64 al, .float .f64 ah]) (by simp)).two
        obtain ⟨k3, k4⟩ := (M.out.blocks (w7.heap.size, #[.float .f64 sl, .float .f64 sh]) (by simp)).two
        obtain ⟨k5, k6⟩ := (M.out.blocks (w9.heap.size, #[.float .f64 pl, .float .f64 ph]) (by simp)).two
        obtain ⟨k7, k8⟩ := (M.out.blocks (w11.heap.size, #[.float .f64 xl, .float .f64 xh]) (by simp)).two
        refine wp_region_noPanic ?_
        refine tails_region (S := fun w' => w'.cell? ⟨w.heap.size, 0, none⟩ = some (.float .f64 al) ∧ w'.cell? ⟨w.heap.size, 1, none⟩ = some (.float .f64 ah) ∧ w'.cell? ⟨w7.heap.size, 0, none⟩ = some (.float .f64 sl) ∧ w'.cell? ⟨w7.heap.size, 1, none⟩ = some (.float .f64 sh) ∧ w'.cell? ⟨w9.heap.size, 0, none⟩ = some (.float .f64 pl) ∧ w'.cell? ⟨w9.heap.size, 1, none⟩ = some (.float .f64 ph) ∧ w'.cell? ⟨w11.heap.size, 0, none⟩ = some (.float .f64 xl) ∧ w'.cell? ⟨w11.heap.size, 1, none⟩ = some (.float .f64 xh)) [] (by kernel_rfl) ?_ (fun hS => ?_)
        · exact ⟨k1, k2, k3, k4, k5, k6, k7, k8⟩
        refine tails_take (T := []) (i := 0) (o := _) (x := ?_) rfl (by kernel_rfl) (by kernel_rfl) (by kernel_rfl) (by kernel_rfl) (fun _ _ _ h => h) (Or.inl ⟨by rfl, ?_⟩) (by assumption) ?_
        rotate_left; focus (intro w hSw; (try dsimp only at hSw); go_simp; first | done | with_reducible rfl)
        refine tails_one (T := []) (i := 1) (o := _) rfl (by kernel_rfl) (fun K hK => ?_)
        go_simp
        ((with_reducible refine (cH1.out _).mono ?_); rintro rr w20 ⟨rfl, hb⟩; replace M := Lib.hid (M.out.below hb); clear hb k1 k2 k3 k4 k5 k6 k7 k8; obtain ⟨k1, k2⟩ := (M.out.blocks (w.heap.size, #[.float .f64 al, .float .f64 ah]) (by simp)).two; obtain ⟨k3, k4⟩ := (M.out.blocks (w7.heap.size, #[.float .f64 sl, .float .f64 sh]) (by simp)).two; obtain ⟨k5, k6⟩ := (M.out.blocks (w9.heap.size, #[.float .f64 pl, .float .f64 ph]) (by simp)).two; obtain ⟨k7, k8⟩ := (M.out.blocks (w11.heap.size, #[.float .f64 xl, .float .f64 xh]) (by simp)).two)
        try go_wp2_with fail
        refine hK.out _ _ (Or.inr ⟨k1, k2, k3, k4, k5, k6, k7, k8⟩) (fun hHeld => ?_)
        clear hK K hS
        have hS := hHeld.resolve_left (by decide)
        clear hHeld
        refine tails_take (T := []) (i := 2) (o := _) (x := ?_) rfl (by kernel_rfl) (by kernel_rfl) (by kernel_rfl) (by kernel_rfl) (fun _ _ _ h => h) (Or.inl ⟨by rfl, ?_⟩) (by assumption) ?_
        rotate_left; focus (intro w hSw; (try dsimp only at hSw); go_simp; first | done | with_reducible rfl)
        refine tails_take (T := []) (i := 3) (o := _) (x := ?_) rfl (by kernel_rfl) (by kernel_rfl) (by kernel_rfl) (by kernel_rfl) (fun _ _ _ h => h) (Or.inl ⟨by rfl, ?_⟩) (by assumption) ?_
        rotate_left; focus (intro w hSw; (try dsimp only at hSw); go_simp; first | done | with_reducible rfl)
        refine tails_take (T := []) (i := 4) (o := _) (x := undef) rfl (by kernel_rfl) (by kernel_rfl) (by kernel_rfl) (by kernel_rfl) (fun _ _ _ h => h) (Or.inr ⟨by rfl, rfl⟩) (by assumption) ?_
        refine tails_one (T := []) (i := 5) (o := _) rfl (by kernel_rfl) (fun K hK => ?_)
        go_simp
        refine hK.out _ _ (Or.inr ⟨k1, k2, k3, k4, k5, k6, k7, k8⟩) (fun hHeld => ?_)
        clear hK K hS
        have hS := hHeld.resolve_left (by decide)
        clear hHeld
        refine tails_take (T := []) (i := 6) (o := _) (x := undef) rfl (by kernel_rfl) (by kernel_rfl) (by kernel_rfl) (by kernel_rfl) (fun _ _ _ h => h) (Or.inr ⟨by rfl, rfl⟩) (by assumption) ?_
        refine tails_take (T := []) (i := 7) (o := _) (x := ?_) rfl (by kernel_rfl) (by kernel_rfl) (by kernel_rfl) (by kernel_rfl) (fun _ _ _ h => h) (Or.inl ⟨by rfl, ?_⟩) (by assumption) ?_
        rotate_left; focus (intro w hSw; (try dsimp only at hSw); go_simp; first | done | with_reducible rfl)
        refine tails_take (T := []) (i := 8) (o := _) (x := ?_) rfl (by kernel_rfl) (by kernel_rfl) (by kernel_rfl) (by kernel_rfl) (fun _ _ _ h => h) (Or.inl ⟨by rfl, ?_⟩) (by assumption) ?_
        rotate_left; focus (intro w hSw; (try dsimp only at hSw); go_simp; first | done | with_reducible rfl)
        refine tails_take (T := []) (i := 9) (o := _) (x := undef) rfl (by kernel_rfl) (by kernel_rfl) (by kernel_rfl) (by kernel_rfl) (fun _ _ _ h => h) (Or.inr ⟨by rfl, rfl⟩) (by assumption) ?_
        refine tails_take (T := []) (i := 10) (o := _) (x := undef) rfl (by kernel_rfl) (by kernel_rfl) (by kernel_rfl) (by kernel_rfl) (fun _ _ _ h => h) (Or.inr ⟨by rfl, rfl⟩) (by assumption) ?_
        refine tails_take (T := []) (i := 11) (o := _) (x := undef) rfl (by kernel_rfl) (by kernel_rfl) (by kernel_rfl) (by kernel_rfl) (fun _ _ _ h => h) (Or.inr ⟨by rfl, rfl⟩) (by assumption) ?_
        refine tails_one (T := []) (i := 12) (o := _) rfl (by kernel_rfl) (fun K hK => ?_)
        go_simp
        refine hK.out _ _ (Or.inr ⟨k1, k2, k3, k4, k5, k6, k7, k8⟩) (fun hHeld => ?_)
        clear hK K hS
        have hS := hHeld.resolve_left (by decide)
        clear hHeld
        refine tails_one (T := []) (i := 13) (o := _) rfl (by kernel_rfl) (fun K hK => ?_)
        go_simp
        refine hK.out _ _ (Or.inr ⟨k1, k2, k3, k4, k5, k6, k7, k8⟩) (fun hHeld => ?_)
        clear hK K hS
        have hS := hHeld.resolve_left (by decide)
        clear hHeld
        refine tails_take (T := []) (i := 14) (o := _) (x := undef) rfl (by kernel_rfl) (by kernel_rfl) (by kernel_rfl) (by kernel_rfl) (fun _ _ _ h => h) (Or.inr ⟨by rfl, rfl⟩) (by assumption) ?_
        refine tails_take (T := []) (i := 15) (o := _) (x := ?_) rfl (by kernel_rfl) (by kernel_rfl) (by kernel_rfl) (by kernel_rfl) (fun _ _ _ h => h) (Or.inl ⟨by rfl, ?_⟩) (by assumption) ?_
        rotate_left; focus (intro w hSw; (try dsimp only at hSw); go_simp; first | done | with_reducible rfl)
        clear hS k1 k2 k3 k4 k5 k6 k7 k8
        refine tails_done (by kernel_rfl) ?_ _
        refine NoPanic.normal ?_
        go_wp2_with fail
        go_meet
        exact ⟨rfl, M.out⟩
    case rest =>
      obtain ⟨w13, rfl⟩ : ∃ x : World, x = wc := ⟨_, rfl⟩
      obtain ⟨rfl, hM⟩ := hcut
      clear M
      have M := Lib.hid hM
      clear hM
      go_upto_region 12 with fail
      cases b3
      · have cU := Lib.hid (cU2.out rfl)
        replace M := Lib.hid M.out.drew
        obtain ⟨k1, k2⟩ := (M.out.blocks (w.heap.size, #[.float .f64 al, .float .f64 ah]) (by simp)).two
        obtain ⟨k3, k4⟩ := (M.out.blocks (w7.heap.size + 1, #[.float .f64 ol, .float .f64 oh]) (by simp)).two
        obtain ⟨k5, k6⟩ := (M.out.blocks (w9.heap.size + 1, #[.float .f64 ql, .float .f64 qh]) (by simp)).two
        obtain ⟨k7, k8⟩ := (M.out.blocks (w11.heap.size + 1, #[.float .f64 yl, .float .f64 yh]) (by simp)).two
        refine wp_region_noPanic ?_
        refine tails_region (S := fun w' => w'.cell? ⟨w.heap.size, 0, none⟩ = some (.float .f64 al) ∧ w'.cell? ⟨w.heap.size, 1, none⟩ = some (.float .f64 ah) ∧ w'.cell? ⟨w7.heap.size + 1, 0, none⟩ = some (.float .f64 ol) ∧ w'.cell? ⟨w7.heap.size + 1, 1, none⟩ = some (.float .f64 oh) ∧ w'.cell? ⟨w9.heap.size + 1, 0, none⟩ = some (.float .f64 ql) ∧ w'.cell? ⟨w9.heap.size + 1, 1, none⟩ = some (.float .f64 qh) ∧ w'.cell? ⟨w11.heap.size + 1, 0, none⟩ = some (.float .f64 yl) ∧ w'.cell? ⟨w11.heap.size + 1, 1, none⟩ = some (.float .f64 yh)) [] (by kernel_rfl) ?_ (fun hS => ?_)
        · exact ⟨k1, k2, k3, k4, k5, k6, k7, k8⟩
        refine tails_take (T := []) (i := 0) (o := _) (x := ?_) rfl (by kernel_rfl) (by kernel_rfl) (by kernel_rfl) (by kernel_rfl) (fun _ _ _ h => h) (Or.inl ⟨by rfl, ?_⟩) (by assumption) ?_
        rotate_left; focus (intro w hSw; (try dsimp only at hSw); go_simp; first | done | with_reducible rfl)
        refine tails_one (T := []) (i := 1) (o := _) rfl (by kernel_rfl) (fun K hK => ?_)
        go_simp
        ((with_reducible refine (cH3.out _).mono ?_); rintro rr w20 ⟨rfl, hb⟩; replace M := Lib.hid (M.out.below hb); clear hb k1 k2 k3 k4 k5 k6 k7 k8; obtain ⟨k1, k2⟩ := (M.out.blocks (w.heap.size, #[.float .f64 al, .float .f64 ah]) (by simp)).two; obtain ⟨k3, k4⟩ := (M.out.blocks (w7.heap.size + 1, #[.float .f64 ol, .float .f64 oh]) (by simp)).two; obtain ⟨k5, k6⟩ := (M.out.blocks (w9.heap.size + 1, #[.float .f64 ql, .float .f64 qh]) (by simp)).two; obtain ⟨k7, k8⟩ := (M.out.blocks (w11.heap.size + 1, #[.float .f64 yl, .float .f64 yh]) (by simp)).two)
        try go_wp2_with fail
        refine hK.out _ _ (Or.inr ⟨k1, k2, k3, k4, k5, k6, k7, k8⟩) (fun hHeld => ?_)
        clear hK K hS
        have hS := hHeld.resolve_left (by decide)
        clear hHeld
        refine tails_take (T := []) (i := 2) (o := _) (x := ?_) rfl (by kernel_rfl) (by kernel_rfl) (by kernel_rfl) (by kernel_rfl) (fun _ _ _ h => h) (Or.inl ⟨by rfl, ?_⟩) (by assumption) ?_
        rotate_left; focus (intro w hSw; (try dsimp only at hSw); go_simp; first | done | with_reducible rfl)
        refine tails_take (T := []) (i := 3) (o := _) (x := ?_) rfl (by kernel_rfl) (by kernel_rfl) (by kernel_rfl) (by kernel_rfl) (fun _ _ _ h => h) (Or.inl ⟨by rfl, ?_⟩) (by assumption) ?_
        rotate_left; focus (intro w hSw; (try dsimp only at hSw); go_simp; first | done | with_reducible rfl)
        refine tails_take (T := []) (i := 4) (o := _) (x := ?_) rfl (by kernel_rfl) (by kernel_rfl) (by kernel_rfl) (by kernel_rfl) (fun _ _ _ h => h) (Or.inl ⟨by rfl, ?_⟩) (by assumption) ?_
        rotate_left; focus (intro w hSw; (try dsimp only at hSw); go_simp; first | done | with_reducible rfl)
        refine tails_take (T := []) (i := 5) (o := _) (x := ?_) rfl (by kernel_rfl) (by kernel_rfl) (by kernel_rfl) (by kernel_rfl) (fun _ _ _ h => h) (Or.inl ⟨by rfl, ?_⟩) (by assumption) ?_
        rotate_left; focus (intro w hSw; (try dsimp only at hSw); go_simp; first | done | with_reducible rfl)
        refine tails_one (T := []) (i := 6) (o := _) rfl (by kernel_rfl) (fun K hK => ?_)
        go_simp
        ((with_reducible refine (cU.out _).mono ?_); rintro rr w20 ⟨rfl, hb⟩; replace M := Lib.hid (M.out.below hb); clear hb k1 k2 k3 k4 k5 k6 k7 k8; obtain ⟨k1, k2⟩ := (M.out.blocks (w.heap.size, #[.float .f64 al, .float .f64 ah]) (by simp)).two; obtain ⟨k3, k4⟩ := (M.out.blocks (w7.heap.size + 1, #[.float .f64 ol, .float .f64 oh]) (by simp)).two; obtain ⟨k5, k6⟩ := (M.out.blocks (w9.heap.size + 1, #[.float .f64 ql, .float .f64 qh]) (by simp)).two; obtain ⟨k7, k8⟩ := (M.out.blocks (w11.heap.size + 1, #[.float .f64 yl, .float .f64 yh]) (by simp)).two)
        try go_wp2_with fail
        refine hK.out _ _ (Or.inr ⟨k1, k2, k3, k4, k5, k6, k7, k8⟩) (fun hHeld => ?_)
        clear hK K hS
        have hS := hHeld.resolve_left (by decide)
        clear hHeld
        refine tails_one (T := []) (i := 7) (o := _) rfl (by kernel_rfl) (fun K hK => ?_)
        go_simp
        ((with_reducible refine (l_same _ _ _).mono ?_); rintro rr w20 ⟨rfl, hb⟩; replace M := Lib.hid (M.out.below hb); clear hb k1 k2 k3 k4 k5 k6 k7 k8; obtain ⟨k1, k2⟩ := (M.out.blocks (w.heap.size, #[.float .f64 al, .float .f64 ah]) (by simp)).two; obtain ⟨k3, k4⟩ := (M.out.blocks (w7.heap.size + 1, #[.float .f64 ol, .float .f64 oh]) (by simp)).two; obtain ⟨k5, k6⟩ := (M.out.blocks (w9.heap.size + 1, #[.float .f64 ql, .float .f64 qh]) (by simp)).two; obtain ⟨k7, k8⟩ := (M.out.blocks (w11.heap.size + 1, #[.float .f64 yl, .float .f64 yh]) (by simp)).two)
        try go_wp2_with fail
        refine hK.out _ _ (Or.inr ⟨k1, k2, k3, k4, k5, k6, k7, k8⟩) (fun hHeld => ?_)
        clear hK K hS
        have hS := hHeld.resolve_left (by decide)
        clear hHeld
        refine tails_take (T := []) (i := 8) (o := _) (x := ?_) rfl (by kernel_rfl) (by kernel_rfl) (by kernel_rfl) (by kernel_rfl) (fun _ _ _ h => h) (Or.inl ⟨by rfl, ?_⟩) (by assumption) ?_
        rotate_left; focus (intro w hSw; (try dsimp only at hSw); go_simp; first | done | with_reducible rfl)
        refine tails_take (T := []) (i := 9) (o := _) (x := ?_) rfl (by kernel_rfl) (by kernel_rfl) (by kernel_rfl) (by kernel_rfl) (fun _ _ _ h => h) (Or.inl ⟨by rfl, ?_⟩) (by assumption) ?_
        rotate_left; focus (intro w hSw; (try dsimp only at hSw); go_simp; first | done | with_reducible rfl)
        refine tails_one (T := []) (i := 10) (o := _) rfl (by kernel_rfl) (fun K hK => ?_)
        go_simp
        ((with_reducible refine (awake4_any _).mono ?_); rintro rr w20 ⟨rfl, hb⟩; replace M := Lib.hid (M.out.below hb); clear hb k1 k2 k3 k4 k5 k6 k7 k8; obtain ⟨k1, k2⟩ := (M.out.blocks (w.heap.size, #[.float .f64 al, .float .f64 ah]) (by simp)).two; obtain ⟨k3, k4⟩ := (M.out.blocks (w7.heap.size + 1, #[.float .f64 ol, .float .f64 oh]) (by simp)).two; obtain ⟨k5, k6⟩ := (M.out.blocks (w9.heap.size + 1, #[.float .f64 ql, .float .f64 qh]) (by simp)).two; obtain ⟨k7, k8⟩ := (M.out.blocks (w11.heap.size + 1, #[.float .f64 yl, .float .f64 yh]) (by simp)).two)
        try go_wp2_with fail
        refine hK.out _ _ (Or.inr ⟨k1, k2, k3, k4, k5, k6, k7, k8⟩) (fun hHeld => ?_)
        clear hK K hS
        have hS := hHeld.resolve_left (by decide)
        clear hHeld
        refine tails_take (T := []) (i := 11) (o := _) (x := ?_) rfl (by kernel_rfl) (by kernel_rfl) (by kernel_rfl) (by kernel_rfl) (fun _ _ _ h => h) (Or.inl ⟨by rfl, ?_⟩) (by assumption) ?_
        rotate_left; focus (intro w hSw; (try dsimp only at hSw); go_simp; first | done | with_reducible rfl)
        refine tails_one (T := []) (i := 12) (o := _) rfl (by kernel_rfl) (fun K hK => ?_)
        go_simp
        refine hK.out _ _ (Or.inr ⟨k1, k2, k3, k4, k5, k6, k7, k8⟩) (fun hHeld => ?_)
        clear hK K hS
        have hS := hHeld.resolve_left (by decide)
        clear hHeld
        clear hS k1 k2 k3 k4 k5 k6 k7 k8
        refine tails_done (by kernel_rfl) ?_ _
        refine NoPanic.normal ?_
        go_wp2
        go_ret
        exact ⟨rfl, M.out.base⟩
      · skip
        replace M := Lib.hid M.out.drew
        obtain ⟨k1, k2⟩ := (M.out.blocks (w.heap.size, #[.float .f64 al, .float .f64 ah]) (by simp)).two
        obtain ⟨k3, k4⟩ := (M.out.blocks (w7.heap.size + 1, #[.float .f64 ol, .float .f64 oh]) (by simp)).two
        obtain ⟨k5, k6⟩ := (M.out.blocks (w9.heap.size + 1, #[.float .f64 ql, .float .f64 qh]) (by simp)).two
        obtain ⟨k7, k8⟩ := (M.out.blocks (w11.heap.size + 1, #[.float .f64 yl, .float .f64 yh]) (by simp)).two
        refine wp_region_noPanic ?_
        refine tails_region (S := fun w' => w'.cell? ⟨w.heap.size, 0, none⟩ = some (.float .f64 al) ∧ w'.cell? ⟨w.heap.size, 1, none⟩ = some (.float .f64 ah) ∧ w'.cell? ⟨w7.heap.size + 1, 0, none⟩ = some (.float .f64 ol) ∧ w'.cell? ⟨w7.heap.size + 1, 1, none⟩ = some (.float .f64 oh) ∧ w'.cell? ⟨w9.heap.size + 1, 0, none⟩ = some (.float .f64 ql) ∧ w'.cell? ⟨w9.heap.size + 1, 1, none⟩ = some (.float .f64 qh) ∧ w'.cell? ⟨w11.heap.size + 1, 0, none⟩ = some (.float .f64 yl) ∧ w'.cell? ⟨w11.heap.size + 1, 1, none⟩ = some (.float .f64 yh)) [] (by kernel_rfl) ?_ (fun hS => ?_)
        · exact ⟨k1, k2, k3, k4, k5, k6, k7, k8⟩
        refine tails_take (T := []) (i := 0) (o := _) (x := ?_) rfl (by kernel_rfl) (by kernel_rfl) (by kernel_rfl) (by kernel_rfl) (fun _ _ _ h => h) (Or.inl ⟨by rfl, ?_⟩) (by assumption) ?_
        rotate_left; focus (intro w hSw; (try dsimp only at hSw); go_simp; first | done | with_reducible rfl)
        refine tails_one (T := []) (i := 1) (o := _) rfl (by kernel_rfl) (fun K hK => ?_)
        go_simp
        ((with_reducible refine (cH3.out _).mono ?_); rintro rr w20 ⟨rfl, hb⟩; replace M := Lib.hid (M.out.below hb); clear hb k1 k2 k3 k4 k5 k6 k7 k8; obtain ⟨k1, k2⟩ := (M.out.blocks (w.heap.size, #[.float .f64 al, .float .f64 ah]) (by simp)).two; obtain ⟨k3, k4⟩ := (M.out.blocks (w7.heap.size + 1, #[.float .f64 ol, .float .f64 oh]) (by simp)).two; obtain ⟨k5, k6⟩ := (M.out.blocks (w9.heap.size + 1, #[.float .f64 ql, .float .f64 qh]) (by simp)).two; obtain ⟨k7, k8⟩ := (M.out.blocks (w11.heap.size + 1, #[.float .f64 yl, .float .f64 yh]) (by simp)).two)
        try go_wp2_with fail
        refine hK.out _ _ (Or.inr ⟨k1, k2, k3, k4, k5, k6, k7, k8⟩) (fun hHeld => ?_)
        clear hK K hS
        have hS := hHeld.resolve_left (by decide)
        clear hHeld
        refine tails_take (T := []) (i := 2) (o := _) (x := ?_) rfl (by kernel_rfl) (by kernel_rfl) (by kernel_rfl) (by kernel_rfl) (fun _ _ _ h => h) (Or.inl ⟨by rfl, ?_⟩) (by assumption) ?_
        rotate_left; focus (intro w hSw; (try dsimp only at hSw); go_simp; first | done | with_reducible rfl)
        refine tails_take (T := []) (i := 3) (o := _) (x := undef) rfl (by kernel_rfl) (by kernel_rfl) (by kernel_rfl) (by kernel_rfl) (fun _ _ _ h => h) (Or.inr ⟨by rfl, rfl⟩) (by assumption) ?_
        refine tails_take (T := []) (i := 4) (o := _) (x := undef) rfl (by kernel_rfl) (by kernel_rfl) (by kernel_rfl) (by kernel_rfl) (fun _ _ _ h => h) (Or.inr ⟨by rfl, rfl⟩) (by assumption) ?_
        refine tails_take (T := []) (i := 5) (o := _) (x := undef) rfl (by kernel_rfl) (by kernel_rfl) (by kernel_rfl) (by kernel_rfl) (fun _ _ _ h => h) (Or.inr ⟨by rfl, rfl⟩) (by assumption) ?_
        refine tails_one (T := []) (i := 6) (o := _) rfl (by kernel_rfl) (fun K hK => ?_)
        go_simp
        refine hK.out _ _ (Or.inr ⟨k1, k2, k3, k4, k5, k6, k7, k8⟩) (fun hHeld => ?_)
        clear hK K hS
        have hS := hHeld.resolve_left (by decide)
        clear hHeld
        refine tails_one (T := []) (i := 7) (o := _) rfl (by kernel_rfl) (fun K hK => ?_)
        go_simp
        refine hK.out _ _ (Or.inr ⟨k1, k2, k3, k4, k5, k6, k7, k8⟩) (fun hHeld => ?_)
        clear hK K hS
        have hS := hHeld.resolve_left (by decide)
        clear hHeld
        refine tails_take (T := []) (i := 8) (o := _) (x := ?_) rfl (by kernel_rfl) (by kernel_rfl) (by kernel_rfl) (by kernel_rfl) (fun _ _ _ h => h) (Or.inl ⟨by rfl, ?_⟩) (by assumption) ?_
        rotate_left; focus (intro w hSw; (try dsimp only at hSw); go_simp; first | done | with_reducible rfl)
        refine tails_take (T := []) (i := 9) (o := _) (x := ?_) rfl (by kernel_rfl) (by kernel_rfl) (by kernel_rfl) (by kernel_rfl) (fun _ _ _ h => h) (Or.inl ⟨by rfl, ?_⟩) (by assumption) ?_
        rotate_left; focus (intro w hSw; (try dsimp only at hSw); go_simp; first | done | with_reducible rfl)
        refine tails_one (T := []) (i := 10) (o := _) rfl (by kernel_rfl) (fun K hK => ?_)
        go_simp
        ((with_reducible refine (awake4_any _).mono ?_); rintro rr w20 ⟨rfl, hb⟩; replace M := Lib.hid (M.out.below hb); clear hb k1 k2 k3 k4 k5 k6 k7 k8; obtain ⟨k1, k2⟩ := (M.out.blocks (w.heap.size, #[.float .f64 al, .float .f64 ah]) (by simp)).two; obtain ⟨k3, k4⟩ := (M.out.blocks (w7.heap.size + 1, #[.float .f64 ol, .float .f64 oh]) (by simp)).two; obtain ⟨k5, k6⟩ := (M.out.blocks (w9.heap.size + 1, #[.float .f64 ql, .float .f64 qh]) (by simp)).two; obtain ⟨k7, k8⟩ := (M.out.blocks (w11.heap.size + 1, #[.float .f64 yl, .float .f64 yh]) (by simp)).two)
        try go_wp2_with fail
        refine hK.out _ _ (Or.inr ⟨k1, k2, k3, k4, k5, k6, k7, k8⟩) (fun hHeld => ?_)
        clear hK K hS
        have hS := hHeld.resolve_left (by decide)
        clear hHeld
        refine tails_take (T := []) (i := 11) (o := _) (x := ?_) rfl (by kernel_rfl) (by kernel_rfl) (by kernel_rfl) (by kernel_rfl) (fun _ _ _ h => h) (Or.inl ⟨by rfl, ?_⟩) (by assumption) ?_
        rotate_left; focus (intro w hSw; (try dsimp only at hSw); go_simp; first | done | with_reducible rfl)
        refine tails_one (T := []) (i := 12) (o := _) rfl (by kernel_rfl) (fun K hK => ?_)
        go_simp
        refine hK.out _ _ (Or.inr ⟨k1, k2, k3, k4, k5, k6, k7, k8⟩) (fun hHeld => ?_)
        clear hK K hS
        have hS := hHeld.resolve_left (by decide)
        clear hHeld
        clear hS k1 k2 k3 k4 k5 k6 k7 k8
        refine tails_done (by kernel_rfl) ?_ _
        refine NoPanic.normal ?_
        go_wp2
        go_ret
        exact ⟨rfl, M.out.base⟩

end Go.Proofs.Ytpgbcdplicodmaa

namespace Go.Proofs.Ytpgbcdplicodmaa
open Go.RowKit

theorem ne_false {x y : Nat} (lx : x < 18446744073709551616) (ly : y < 18446744073709551616) (rx : rightB x = true) (ry : rightB y = true) (h : val x = val y) : (FloatKind.f64.format.order x y != some Ordering.eq) = false := by
  unfold bne
  rw [order_eq x y lx ly rx ry, decide_eq_true h]; rfl
theorem hull_vals {a b : Res} (fa : Fit a) (fb : Fit b) : val (hullR a b).lo = min (val a.lo) (val b.lo) ∧ val (hullR a b).hi = max (val a.hi) (val b.hi) :=
  ⟨(min_facts a.lo b.lo fa.lo fb.lo fa.rlo fb.rlo).2.2, (max_facts a.hi b.hi fa.hi fb.hi fa.rhi fb.rhi).2.2⟩
theorem min_self (a : Nat) : minW a a = a := by unfold minW; split <;> rfl
theorem max_self (a : Nat) : maxW a a = a := by unfold maxW; split <;> rfl
theorem hull_self (r : Res) : (hullR r r).lo = r.lo ∧ (hullR r r).hi = r.hi := ⟨min_self _, max_self _⟩
theorem m1_u1 : val m1 ≤ val u1 := by decide +kernel

theorem sinU_fit {al ah : Nat} (t1 : Turn al) (t2 : Turn ah) : Fit (sinU al ah) := by
  unfold sinU
  cases hasB al ah 4604930618986332160
  · exact (sin_fits t1 t2).2.1
  · exact hull_fit (sin_fits t1 t2).2.1 m1_fit
theorem cosU_fit {al ah : Nat} (t1 : Turn al) (t2 : Turn ah) : Fit (cosU al ah) := by
  unfold cosU
  cases hasB al ah 4602678819172646912
  · exact (sin_fits t1 t2).2.2
  · exact hull_fit (sin_fits t1 t2).2.2 m1_fit

theorem sin2_vals {al ah : Nat} (t1 : Turn al) (t2 : Turn ah) : val m1 ≤ val (sin2 al ah).lo ∧ val (sin2 al ah).hi ≤ val u1 := by
  obtain ⟨a1, a2, a3⟩ := sinR_facts t1
  obtain ⟨b1, b2, b3⟩ := sinR_facts t2
  obtain ⟨h1, h2⟩ := hull_vals a1 b1
  have e1 : (sin2 al ah).lo = (hullR (sinR al) (sinR ah)).lo := rfl
  have e2 : (sin2 al ah).hi = (hullR (sinR al) (sinR ah)).hi := rfl
  rw [e1, e2, h1, h2]; omega
theorem cos2_vals {al ah : Nat} (t1 : Turn al) (t2 : Turn ah) : val m1 ≤ val (cos2 al ah).lo ∧ val (cos2 al ah).hi = max (val (cosR al).hi) (val (cosR ah).hi) ∧ val (cos2 al ah).hi ≤ val u1 := by
  obtain ⟨a1, a2, a3⟩ := cosR_facts t1
  obtain ⟨b1, b2, b3⟩ := cosR_facts t2
  obtain ⟨h1, h2⟩ := hull_vals a1 b1
  have e1 : (cos2 al ah).lo = (hullR (cosR al) (cosR ah)).lo := rfl
  have e2 : (cos2 al ah).hi = (hullR (cosR al) (cosR ah)).hi := rfl
  rw [e1, e2, h1, h2]; omega
theorem sin3_vals {al ah : Nat} (t1 : Turn al) (t2 : Turn ah) : val m1 ≤ val (sin3 al ah).lo ∧ (hasB al ah 4598175219545276416 = true → val (sin3 al ah).hi = val u1) := by
  obtain ⟨v1, v2⟩ := sin2_vals t1 t2
  obtain ⟨h1, h2⟩ := hull_vals (sin_fits t1 t2).1 u1_fit
  have e1 : val (oneR u1).lo = val u1 := rfl
  have e2 : val (oneR u1).hi = val u1 := rfl
  have k := m1_u1
  have d := cond_lo (hasB al ah 4598175219545276416) (hullR (sin2 al ah) (oneR u1)) (sin2 al ah)
  have d1 : (sin3 al ah).lo = cond (hasB al ah 4598175219545276416) (hullR (sin2 al ah) (oneR u1)).lo (sin2 al ah).lo := d.1
  have d2 : (sin3 al ah).hi = cond (hasB al ah 4598175219545276416) (hullR (sin2 al ah) (oneR u1)).hi (sin2 al ah).hi := d.2
  rw [d1, d2]
  cases hasB al ah 4598175219545276416
  · exact ⟨v1, fun h => by cases h⟩
  · refine ⟨?_, fun _ => ?_⟩
    · show val m1 ≤ val (hullR (sin2 al ah) (oneR u1)).lo
      rw [h1, e1]; omega
    · show val (hullR (sin2 al ah) (oneR u1)).hi = val u1
      rw [h2, e2]; omega
theorem sinU_vals {al ah : Nat} (t1 : Turn al) (t2 : Turn ah) : (hasB al ah 4598175219545276416 = true → val (sinU al ah).hi = val u1) ∧ (hasB al ah 4604930618986332160 = true → val (sinU al ah).lo = val m1) := by
  obtain ⟨v1, v2⟩ := sin3_vals t1 t2
  obtain ⟨h1, h2⟩ := hull_vals (sin_fits t1 t2).2.1 m1_fit
  have e1 : val (oneR m1).lo = val m1 := rfl
  have e2 : val (oneR m1).hi = val m1 := rfl
  have k := m1_u1
  have d := cond_lo (hasB al ah 4604930618986332160) (hullR (sin3 al ah) (oneR m1)) (sin3 al ah)
  have d1 : (sinU al ah).lo = cond (hasB al ah 4604930618986332160) (hullR (sin3 al ah) (oneR m1)).lo (sin3 al ah).lo := d.1
  have d2 : (sinU al ah).hi = cond (hasB al ah 4604930618986332160) (hullR (sin3 al ah) (oneR m1)).hi (sin3 al ah).hi := d.2
  rw [d1, d2]
  cases hasB al ah 4604930618986332160
  · exact ⟨v2, fun h => by cases h⟩
  · refine ⟨fun h => ?_, fun _ => ?_⟩
    · have := v2 h
      show val (hullR (sin3 al ah) (oneR m1)).hi = val u1
      rw [h2, e2]; omega
    · show val (hullR (sin3 al ah) (oneR m1)).lo = val m1
      rw [h1, e1]; omega
theorem cosU_vals {al ah : Nat} (t1 : Turn al) (t2 : Turn ah) : (hasB al ah 4602678819172646912 = true → val (cosU al ah).lo = val m1) ∧ (val (cosR al).hi = val u1 ∨ val (cosR ah).hi = val u1 → val (cosU al ah).hi = val u1) := by
  obtain ⟨v1, v2, v3⟩ := cos2_vals t1 t2
  obtain ⟨h1, h2⟩ := hull_vals (sin_fits t1 t2).2.2 m1_fit
  have e1 : val (oneR m1).lo = val m1 := rfl
  have e2 : val (oneR m1).hi = val m1 := rfl
  have k := m1_u1
  have d := cond_lo (hasB al ah 4602678819172646912) (hullR (cos2 al ah) (oneR m1)) (cos2 al ah)
  have d1 : (cosU al ah).lo = cond (hasB al ah 4602678819172646912) (hullR (cos2 al ah) (oneR m1)).lo (cos2 al ah).lo := d.1
  have d2 : (cosU al ah).hi = cond (hasB al ah 4602678819172646912) (hullR (cos2 al ah) (oneR m1)).hi (cos2 al ah).hi := d.2
  rw [d1, d2]
  cases hasB al ah 4602678819172646912
  · refine ⟨(fun h => by cases h), fun h => ?_⟩
    show val (cos2 al ah).hi = val u1
    rcases h with h | h <;> omega
  · refine ⟨fun _ => ?_, fun h => ?_⟩
    · show val (hullR (cos2 al ah) (oneR m1)).lo = val m1
      rw [h1, e1]; omega
    · show val (hullR (cos2 al ah) (oneR m1)).hi = val u1
      rw [h2, e2]
      rcases h with h | h <;> omega

theorem has_val {a b x : Nat} (la : a < 18446744073709551616) (lb : b < 18446744073709551616) (lx : x < 18446744073709551616) (rx : rightB x = true) (hr : ivR a b = true) : hasB a b x = decide (val a ≤ val x ∧ val x ≤ val b) := by
  obtain ⟨a1, a2, a3⟩ := ivR_parts hr
  unfold hasB rawLe
  rw [hr, order_le a x la lx a1 rx, order_le x b lx lb rx a2]
  unfold leB
  by_cases h1 : val a ≤ val x <;> by_cases h2 : val x ≤ val b <;> simp [h1, h2]
theorem has_low {a b x : Nat} (la : a < 18446744073709551616) (lb : b < 18446744073709551616) (lx : x < 18446744073709551616) (rx : rightB x = true) (hr : ivR a b = true) (h : hasB a b x = false) : hasB a a x = false ∧ hasB b b x = false := by
  obtain ⟨a1, a2, a3⟩ := ivR_parts hr
  rw [has_val la lb lx rx hr, decide_eq_false_iff_not] at h
  rw [has_val la la lx rx (ivR_one a a1), has_val lb lb lx rx (ivR_one b a2)]
  exact ⟨decide_eq_false (by omega), decide_eq_false (by omega)⟩

theorem sinU_plain {al ah : Nat} (h1 : hasB al ah 4598175219545276416 = false) (h2 : hasB al ah 4604930618986332160 = false) : sinU al ah = sin2 al ah := by
  unfold sinU sin3
  rw [h1, h2]; rfl
theorem cosU_plain {al ah : Nat} (h : hasB al ah 4602678819172646912 = false) : cosU al ah = cos2 al ah := by
  unfold cosU
  rw [h]; rfl

theorem cos_ends : (cosR 0).hi = u1 ∧ (cosR u1).hi = u1 := by decide +kernel

theorem exactlaw_any (al ah : Nat) (w : World) (la : al < 18446744073709551616) (ha : ah < 18446744073709551616) :
    Calls Try.prog 9 #[.agg #[.float .f64 al, .float .f64 ah]] w fun r w' => r = .returned (.bool true) ∧ Below w.heap.size w w' := by
  have cF := fun w => fine_any al ah w la ha
  cases h : fineB al ah
  · rw [h] at cF
    exact exactlaw_none al ah w (Lib.hid cF)
  · rw [h] at cF
    obtain ⟨t1, t2, hr, hle⟩ := fine_turn la ha h
    have fa : fineB al al = true := by
      have := t1.lo
      have := t1.hi
      unfold fineB leB
      rw [ivR_one al t1.right, val_nil, decide_eq_true t1.lo, decide_eq_true t1.hi]; rfl
    have fh : fineB ah ah = true := by
      unfold fineB leB
      rw [ivR_one ah t2.right, val_nil, decide_eq_true t2.lo, decide_eq_true t2.hi]; rfl
    have su := sinU_fit t1 t2
    have cu := cosU_fit t1 t2
    obtain ⟨s1, s2⟩ := sinU_vals t1 t2
    obtain ⟨c1, c2⟩ := cosU_vals t1 t2
    have l1 : (u1 : Nat) < 18446744073709551616 := by decide
    have r1 : rightB u1 = true := by decide
    have l2 : (m1 : Nat) < 18446744073709551616 := by decide
    have r2 : rightB m1 = true := by decide
    refine exactlaw_walk al ah (sinU al ah).lo (sinU al ah).hi (cosU al ah).lo (cosU al ah).hi (sinU al al).lo (sinU al al).hi (cosU al al).lo (cosU al al).hi (sinU ah ah).lo (sinU ah ah).hi (cosU ah ah).lo (cosU ah ah).hi
      (hasB al ah 4598175219545276416) (hasB al ah 4604930618986332160) (hasB al ah 4602678819172646912) _ _ w (Lib.hid cF) (Lib.hid fun w => sin_any al ah w la ha h) (Lib.hid fun w => sin_any al al w la la fa) (Lib.hid fun w => sin_any ah ah w ha ha fh)
      (Lib.hid fun w => has_any al ah _ w la ha) (Lib.hid fun w => has_any al ah _ w la ha) (Lib.hid fun w => has_any al ah _ w la ha)
      (Lib.hid fun g => ne_false su.hi l1 su.rhi r1 (s1 g)) (Lib.hid fun g => ne_false su.lo l2 su.rlo r2 (s2 g)) (Lib.hid fun g => ne_false cu.lo l2 cu.rlo r2 (c1 g)) rfl rfl (Lib.hid fun g => ?_) (Lib.hid fun g1 g2 => ?_) (Lib.hid fun g => ?_)
    · refine ne_false cu.hi l1 cu.rhi r1 (c2 ?_)
      rcases Bool.or_eq_true _ _ |>.mp g with g | g
      · rw [order_eq al 0 la (by decide) t1.right (by decide)] at g
        have e : al = 0 := val_inj la (by decide) t1.right (by decide) (of_decide_eq_true g)
        left; rw [e, cos_ends.1]
      · have g' : (FloatKind.f64.format.order ah u1 == some Ordering.eq) = true := g
        rw [order_eq ah u1 ha l1 t2.right r1] at g'
        have e : ah = u1 := val_inj ha l1 t2.right r1 (of_decide_eq_true g')
        right; rw [e, cos_ends.2]
    · obtain ⟨p1, p2⟩ := has_low la ha (by decide) (by decide) hr g1
      obtain ⟨q1, q2⟩ := has_low la ha (by decide) (by decide) hr g2
      rw [sinU_plain g1 g2, sinU_plain p1 q1, sinU_plain p2 q2]
      have d1 := hull_self (sinR al)
      have d2 := hull_self (sinR ah)
      have e1 : (sin2 al al).lo = (sinR al).lo ∧ (sin2 al al).hi = (sinR al).hi := d1
      have e2 : (sin2 ah ah).lo = (sinR ah).lo ∧ (sin2 ah ah).hi = (sinR ah).hi := d2
      rw [e1.1, e1.2, e2.1, e2.2]
      exact hull_call (sinR_facts t1).1 (sinR_facts t2).1
    · obtain ⟨p1, p2⟩ := has_low la ha (by decide) (by decide) hr g
      rw [cosU_plain g, cosU_plain p1, cosU_plain p2]
      have d1 := hull_self (cosR al)
      have d2 := hull_self (cosR ah)
      have e1 : (cos2 al al).lo = (cosR al).lo ∧ (cos2 al al).hi = (cosR al).hi := d1
      have e2 : (cos2 ah ah).lo = (cosR ah).lo ∧ (cos2 ah ah).hi = (cosR ah).hi := d2
      rw [e1.1, e1.2, e2.1, e2.2]
      exact hull_call (cosR_facts t1).1 (cosR_facts t2).1

end Go.Proofs.Ytpgbcdplicodmaa

namespace Go.Proofs.Ytpgbcdplicodmaa
open Go.ChangeShapes Go.WideShapes Go.ChangeAt Go.RowKit Go.Joins

theorem Try.own : ownKnob Try.prog.godebug = none := by kernel_rfl
theorem Try.cellsIv : Try.prog.cellsOf 39 = 2 := by kernel_rfl

theorem trod_float {H : Type} {enc : TypeId × Value → H} {P : Program} {w : World} {base : Nat} {spare : Nat → Bool} {held : Bool} {fuel : Nat} {t : TypeId} {k : FloatKind} {v : Value} {x : DataW H × List MemPlace} (ht : P.underlying t = some (.float k)) (h : DataW.trod enc P w base spare held fuel t [v] = some x) :
    ∃ n, v = .float k n ∧ x = (.lit (.float k n), []) ∧ (Lit.float k n).wf = true := by
  cases fuel with
  | zero => simp [DataW.trod] at h
  | succ n =>
    unfold DataW.trod at h
    rw [ht] at h
    split at h <;> simp_all

set_option maxRecDepth 100000 in
theorem open_iv {H : Type} {enc : TypeId × Value → H} {W : World} {base : Nat} {spare : Nat → Bool} {held : Bool} {r : Reach} {b0 : Nat} {v : Value} {d : DataW H} {p : List MemPlace} (hv : Value.okWide Try.prog W r b0 39 v) (h : DataW.Trod enc Try.prog W base spare held 39 v d p) :
    ∃ lo hi, v = .agg #[.float .f64 lo, .float .f64 hi] ∧ d = .agg [.lit (.float .f64 lo), .lit (.float .f64 hi)] ∧ p = [] ∧ (Lit.float .f64 lo).wf = true ∧ (Lit.float .f64 hi).wf = true := by
  obtain ⟨c0, c1, y0, y1, m, rfl, rfl, rfl, hy0, hy1⟩ := open_agg2 Try.underlying39 (by kernel_rfl) Try.cellsIv hv h
  obtain ⟨lo, rfl, rfl, w0⟩ := trod_float Try.underlying22 hy0
  obtain ⟨hi, rfl, rfl, w1⟩ := trod_float Try.underlying22 hy1
  exact ⟨lo, hi, rfl, rfl, rfl, w0, w1⟩

set_option maxRecDepth 100000 in
theorem shut_iv {H : Type} {enc : TypeId × Value → H} {W : World} {base : Nat} {spare : Nat → Bool} {held : Bool} {lo hi : Nat} (w0 : (Lit.float .f64 lo).wf = true) (w1 : (Lit.float .f64 hi).wf = true) :
    DataW.Trod enc Try.prog W base spare held 39 (.agg #[.float .f64 lo, .float .f64 hi]) (.agg [.lit (.float .f64 lo), .lit (.float .f64 hi)]) [] :=
  shut_agg2 (y0 := (.lit (.float .f64 lo), [])) (y1 := (.lit (.float .f64 hi), [])) Try.underlying39 (by kernel_rfl) Try.cellsIv ⟨1, by simp [DataW.trod, Try.underlying22, w0]⟩ ⟨1, by simp [DataW.trod, Try.underlying22, w1]⟩

end Go.Proofs.Ytpgbcdplicodmaa

namespace Go.Proofs.Ytpgbcdplicodmaa
open Go.ChangeShapes Go.WideShapes Go.ChangeAt Go.RowKit

set_option maxRecDepth 100000 in
theorem trigExact_lifted (os : Os) (started : os.Started) (H : Type) (enc : TypeId × Value → H) :
    ReturnsInHanded {} Try.checked os 9 .any (Rows.trigExactSpec.pre6 enc Try.prog Try.f9 Rows.trigExactRow.domain false) (Rows.trigExactSpec.post enc Try.prog Try.f9 false true false false) := by
  refine returnsInHanded_of_change (C := Try.checked) Try.own started (by kernel_rfl) Try.func9
    (ChangeSpec.witness6 (enc := enc) (C := Try.checked) false ⟨#[], #[.agg #[.float .f64 0, .float .f64 0]], []⟩ 8 (by kernel_rfl) (by kernel_rfl) (by kernel_rfl) (by kernel_rfl)) ?_
  intro W base args ds gs before hval0 hW hcnd _
  have hval : ∀ (j : Nat) t v, Try.f9.params[j]? = some t → args[j]? = some v → Value.okWide Try.prog W .any base t v := hval0
  have hW' := hW
  obtain ⟨p, q, hA0, hV, rfl, hfz, hnd⟩ := hW
  have hA : DataW.TrodAll enc Try.prog W 0 (fun _ => true) true Try.f9.params.toList args.toList ds p := hA0
  rw [Try.params9] at hA hval
  obtain ⟨v0, d0, rfl, rfl, h0⟩ := trodAll_one hA
  obtain ⟨rfl, rfl⟩ := trodVars_none hV
  obtain ⟨al, ah, rfl, rfl, rfl, wa, wb⟩ := open_iv (hval 0 39 v0 rfl rfl) h0
  clear hA0 hval0
  simp only [List.append_nil] at hW'
  have la : al < 18446744073709551616 := by simpa [Lit.wf] using wa
  have lb : ah < 18446744073709551616 := by simpa [Lit.wf] using wb
  refine (exactlaw_any al ah W la lb).mono fun e W' ⟨he, hw⟩ => ?_
  subst he
  refine ⟨_, rfl, _, _, _, [], [], [], hW', trodAll_mk1 (shut_bool Try.underlying4 _), trodAll_mk1 (shut_iv wa wb), rfl, hw.frame _, fun h => by cases h⟩

theorem trigExact_holds : Rows.TrigExactSaid :=
  OpenClaim.holds_of_wide 9 Try.f9 rfl rfl rfl rfl rfl rfl rfl ⟨rfl, rfl, rfl, rfl, rfl⟩ rfl rfl rfl rfl rfl (by kernel_rfl) Try.func9 (by kernel_rfl)
    (of_decide_eq_true (by kernel_rfl)) (by unfold Func.isWrapper; first | (rw [if_pos (by decide +kernel)]; kernel_rfl) | (rw [if_neg (by decide +kernel)]; exact ⟨rfl, rfl⟩))
    (fun os started H enc _ => trigExact_lifted os started H enc)

end Go.Proofs.Ytpgbcdplicodmaa
