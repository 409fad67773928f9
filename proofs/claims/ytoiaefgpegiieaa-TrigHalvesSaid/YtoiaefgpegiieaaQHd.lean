
/- TrigHalves: for every interval that comes in. -/
import Derived.Test.YtoiaefgpegiieaaLanP
import Derived.Deep.RegionHeld3
import Derived.Test.YtoiaefgpegiieaaQHm
import Derived.Test.YtoiaefgpegiieaaQTcX
import Derived.Test.YtoiaefgpegiieaaQFD
namespace Go.Proofs.Ytoiaefgpegiieaa
open Go.RowKit
attribute [local go_sem] run_store_float

theorem eq_floats (x y : Nat) (w : World) : (Op.equalIn 9999 22 (.float .f64 x) (.float .f64 y)).run Try.prog w = .ok (Op.floatEq .f64 x y) w := by
  have hf := run_underlying Try.underlying22 (w := w)
  show (Op.equalIn (9998 + 1) 22 _ _).run Try.prog w = _
  rw [Op.equalIn]
  simp only [Sem.run_bind, hf, Result.andThen]
  simp [go_sem]

section
variable {P : Program} {ops : Array Oper} {Q : Exit → Act → World → Prop} {md : Region.Mode} {S : World → Prop}
theorem lpx_ccccc_1 {a0 : Act} {B v : World} {l : List (Nat × Array Value)} {x : Nat × Array Value} (_ : Hid (Own B (x :: l) v)) {w0 : World} {L0 : Array Bool} (c1 c2 c3 c4 c5 m1 : Nat) (slots : List Nat) (N : Nat) (J : List (Nat × Array Value) → Act → Nat → List (Option Nat) → Act → World → Prop) (hok : latOkP [false, false, false, false, false] md ops L0 [c1, c2, c3, c4, c5] [m1] = true)
    (hsl : (slots.all fun s => decide (s < a0.tmps.size)) = true) (h0 : ∀ A : Act, (∀ s, s ∈ slots → s < A.tmps.size) → J l A 0 (List.replicate 1 none) A w0)
    (hS : ∀ k p a w, J l a0 k p a w → S w)
    (k1 : ∀ p a w, J l a0 0 p a w → wpOp P ops Q c1 (fun b v => J l a0 1 p b v) a w)
    (k2 : ∀ p a w, J l a0 1 p a w → wpOp P ops Q c2 (fun b v => J l a0 2 p b v) a w)
    (k3 : ∀ p a w, J l a0 2 p a w → wpOp P ops Q c3 (fun b v => J l a0 3 p b v) a w)
    (k4 : ∀ p a w, J l a0 3 p a w → wpOp P ops Q c4 (fun b v => J l a0 4 p b v) a w)
    (k5 : ∀ p a w, J l a0 4 p a w → wpOp P ops Q c5 (fun b v => J l a0 5 p b v) a w)
    (n1 : ∀ k p a w, p[0]? = some none → J l a0 k p a w → wpOp P ops Q m1 (fun b v => ∃ q, J l a0 k (p.set 0 (some q)) b v) a w)
    (fin : ∀ q1 a w, J l a0 5 [some q1] a w → wpAnyV P md ops Q S [] N (lstOf L0 [c1, c2, c3, c4, c5] [m1] 5 [true]) a w) :
    wpAnyV P md ops Q S [] (N + 6) L0 a0 w0 := by
  refine latP_from (pl := [false, false, false, false, false]) [c1, c2, c3, c4, c5] [m1] slots N 6 (J l) hok rfl hsl h0 hS (fun k i p a w hk hn hJ => ?_) (fun k i p a w hk hn hJ => ?_) (fun k m i p a w hm hp hJ => ?_) (fun p a w hp hall hJ => ?_)
  · rcases k with _ | _ | _ | _ | _ | k
    · obtain rfl : c1 = i := by simpa using hk
      exact k1 p a w hJ
    · obtain rfl : c2 = i := by simpa using hk
      exact k2 p a w hJ
    · obtain rfl : c3 = i := by simpa using hk
      exact k3 p a w hJ
    · obtain rfl : c4 = i := by simpa using hk
      exact k4 p a w hJ
    · obtain rfl : c5 = i := by simpa using hk
      exact k5 p a w hJ
    · simp at hk
  · rcases k with _ | _ | _ | _ | _ | k
    · exact absurd hn (by decide)
    · exact absurd hn (by decide)
    · exact absurd hn (by decide)
    · exact absurd hn (by decide)
    · exact absurd hn (by decide)
    · simp at hk
  · rcases m with _ | m
    · obtain rfl : m1 = i := by simpa using hm
      exact n1 k p a w hp hJ
    · simp at hm
  · obtain ⟨q1, rfl⟩ := fin_one hp hall
    exact fin q1 a w hJ
end

set_option maxRecDepth 100000 in
set_option maxHeartbeats 16000000 in
theorem meet4_walk {al ah bl bh ml mh : Nat} (w : World)
    (c1 : Hid (∀ w, Calls Try.prog 57 #[.agg #[.float .f64 al, .float .f64 ah], .agg #[.float .f64 bl, .float .f64 bh]] w fun r w' => r = .returned (.tuple #[.agg #[.float .f64 ml, .float .f64 mh], .bool true]) ∧ Below w.heap.size w w')) :
    Calls Try.prog 15 #[.agg #[.float .f64 al, .float .f64 ah], .agg #[.float .f64 bl, .float .f64 bh]] w fun r w' => r = .returned (.bool true) ∧ Below w.heap.size w w' := by
  have M := Lib.hid (((Own.nil w).made #[.float .f64 al, .float .f64 ah] 24).made #[.float .f64 bl, .float .f64 bh] 24)
  simp only [World.size_alloc] at M
  have eqF := eq_floats
  go_enter Try.func15, Try.ntmps15
  obtain ⟨k1, k2⟩ := (M.out.nth 1 rfl).two
  obtain ⟨k3, k4⟩ := (M.out.nth 0 rfl).two
  go_wp2_with fail
  refine (c1.out _).mono ?_
  rintro r w1_ ⟨rfl, hb⟩
  replace M := Lib.hid (M.out.below hb)
  clear hb
  clear k1 k2 k3 k4
  replace M := Lib.hid (M.out.made #[.float .f64 ml, .float .f64 mh] 24)
  go_wp2
  go_ret
  exact ⟨rfl, M.out.base⟩

set_option maxRecDepth 100000 in
set_option maxHeartbeats 16000000 in
theorem halves_unfine {ul uh : Nat} (w : World)
    (c1 : Hid (∀ w, Calls Try.prog 10 #[.agg #[.float .f64 ul, .float .f64 uh]] w fun r w' => r = .returned (.bool false) ∧ Below w.heap.size w w'))
    (c2 : Hid (∀ w, Calls Try.prog 11 #[] w fun r w' => r = .returned (.bool true) ∧ Below w.heap.size w w')) :
    Calls Try.prog 4 #[.agg #[.float .f64 ul, .float .f64 uh]] w fun r w' => r = .returned (.bool true) ∧ Below w.heap.size w w' := by
  have M := Lib.hid ((Own.nil w).made #[.float .f64 ul, .float .f64 uh] 24)
  have eqF := eq_floats
  go_enter Try.func4, Try.ntmps4
  obtain ⟨k1, k2⟩ := (M.out.nth 0 rfl).two
  go_wp2_with fail
  refine (c1.out _).mono ?_
  rintro r w1_ ⟨rfl, hb⟩
  replace M := Lib.hid (M.out.below hb)
  clear hb
  clear k1 k2
  go_wp2_with fail
  refine (c2.out _).mono ?_
  rintro r w2_ ⟨rfl, hb⟩
  replace M := Lib.hid (M.out.below hb)
  clear hb
  go_wp2
  go_ret
  exact ⟨rfl, M.out.base⟩

set_option maxRecDepth 100000 in
set_option maxHeartbeats 16000000 in
theorem halves_great {ul uh : Nat} (w : World)
    (c1 : Hid (∀ w, Calls Try.prog 10 #[.agg #[.float .f64 ul, .float .f64 uh]] w fun r w' => r = .returned (.bool true) ∧ Below w.heap.size w w'))
    (o_gtruh_819172646912 : ((FloatKind.f64.format.order uh 4602678819172646912 == some Ordering.gt) = true))
    (c2 : Hid (∀ w, Calls Try.prog 11 #[] w fun r w' => r = .returned (.bool true) ∧ Below w.heap.size w w')) :
    Calls Try.prog 4 #[.agg #[.float .f64 ul, .float .f64 uh]] w fun r w' => r = .returned (.bool true) ∧ Below w.heap.size w w' := by
  have M := Lib.hid ((Own.nil w).made #[.float .f64 ul, .float .f64 uh] 24)
  have eqF := eq_floats
  go_enter Try.func4, Try.ntmps4
  obtain ⟨k1, k2⟩ := (M.out.nth 0 rfl).two
  go_wp2_with fail
  refine (c1.out _).mono ?_
  rintro r w1_ ⟨rfl, hb⟩
  replace M := Lib.hid (M.out.below hb)
  clear hb
  clear k1 k2
  obtain ⟨k1, k2⟩ := (M.out.nth 0 rfl).two
  go_wp2_with fail
  refine (c2.out _).mono ?_
  rintro r w2_ ⟨rfl, hb⟩
  replace M := Lib.hid (M.out.below hb)
  clear hb
  clear k1 k2
  go_wp2
  go_ret
  exact ⟨rfl, M.out.base⟩

/-- Region 13. -/
def hvJ13 (w : World) (pb : Nat) (f_AlI f_AhI f_BlI f_BhI f_ClI f_ChI : Nat) (l : RowL) (a0 : Act) (k : Nat) (p : List (Option Nat)) (a : Act) (v : World) : Prop :=
  ∃ y1 y2 y3 y4 y5 z1 : Value, a = ((((((a0.put (some 79) y1).put (some 81) y2).put (some 83) y3).put (some 84) y4).put (some 85) y5).put (some 13) z1) ∧ (0 < k → y1 = .agg #[.float .f64 4607182418800017408, .float .f64 4607182418800017408]) ∧ (1 < k → y2 = .agg #[.float .f64 f_AlI, .float .f64 f_AhI]) ∧ (2 < k → y3 = .agg #[.float .f64 f_BlI, .float .f64 f_BhI]) ∧ (3 < k → y4 = .agg #[.float .f64 0, .float .f64 0]) ∧ (4 < k → y5 = .agg #[.float .f64 f_ClI, .float .f64 f_ChI]) ∧ (∀ q, p[0]? = some (some q) → z1 = .pointer (some ⟨q, 0, none⟩)) ∧ OwnF w ((pb, #[.int .i64 0]) :: l) [#[.float .f64 0, .float .f64 0]] p v
section
variable {w v : World} {pb : Nat} {f_AlI f_AhI f_BlI f_BhI f_ClI f_ChI : Nat} {l : RowL} {a0 a : Act} {p : List (Option Nat)}
theorem hvJ13_0 (h : hvJ13 w pb f_AlI f_AhI f_BlI f_BhI f_ClI f_ChI l a0 0 p a v) : ∃ y1 y2 y3 y4 y5 z1 : Value, a = ((((((a0.put (some 79) y1).put (some 81) y2).put (some 83) y3).put (some 84) y4).put (some 85) y5).put (some 13) z1) ∧ (∀ q, p[0]? = some (some q) → z1 = .pointer (some ⟨q, 0, none⟩)) ∧ OwnF w ((pb, #[.int .i64 0]) :: l) [#[.float .f64 0, .float .f64 0]] p v := by
  obtain ⟨y1, y2, y3, y4, y5, z1, ha, E1, E2, E3, E4, E5, G1, h⟩ := h
  exact ⟨y1, y2, y3, y4, y5, z1, ha, G1, h⟩
theorem hvJ13_1 (h : hvJ13 w pb f_AlI f_AhI f_BlI f_BhI f_ClI f_ChI l a0 1 p a v) : ∃ y2 y3 y4 y5 z1 : Value, a = ((((((a0.put (some 79) (.agg #[.float .f64 4607182418800017408, .float .f64 4607182418800017408])).put (some 81) y2).put (some 83) y3).put (some 84) y4).put (some 85) y5).put (some 13) z1) ∧ (∀ q, p[0]? = some (some q) → z1 = .pointer (some ⟨q, 0, none⟩)) ∧ OwnF w ((pb, #[.int .i64 0]) :: l) [#[.float .f64 0, .float .f64 0]] p v := by
  obtain ⟨y1, y2, y3, y4, y5, z1, ha, E1, E2, E3, E4, E5, G1, h⟩ := h
  obtain rfl := E1 (by decide)
  exact ⟨y2, y3, y4, y5, z1, ha, G1, h⟩
theorem hvJ13_2 (h : hvJ13 w pb f_AlI f_AhI f_BlI f_BhI f_ClI f_ChI l a0 2 p a v) : ∃ y3 y4 y5 z1 : Value, a = ((((((a0.put (some 79) (.agg #[.float .f64 4607182418800017408, .float .f64 4607182418800017408])).put (some 81) (.agg #[.float .f64 f_AlI, .float .f64 f_AhI])).put (some 83) y3).put (some 84) y4).put (some 85) y5).put (some 13) z1) ∧ (∀ q, p[0]? = some (some q) → z1 = .pointer (some ⟨q, 0, none⟩)) ∧ OwnF w ((pb, #[.int .i64 0]) :: l) [#[.float .f64 0, .float .f64 0]] p v := by
  obtain ⟨y1, y2, y3, y4, y5, z1, ha, E1, E2, E3, E4, E5, G1, h⟩ := h
  obtain rfl := E1 (by decide)
  obtain rfl := E2 (by decide)
  exact ⟨y3, y4, y5, z1, ha, G1, h⟩
theorem hvJ13_3 (h : hvJ13 w pb f_AlI f_AhI f_BlI f_BhI f_ClI f_ChI l a0 3 p a v) : ∃ y4 y5 z1 : Value, a = ((((((a0.put (some 79) (.agg #[.float .f64 4607182418800017408, .float .f64 4607182418800017408])).put (some 81) (.agg #[.float .f64 f_AlI, .float .f64 f_AhI])).put (some 83) (.agg #[.float .f64 f_BlI, .float .f64 f_BhI])).put (some 84) y4).put (some 85) y5).put (some 13) z1) ∧ (∀ q, p[0]? = some (some q) → z1 = .pointer (some ⟨q, 0, none⟩)) ∧ OwnF w ((pb, #[.int .i64 0]) :: l) [#[.float .f64 0, .float .f64 0]] p v := by
  obtain ⟨y1, y2, y3, y4, y5, z1, ha, E1, E2, E3, E4, E5, G1, h⟩ := h
  obtain rfl := E1 (by decide)
  obtain rfl := E2 (by decide)
  obtain rfl := E3 (by decide)
  exact ⟨y4, y5, z1, ha, G1, h⟩
theorem hvJ13_4 (h : hvJ13 w pb f_AlI f_AhI f_BlI f_BhI f_ClI f_ChI l a0 4 p a v) : ∃ y5 z1 : Value, a = ((((((a0.put (some 79) (.agg #[.float .f64 4607182418800017408, .float .f64 4607182418800017408])).put (some 81) (.agg #[.float .f64 f_AlI, .float .f64 f_AhI])).put (some 83) (.agg #[.float .f64 f_BlI, .float .f64 f_BhI])).put (some 84) (.agg #[.float .f64 0, .float .f64 0])).put (some 85) y5).put (some 13) z1) ∧ (∀ q, p[0]? = some (some q) → z1 = .pointer (some ⟨q, 0, none⟩)) ∧ OwnF w ((pb, #[.int .i64 0]) :: l) [#[.float .f64 0, .float .f64 0]] p v := by
  obtain ⟨y1, y2, y3, y4, y5, z1, ha, E1, E2, E3, E4, E5, G1, h⟩ := h
  obtain rfl := E1 (by decide)
  obtain rfl := E2 (by decide)
  obtain rfl := E3 (by decide)
  obtain rfl := E4 (by decide)
  exact ⟨y5, z1, ha, G1, h⟩
theorem hvJ13_fin {q1 : Nat} (h : hvJ13 w pb f_AlI f_AhI f_BlI f_BhI f_ClI f_ChI l a0 5 [some q1] a v) : a = ((((((a0.put (some 79) (.agg #[.float .f64 4607182418800017408, .float .f64 4607182418800017408])).put (some 81) (.agg #[.float .f64 f_AlI, .float .f64 f_AhI])).put (some 83) (.agg #[.float .f64 f_BlI, .float .f64 f_BhI])).put (some 84) (.agg #[.float .f64 0, .float .f64 0])).put (some 85) (.agg #[.float .f64 f_ClI, .float .f64 f_ChI])).put (some 13) (.pointer (some ⟨q1, 0, none⟩))) ∧ OwnF w ((pb, #[.int .i64 0]) :: l) [#[.float .f64 0, .float .f64 0]] [some q1] v := by
  obtain ⟨y1, y2, y3, y4, y5, z1, ha, E1, E2, E3, E4, E5, G1, h⟩ := h
  obtain rfl := E1 (by decide)
  obtain rfl := E2 (by decide)
  obtain rfl := E3 (by decide)
  obtain rfl := E4 (by decide)
  obtain rfl := E5 (by decide)
  obtain rfl := G1 _ rfl
  exact ⟨ha, h⟩
end

/-- Region 14. -/
def hvJ14 (w : World) (pb : Nat) (f_DlI f_DhI f_ElI f_EhI f_FlI f_FhI : Nat) (l : RowL) (a0 : Act) (k : Nat) (p : List (Option Nat)) (a : Act) (v : World) : Prop :=
  ∃ y1 y2 y3 y4 y5 z1 : Value, a = ((((((a0.put (some 86) y1).put (some 88) y2).put (some 90) y3).put (some 91) y4).put (some 92) y5).put (some 14) z1) ∧ (0 < k → y1 = .agg #[.float .f64 4607182418800017408, .float .f64 4607182418800017408]) ∧ (1 < k → y2 = .agg #[.float .f64 f_DlI, .float .f64 f_DhI]) ∧ (2 < k → y3 = .agg #[.float .f64 f_ElI, .float .f64 f_EhI]) ∧ (3 < k → y4 = .agg #[.float .f64 0, .float .f64 0]) ∧ (4 < k → y5 = .agg #[.float .f64 f_FlI, .float .f64 f_FhI]) ∧ (∀ q, p[0]? = some (some q) → z1 = .pointer (some ⟨q, 0, none⟩)) ∧ OwnF w ((pb, #[.int .i64 0]) :: l) [#[.float .f64 0, .float .f64 0]] p v
section
variable {w v : World} {pb : Nat} {f_DlI f_DhI f_ElI f_EhI f_FlI f_FhI : Nat} {l : RowL} {a0 a : Act} {p : List (Option Nat)}
theorem hvJ14_0 (h : hvJ14 w pb f_DlI f_DhI f_ElI f_EhI f_FlI f_FhI l a0 0 p a v) : ∃ y1 y2 y3 y4 y5 z1 : Value, a = ((((((a0.put (some 86) y1).put (some 88) y2).put (some 90) y3).put (some 91) y4).put (some 92) y5).put (some 14) z1) ∧ (∀ q, p[0]? = some (some q) → z1 = .pointer (some ⟨q, 0, none⟩)) ∧ OwnF w ((pb, #[.int .i64 0]) :: l) [#[.float .f64 0, .float .f64 0]] p v := by
  obtain ⟨y1, y2, y3, y4, y5, z1, ha, E1, E2, E3, E4, E5, G1, h⟩ := h
  exact ⟨y1, y2, y3, y4, y5, z1, ha, G1, h⟩
theorem hvJ14_1 (h : hvJ14 w pb f_DlI f_DhI f_ElI f_EhI f_FlI f_FhI l a0 1 p a v) : ∃ y2 y3 y4 y5 z1 : Value, a = ((((((a0.put (some 86) (.agg #[.float .f64 4607182418800017408, .float .f64 4607182418800017408])).put (some 88) y2).put (some 90) y3).put (some 91) y4).put (some 92) y5).put (some 14) z1) ∧ (∀ q, p[0]? = some (some q) → z1 = .pointer (some ⟨q, 0, none⟩)) ∧ OwnF w ((pb, #[.int .i64 0]) :: l) [#[.float .f64 0, .float .f64 0]] p v := by
  obtain ⟨y1, y2, y3, y4, y5, z1, ha, E1, E2, E3, E4, E5, G1, h⟩ := h
  obtain rfl := E1 (by decide)
  exact ⟨y2, y3, y4, y5, z1, ha, G1, h⟩
theorem hvJ14_2 (h : hvJ14 w pb f_DlI f_DhI f_ElI f_EhI f_FlI f_FhI l a0 2 p a v) : ∃ y3 y4 y5 z1 : Value, a = ((((((a0.put (some 86) (.agg #[.float .f64 4607182418800017408, .float .f64 4607182418800017408])).put (some 88) (.agg #[.float .f64 f_DlI, .float .f64 f_DhI])).put (some 90) y3).put (some 91) y4).put (some 92) y5).put (some 14) z1) ∧ (∀ q, p[0]? = some (some q) → z1 = .pointer (some ⟨q, 0, none⟩)) ∧ OwnF w ((pb, #[.int .i64 0]) :: l) [#[.float .f64 0, .float .f64 0]] p v := by
  obtain ⟨y1, y2, y3, y4, y5, z1, ha, E1, E2, E3, E4, E5, G1, h⟩ := h
  obtain rfl := E1 (by decide)
  obtain rfl := E2 (by decide)
  exact ⟨y3, y4, y5, z1, ha, G1, h⟩
theorem hvJ14_3 (h : hvJ14 w pb f_DlI f_DhI f_ElI f_EhI f_FlI f_FhI l a0 3 p a v) : ∃ y4 y5 z1 : Value, a = ((((((a0.put (some 86) (.agg #[.float .f64 4607182418800017408, .float .f64 4607182418800017408])).put (some 88) (.agg #[.float .f64 f_DlI, .float .f64 f_DhI])).put (some 90) (.agg #[.float .f64 f_ElI, .float .f64 f_EhI])).put (some 91) y4).put (some 92) y5).put (some 14) z1) ∧ (∀ q, p[0]? = some (some q) → z1 = .pointer (some ⟨q, 0, none⟩)) ∧ OwnF w ((pb, #[.int .i64 0]) :: l) [#[.float .f64 0, .float .f64 0]] p v := by
  obtain ⟨y1, y2, y3, y4, y5, z1, ha, E1, E2, E3, E4, E5, G1, h⟩ := h
  obtain rfl := E1 (by decide)
  obtain rfl := E2 (by decide)
  obtain rfl := E3 (by decide)
  exact ⟨y4, y5, z1, ha, G1, h⟩
theorem hvJ14_4 (h : hvJ14 w pb f_DlI f_DhI f_ElI f_EhI f_FlI f_FhI l a0 4 p a v) : ∃ y5 z1 : Value, a = ((((((a0.put (some 86) (.agg #[.float .f64 4607182418800017408, .float .f64 4607182418800017408])).put (some 88) (.agg #[.float .f64 f_DlI, .float .f64 f_DhI])).put (some 90) (.agg #[.float .f64 f_ElI, .float .f64 f_EhI])).put (some 91) (.agg #[.float .f64 0, .float .f64 0])).put (some 92) y5).put (some 14) z1) ∧ (∀ q, p[0]? = some (some q) → z1 = .pointer (some ⟨q, 0, none⟩)) ∧ OwnF w ((pb, #[.int .i64 0]) :: l) [#[.float .f64 0, .float .f64 0]] p v := by
  obtain ⟨y1, y2, y3, y4, y5, z1, ha, E1, E2, E3, E4, E5, G1, h⟩ := h
  obtain rfl := E1 (by decide)
  obtain rfl := E2 (by decide)
  obtain rfl := E3 (by decide)
  obtain rfl := E4 (by decide)
  exact ⟨y5, z1, ha, G1, h⟩
theorem hvJ14_fin {q1 : Nat} (h : hvJ14 w pb f_DlI f_DhI f_ElI f_EhI f_FlI f_FhI l a0 5 [some q1] a v) : a = ((((((a0.put (some 86) (.agg #[.float .f64 4607182418800017408, .float .f64 4607182418800017408])).put (some 88) (.agg #[.float .f64 f_DlI, .float .f64 f_DhI])).put (some 90) (.agg #[.float .f64 f_ElI, .float .f64 f_EhI])).put (some 91) (.agg #[.float .f64 0, .float .f64 0])).put (some 92) (.agg #[.float .f64 f_FlI, .float .f64 f_FhI])).put (some 14) (.pointer (some ⟨q1, 0, none⟩))) ∧ OwnF w ((pb, #[.int .i64 0]) :: l) [#[.float .f64 0, .float .f64 0]] [some q1] v := by
  obtain ⟨y1, y2, y3, y4, y5, z1, ha, E1, E2, E3, E4, E5, G1, h⟩ := h
  obtain rfl := E1 (by decide)
  obtain rfl := E2 (by decide)
  obtain rfl := E3 (by decide)
  obtain rfl := E4 (by decide)
  obtain rfl := E5 (by decide)
  obtain rfl := G1 _ rfl
  exact ⟨ha, h⟩
end

/-- What a round begins with. -/
def HvRel (w : World) (pc pl : Nat) (X Ol Oh : Nat → Nat) (rest : RowL) (x i : Value) (v : World) : Prop :=
  ∃ I : Nat, I ≤ 20 ∧ i = .int .i64 (I : Int) ∧ x = .float .f64 (X I) ∧ Own w ((pc, #[.int .i64 0]) :: (pl, #[.float .f64 (Ol I), .float .f64 (Oh I)]) :: rest) v

set_option maxRecDepth 100000 in
set_option maxHeartbeats 16000000 in
theorem halves_law {ul uh dl dh sl sh ol oh pl ph ql qh ml mh zl zh al ah bl bh cl ch : Nat} {X Al Ah Bl Bh Cl Ch Dl Dh El Eh Fl Fh Ol Oh Ql Qh Sl Sh Tl Th : Nat → Nat} (w : World)
    (c1 : Hid (∀ w, Calls Try.prog 10 #[.agg #[.float .f64 ul, .float .f64 uh]] w fun r w' => r = .returned (.bool true) ∧ Below w.heap.size w w'))
    (o_gtruh_819172646912 : ((FloatKind.f64.format.order uh 4602678819172646912 == some Ordering.gt) = false))
    (c2 : Hid (∀ w, Calls Try.prog 13 #[.agg #[.float .f64 ul, .float .f64 uh]] w fun r w' => r = .returned (.tuple #[.agg #[.float .f64 sl, .float .f64 sh], .agg #[.float .f64 ol, .float .f64 oh], .int .i64 0]) ∧ Below w.heap.size w w'))
    (q_dl : (∀ w, (binOp .mul 22 (.float .f64 4611686018427387904) (.float .f64 ul)).run Try.prog w = .ok (.float .f64 dl) w))
    (q_dh : (∀ w, (binOp .mul 22 (.float .f64 4611686018427387904) (.float .f64 uh)).run Try.prog w = .ok (.float .f64 dh) w))
    (c3 : Hid (∀ w, Calls Try.prog 14 #[.float .f64 dl, .float .f64 dh] w fun r w' => r = .returned (.agg #[.float .f64 dl, .float .f64 dh]) ∧ Below w.heap.size w w'))
    (c4 : Hid (∀ w, Calls Try.prog 13 #[.agg #[.float .f64 dl, .float .f64 dh]] w fun r w' => r = .returned (.tuple #[.agg #[.float .f64 pl, .float .f64 ph], .agg #[.float .f64 ql, .float .f64 qh], .int .i64 0]) ∧ Below w.heap.size w w'))
    (d5 : Hid (KN 19 0 0 4611686018427387904 4611686018427387904 4611686018427387904))
    (d6 : Hid (K2 20 0 0 sl sh ol oh ml mh))
    (d7 : Hid (K2 20 0 0 4611686018427387904 4611686018427387904 ml mh zl zh))
    (c8 : Hid (∀ w, Calls Try.prog 15 #[.agg #[.float .f64 pl, .float .f64 ph], .agg #[.float .f64 zl, .float .f64 zh]] w fun r w' => r = .returned (.bool true) ∧ Below w.heap.size w w'))
    (d9 : Hid (K1 22 0 0 ol oh al ah))
    (d10 : Hid (K1 22 0 0 sl sh bl bh))
    (d11 : Hid (K2 21 0 0 al ah bl bh cl ch))
    (c12 : Hid (∀ w, Calls Try.prog 15 #[.agg #[.float .f64 ql, .float .f64 qh], .agg #[.float .f64 cl, .float .f64 ch]] w fun r w' => r = .returned (.bool true) ∧ Below w.heap.size w w'))
    (d14 : Hid (KN 19 0 0 13830554455654793216 13830554455654793216 13830554455654793216))
    (d115 : Hid (KN 19 0 0 4607182418800017408 4607182418800017408 4607182418800017408))
    (d118 : Hid (KN 19 0 0 0 0 0))
    (fA : Hid (∀ I, I < 20 → K2 25 0 0 4607182418800017408 4607182418800017408 (Ol I) (Oh I) (Al I) (Ah I)))
    (fB : Hid (∀ I, I < 20 → K2 24 0 0 (Al I) (Ah I) 4611686018427387904 4611686018427387904 (Bl I) (Bh I)))
    (fC : Hid (∀ I, I < 20 → K2 23 0 0 (Bl I) (Bh I) 0 0 (Cl I) (Ch I)))
    (fD : Hid (∀ I, I < 20 → K2 21 0 0 4607182418800017408 4607182418800017408 (Ol I) (Oh I) (Dl I) (Dh I)))
    (fE : Hid (∀ I, I < 20 → K2 24 0 0 (Dl I) (Dh I) 4611686018427387904 4611686018427387904 (El I) (Eh I)))
    (fF : Hid (∀ I, I < 20 → K2 23 0 0 (El I) (Eh I) 0 0 (Fl I) (Fh I)))
    (fR : Hid (∀ I, I < 20 → K1 26 0 0 (Cl I) (Ch I) (Ol (I + 1)) (Oh (I + 1))))
    (fQ : Hid (∀ I, I < 20 → K1 26 0 0 (Fl I) (Fh I) (Ql I) (Qh I)))
    (fI : Hid (∀ I, I < 20 → ∀ w, Calls Try.prog 14 #[.float .f64 (X (I + 1)), .float .f64 (X (I + 1))] w fun r w' => r = .returned (.agg #[.float .f64 (X (I + 1)), .float .f64 (X (I + 1))]) ∧ Below w.heap.size w w'))
    (fS : Hid (∀ I, I < 20 → ∀ w, Calls Try.prog 13 #[.agg #[.float .f64 (X (I + 1)), .float .f64 (X (I + 1))]] w fun r w' => r = .returned (.tuple #[.agg #[.float .f64 (Sl I), .float .f64 (Sh I)], .agg #[.float .f64 (Tl I), .float .f64 (Th I)], .int .i64 0]) ∧ Below w.heap.size w w'))
    (fM : Hid (∀ I, I < 20 → ∀ w, Calls Try.prog 15 #[.agg #[.float .f64 (Tl I), .float .f64 (Th I)], .agg #[.float .f64 (Ol (I + 1)), .float .f64 (Oh (I + 1))]] w fun r w' => r = .returned (.bool true) ∧ Below w.heap.size w w'))
    (fN : Hid (∀ I, I < 20 → ∀ w, Calls Try.prog 15 #[.agg #[.float .f64 (Sl I), .float .f64 (Sh I)], .agg #[.float .f64 (Ql I), .float .f64 (Qh I)]] w fun r w' => r = .returned (.bool true) ∧ Below w.heap.size w w'))
    (qX : Hid (∀ I : Nat, I < 20 → ∀ w, (binOp .quo 22 (.float .f64 (X I)) (.float .f64 4611686018427387904)).run Try.prog w = .ok (.float .f64 (X (I + 1))) w))
    (c15 : Hid (∀ w, Calls Try.prog 11 #[] w fun r w' => r = .returned (.bool true) ∧ Below w.heap.size w w'))
    (h0 : Hid (X 0 = 4602678819172646912 ∧ Ol 0 = 13830554455654793216 ∧ Oh 0 = 13830554455654793216)) :
    Calls Try.prog 4 #[.agg #[.float .f64 ul, .float .f64 uh]] w fun r w' => r = .returned (.bool true) ∧ Below w.heap.size w w' := by
  have M := Lib.hid ((Own.nil w).made #[.float .f64 ul, .float .f64 uh] 24)
  have eqF := eq_floats
  go_enter Try.func4, Try.ntmps4
  obtain ⟨k1, k2⟩ := (M.out.nth 0 rfl).two
  go_wp2_with fail
  refine (c1.out _).mono ?_
  rintro r w1_ ⟨rfl, hb⟩
  replace M := Lib.hid (M.out.below hb)
  clear hb
  clear k1 k2
  obtain ⟨k1, k2⟩ := (M.out.nth 0 rfl).two
  go_wp2_with fail
  refine (c2.out _).mono ?_
  rintro r w2_ ⟨rfl, hb⟩
  replace M := Lib.hid (M.out.below hb)
  clear hb
  clear k1 k2
  replace M := Lib.hid (M.out.made #[.float .f64 sl, .float .f64 sh] 24)
  replace M := Lib.hid (M.out.made #[.float .f64 ol, .float .f64 oh] 24)
  simp only [World.size_alloc] at M
  obtain ⟨k1, k2⟩ := (M.out.nth 2 rfl).two
  go_wp2_with fail
  refine (c3.out _).mono ?_
  rintro r w3_ ⟨rfl, hb⟩
  replace M := Lib.hid (M.out.below hb)
  clear hb
  clear k1 k2
  go_wp2_with fail
  refine (c4.out _).mono ?_
  rintro r w4_ ⟨rfl, hb⟩
  replace M := Lib.hid (M.out.below hb)
  clear hb
  replace M := Lib.hid (M.out.made #[.float .f64 pl, .float .f64 ph] 24)
  replace M := Lib.hid (M.out.made #[.float .f64 ql, .float .f64 qh] 24)
  replace M := Lib.hid (M.out.made #[.int .i64 0] 36)
  simp only [World.size_alloc] at M
  go_wp2_with fail
  refine (d5.out _ _ (M.out.nth 0 rfl)).mono ?_
  rintro r w5_ ⟨rfl, hb⟩
  replace M : Hid (Own w [((w4_.heap.size + 2), #[.int .i64 0]), ((w4_.heap.size + 1), #[.float .f64 ql, .float .f64 qh]), (w4_.heap.size, #[.float .f64 pl, .float .f64 ph]), ((w2_.heap.size + 1), #[.float .f64 ol, .float .f64 oh]), (w2_.heap.size, #[.float .f64 sl, .float .f64 sh]), (w.heap.size, #[.float .f64 ul, .float .f64 uh])] w5_) := Lib.hid (M.out.putAt 0 rfl hb)
  clear hb
  replace M := Lib.hid (M.out.made #[.float .f64 4611686018427387904, .float .f64 4611686018427387904] 24).front
  go_upto_region 7 with fail
  replace M := Lib.hid M.out.drew
  revert M
  generalize (w5_.alloc (.cells #[.float .f64 4611686018427387904, .float .f64 4611686018427387904] 24)) = W6_
  intro M
  refine wp_region_noPanic ?_
  refine tails_region (S := fun w' => (w'.cell? ⟨w4_.heap.size, 0, none⟩ = some (.float .f64 pl) ∧ w'.cell? ⟨w4_.heap.size, 1, none⟩ = some (.float .f64 ph)) ∧ (w'.cell? ⟨w5_.heap.size, 0, none⟩ = some (.float .f64 4611686018427387904) ∧ w'.cell? ⟨w5_.heap.size, 1, none⟩ = some (.float .f64 4611686018427387904)) ∧ (w'.cell? ⟨w2_.heap.size, 0, none⟩ = some (.float .f64 sl) ∧ w'.cell? ⟨w2_.heap.size, 1, none⟩ = some (.float .f64 sh)) ∧ (w'.cell? ⟨(w2_.heap.size + 1), 0, none⟩ = some (.float .f64 ol) ∧ w'.cell? ⟨(w2_.heap.size + 1), 1, none⟩ = some (.float .f64 oh)) ∧ (w'.cell? ⟨(w4_.heap.size + 1), 0, none⟩ = some (.float .f64 ql) ∧ w'.cell? ⟨(w4_.heap.size + 1), 1, none⟩ = some (.float .f64 qh))) [] (by kernel_rfl) ?_ (fun hS => ?_)
  · exact ⟨(M.out.nth 3 rfl).two, (M.out.nth 1 rfl).two, (M.out.nth 5 rfl).two, (M.out.nth 4 rfl).two, (M.out.nth 2 rfl).two⟩
  refine tk (x := ?_) 0 rfl (by kernel_rfl) ⟨by kernel_rfl, ?_⟩ (fun _ _ _ h => h) hS ?_
  rotate_left; focus (intro w hSw; (try dsimp only at hSw); go_simp; try with_reducible rfl)
  refine tk (x := ?_) 1 rfl (by kernel_rfl) ⟨by kernel_rfl, ?_⟩ (fun _ _ _ h => h) hS ?_
  rotate_left; focus (intro w hSw; (try dsimp only at hSw); go_simp; try with_reducible rfl)
  conv => arg 9; simp only [Act.put, go_sem]
  refine tk (x := ?_) 2 rfl (by kernel_rfl) ⟨by kernel_rfl, ?_⟩ (fun _ _ _ h => h) hS ?_
  rotate_left; focus (intro w hSw; (try dsimp only at hSw); go_simp; try with_reducible rfl)
  refine tk (x := ?_) 3 rfl (by kernel_rfl) ⟨by kernel_rfl, ?_⟩ (fun _ _ _ h => h) hS ?_
  rotate_left; focus (intro w hSw; (try dsimp only at hSw); go_simp; try with_reducible rfl)
  conv => arg 9; simp only [Act.put, go_sem]
  refine tk (x := ?_) 4 rfl (by kernel_rfl) ⟨by kernel_rfl, ?_⟩ (fun _ _ _ h => h) hS ?_
  rotate_left; focus (intro w hSw; (try dsimp only at hSw); go_simp; try with_reducible rfl)
  refine tk (x := ?_) 5 rfl (by kernel_rfl) ⟨by kernel_rfl, ?_⟩ (fun _ _ _ h => h) hS ?_
  rotate_left; focus (intro w hSw; (try dsimp only at hSw); go_simp; try with_reducible rfl)
  conv => arg 9; simp only [Act.put, go_sem]
  refine tk (x := ?_) 6 rfl (by kernel_rfl) ⟨by kernel_rfl, ?_⟩ (fun _ _ _ h => h) hS ?_
  rotate_left; focus (intro w hSw; (try dsimp only at hSw); go_simp; try with_reducible rfl)
  refine tk (x := ?_) 7 rfl (by kernel_rfl) ⟨by kernel_rfl, ?_⟩ (fun _ _ _ h => h) hS ?_
  rotate_left; focus (intro w hSw; (try dsimp only at hSw); go_simp; try with_reducible rfl)
  conv => arg 9; simp only [Act.put, go_sem]
  refine tk (x := ?_) 8 rfl (by kernel_rfl) ⟨by kernel_rfl, ?_⟩ (fun _ _ _ h => h) hS ?_
  rotate_left; focus (intro w hSw; (try dsimp only at hSw); go_simp; try with_reducible rfl)
  conv => arg 9; simp only [Act.put, go_sem]
  refine tails_one (T := []) (i := 9) (o := _) rfl (by kernel_rfl) (fun K hK => ?_)
  go_simp
  refine (d6.out _ _ (M.out.nth 0 rfl)).mono ?_
  rintro rr w7_ ⟨rfl, hb⟩
  replace M : Hid (Own w [((w4_.heap.size + 2), #[.int .i64 0]), (w5_.heap.size, #[.float .f64 4611686018427387904, .float .f64 4611686018427387904]), ((w4_.heap.size + 1), #[.float .f64 ql, .float .f64 qh]), (w4_.heap.size, #[.float .f64 pl, .float .f64 ph]), ((w2_.heap.size + 1), #[.float .f64 ol, .float .f64 oh]), (w2_.heap.size, #[.float .f64 sl, .float .f64 sh]), (w.heap.size, #[.float .f64 ul, .float .f64 uh])] w7_) := Lib.hid (M.out.putAt 0 rfl hb)
  clear hb
  try go_wp2_with fail
  refine hK.out _ _ (Or.inr ⟨(M.out.nth 3 rfl).two, (M.out.nth 1 rfl).two, (M.out.nth 5 rfl).two, (M.out.nth 4 rfl).two, (M.out.nth 2 rfl).two⟩) (fun hHeld => ?_)
  clear hK K hHeld
  replace hS := (And.intro (M.out.nth 3 rfl).two (And.intro (M.out.nth 1 rfl).two (And.intro (M.out.nth 5 rfl).two (And.intro (M.out.nth 4 rfl).two (M.out.nth 2 rfl).two))))
  refine tails_one (T := []) (i := 10) (o := _) rfl (by kernel_rfl) (fun K hK => ?_)
  go_simp
  refine (d7.out _ _ (M.out.nth 0 rfl)).mono ?_
  rintro rr w8_ ⟨rfl, hb⟩
  replace M : Hid (Own w [((w4_.heap.size + 2), #[.int .i64 0]), (w5_.heap.size, #[.float .f64 4611686018427387904, .float .f64 4611686018427387904]), ((w4_.heap.size + 1), #[.float .f64 ql, .float .f64 qh]), (w4_.heap.size, #[.float .f64 pl, .float .f64 ph]), ((w2_.heap.size + 1), #[.float .f64 ol, .float .f64 oh]), (w2_.heap.size, #[.float .f64 sl, .float .f64 sh]), (w.heap.size, #[.float .f64 ul, .float .f64 uh])] w8_) := Lib.hid (M.out.putAt 0 rfl hb)
  clear hb
  try go_wp2_with fail
  refine hK.out _ _ (Or.inr ⟨(M.out.nth 3 rfl).two, (M.out.nth 1 rfl).two, (M.out.nth 5 rfl).two, (M.out.nth 4 rfl).two, (M.out.nth 2 rfl).two⟩) (fun hHeld => ?_)
  clear hK K hHeld
  replace hS := (And.intro (M.out.nth 3 rfl).two (And.intro (M.out.nth 1 rfl).two (And.intro (M.out.nth 5 rfl).two (And.intro (M.out.nth 4 rfl).two (M.out.nth 2 rfl).two))))
  refine tails_one (T := []) (i := 11) (o := _) rfl (by kernel_rfl) (fun K hK => ?_)
  go_simp
  refine (c8.out _).mono ?_
  rintro rr w9_ ⟨rfl, hb⟩
  replace M := Lib.hid (M.out.below hb)
  clear hb
  try go_wp2_with fail
  refine hK.out _ _ (Or.inr ⟨(M.out.nth 3 rfl).two, (M.out.nth 1 rfl).two, (M.out.nth 5 rfl).two, (M.out.nth 4 rfl).two, (M.out.nth 2 rfl).two⟩) (fun hHeld => ?_)
  clear hK K hHeld
  replace hS := (And.intro (M.out.nth 3 rfl).two (And.intro (M.out.nth 1 rfl).two (And.intro (M.out.nth 5 rfl).two (And.intro (M.out.nth 4 rfl).two (M.out.nth 2 rfl).two))))
  refine tk (x := ?_) 12 rfl (by kernel_rfl) ⟨by kernel_rfl, ?_⟩ (fun _ _ _ h => h) hS ?_
  rotate_left; focus (intro w hSw; (try dsimp only at hSw); go_simp; try with_reducible rfl)
  refine tk (x := ?_) 13 rfl (by kernel_rfl) ⟨by kernel_rfl, ?_⟩ (fun _ _ _ h => h) hS ?_
  rotate_left; focus (intro w hSw; (try dsimp only at hSw); go_simp; try with_reducible rfl)
  refine tk (x := ?_) 14 rfl (by kernel_rfl) ⟨by kernel_rfl, ?_⟩ (fun _ _ _ h => h) hS ?_
  rotate_left; focus (intro w hSw; (try dsimp only at hSw); go_simp; try with_reducible rfl)
  refine tk (x := ?_) 15 rfl (by kernel_rfl) ⟨by kernel_rfl, ?_⟩ (fun _ _ _ h => h) hS ?_
  rotate_left; focus (intro w hSw; (try dsimp only at hSw); go_simp; try with_reducible rfl)
  refine tk (x := ?_) 16 rfl (by kernel_rfl) ⟨by kernel_rfl, ?_⟩ (fun _ _ _ h => h) hS ?_
  rotate_left; focus (intro w hSw; (try dsimp only at hSw); go_simp; try with_reducible rfl)
  refine tk (x := ?_) 18 rfl (by kernel_rfl) ⟨by kernel_rfl, ?_⟩ (fun _ _ _ h => h) hS ?_
  rotate_left; focus (intro w hSw; (try dsimp only at hSw); go_simp; try with_reducible rfl)
  refine tails_one (T := []) (i := 17) (o := _) rfl (by kernel_rfl) (fun K hK => ?_)
  go_simp
  refine (d9.out _ _ (M.out.nth 0 rfl)).mono ?_
  rintro rr w10_ ⟨rfl, hb⟩
  replace M : Hid (Own w [((w4_.heap.size + 2), #[.int .i64 0]), (w5_.heap.size, #[.float .f64 4611686018427387904, .float .f64 4611686018427387904]), ((w4_.heap.size + 1), #[.float .f64 ql, .float .f64 qh]), (w4_.heap.size, #[.float .f64 pl, .float .f64 ph]), ((w2_.heap.size + 1), #[.float .f64 ol, .float .f64 oh]), (w2_.heap.size, #[.float .f64 sl, .float .f64 sh]), (w.heap.size, #[.float .f64 ul, .float .f64 uh])] w10_) := Lib.hid (M.out.putAt 0 rfl hb)
  clear hb
  try go_wp2_with fail
  refine hK.out _ _ (Or.inr ⟨(M.out.nth 3 rfl).two, (M.out.nth 1 rfl).two, (M.out.nth 5 rfl).two, (M.out.nth 4 rfl).two, (M.out.nth 2 rfl).two⟩) (fun hHeld => ?_)
  clear hK K hHeld
  replace hS := (And.intro (M.out.nth 3 rfl).two (And.intro (M.out.nth 1 rfl).two (And.intro (M.out.nth 5 rfl).two (And.intro (M.out.nth 4 rfl).two (M.out.nth 2 rfl).two))))
  refine tails_one (T := []) (i := 19) (o := _) rfl (by kernel_rfl) (fun K hK => ?_)
  go_simp
  refine (d10.out _ _ (M.out.nth 0 rfl)).mono ?_
  rintro rr w11_ ⟨rfl, hb⟩
  replace M : Hid (Own w [((w4_.heap.size + 2), #[.int .i64 0]), (w5_.heap.size, #[.float .f64 4611686018427387904, .float .f64 4611686018427387904]), ((w4_.heap.size + 1), #[.float .f64 ql, .float .f64 qh]), (w4_.heap.size, #[.float .f64 pl, .float .f64 ph]), ((w2_.heap.size + 1), #[.float .f64 ol, .float .f64 oh]), (w2_.heap.size, #[.float .f64 sl, .float .f64 sh]), (w.heap.size, #[.float .f64 ul, .float .f64 uh])] w11_) := Lib.hid (M.out.putAt 0 rfl hb)
  clear hb
  try go_wp2_with fail
  refine hK.out _ _ (Or.inr ⟨(M.out.nth 3 rfl).two, (M.out.nth 1 rfl).two, (M.out.nth 5 rfl).two, (M.out.nth 4 rfl).two, (M.out.nth 2 rfl).two⟩) (fun hHeld => ?_)
  clear hK K hHeld
  replace hS := (And.intro (M.out.nth 3 rfl).two (And.intro (M.out.nth 1 rfl).two (And.intro (M.out.nth 5 rfl).two (And.intro (M.out.nth 4 rfl).two (M.out.nth 2 rfl).two))))
  refine tails_one (T := []) (i := 20) (o := _) rfl (by kernel_rfl) (fun K hK => ?_)
  go_simp
  refine (d11.out _ _ (M.out.nth 0 rfl)).mono ?_
  rintro rr w12_ ⟨rfl, hb⟩
  replace M : Hid (Own w [((w4_.heap.size + 2), #[.int .i64 0]), (w5_.heap.size, #[.float .f64 4611686018427387904, .float .f64 4611686018427387904]), ((w4_.heap.size + 1), #[.float .f64 ql, .float .f64 qh]), (w4_.heap.size, #[.float .f64 pl, .float .f64 ph]), ((w2_.heap.size + 1), #[.float .f64 ol, .float .f64 oh]), (w2_.heap.size, #[.float .f64 sl, .float .f64 sh]), (w.heap.size, #[.float .f64 ul, .float .f64 uh])] w12_) := Lib.hid (M.out.putAt 0 rfl hb)
  clear hb
  try go_wp2_with fail
  refine hK.out _ _ (Or.inr ⟨(M.out.nth 3 rfl).two, (M.out.nth 1 rfl).two, (M.out.nth 5 rfl).two, (M.out.nth 4 rfl).two, (M.out.nth 2 rfl).two⟩) (fun hHeld => ?_)
  clear hK K hHeld
  replace hS := (And.intro (M.out.nth 3 rfl).two (And.intro (M.out.nth 1 rfl).two (And.intro (M.out.nth 5 rfl).two (And.intro (M.out.nth 4 rfl).two (M.out.nth 2 rfl).two))))
  refine tails_one (T := []) (i := 21) (o := _) rfl (by kernel_rfl) (fun K hK => ?_)
  go_simp
  refine (c12.out _).mono ?_
  rintro rr w13_ ⟨rfl, hb⟩
  replace M := Lib.hid (M.out.below hb)
  clear hb
  try go_wp2_with fail
  refine hK.out _ _ (Or.inr ⟨(M.out.nth 3 rfl).two, (M.out.nth 1 rfl).two, (M.out.nth 5 rfl).two, (M.out.nth 4 rfl).two, (M.out.nth 2 rfl).two⟩) (fun hHeld => ?_)
  clear hK K hHeld
  replace hS := (And.intro (M.out.nth 3 rfl).two (And.intro (M.out.nth 1 rfl).two (And.intro (M.out.nth 5 rfl).two (And.intro (M.out.nth 4 rfl).two (M.out.nth 2 rfl).two))))
  refine tk (x := ?_) 22 rfl (by kernel_rfl) ⟨by kernel_rfl, ?_⟩ (fun _ _ _ h => h) hS ?_
  rotate_left; focus (intro w hSw; (try dsimp only at hSw); go_simp; try with_reducible rfl)
  refine tk (x := ?_) 23 rfl (by kernel_rfl) ⟨by kernel_rfl, ?_⟩ (fun _ _ _ h => h) hS ?_
  rotate_left; focus (intro w hSw; (try dsimp only at hSw); go_simp; try with_reducible rfl)
  refine tk (x := ?_) 24 rfl (by kernel_rfl) ⟨by kernel_rfl, ?_⟩ (fun _ _ _ h => h) hS ?_
  rotate_left; focus (intro w hSw; (try dsimp only at hSw); go_simp; try with_reducible rfl)
  refine tails_one (T := []) (i := 25) (o := _) rfl (by kernel_rfl) (fun K hK => ?_)
  go_simp
  refine (err_any 0 _ 0 _ (M.out.nth 0 rfl).pc).mono ?_
  rintro rr w14_ ⟨rfl, rfl⟩
  try go_wp2_with fail
  refine hK.out _ _ (Or.inr ⟨(M.out.nth 3 rfl).two, (M.out.nth 1 rfl).two, (M.out.nth 5 rfl).two, (M.out.nth 4 rfl).two, (M.out.nth 2 rfl).two⟩) (fun hHeld => ?_)
  clear hK K hHeld
  replace hS := (And.intro (M.out.nth 3 rfl).two (And.intro (M.out.nth 1 rfl).two (And.intro (M.out.nth 5 rfl).two (And.intro (M.out.nth 4 rfl).two (M.out.nth 2 rfl).two))))
  refine tk (x := ?_) 26 rfl (by kernel_rfl) ⟨by kernel_rfl, ?_⟩ (fun _ _ _ h => h) hS ?_
  rotate_left; focus (intro w hSw; (try dsimp only at hSw); go_simp; try with_reducible rfl)
  refine tk (x := ?_) 27 rfl (by kernel_rfl) ⟨by kernel_rfl, ?_⟩ (fun _ _ _ h => h) hS ?_
  rotate_left; focus (intro w hSw; (try dsimp only at hSw); go_simp; try with_reducible rfl)
  refine tails_done (by kernel_rfl) ?_ _
  refine NoPanic.normal ?_
  clear hS
  go_wp2_with fail
  refine (d14.out _ _ (M.out.nth 0 rfl)).mono ?_
  rintro r w15_ ⟨rfl, hb⟩
  replace M : Hid (Own w [((w4_.heap.size + 2), #[.int .i64 0]), (w5_.heap.size, #[.float .f64 4611686018427387904, .float .f64 4611686018427387904]), ((w4_.heap.size + 1), #[.float .f64 ql, .float .f64 qh]), (w4_.heap.size, #[.float .f64 pl, .float .f64 ph]), ((w2_.heap.size + 1), #[.float .f64 ol, .float .f64 oh]), (w2_.heap.size, #[.float .f64 sl, .float .f64 sh]), (w.heap.size, #[.float .f64 ul, .float .f64 uh])] w15_) := Lib.hid (M.out.putAt 0 rfl hb)
  clear hb
  replace M := Lib.hid (M.out.made #[.float .f64 13830554455654793216, .float .f64 13830554455654793216] 24).front
  -- the row: b6 b8 b7 b5 b4 b3 b2 b1
  go_wp2_with fail
  go_loopw [11, 75] (HvRel w (w4_.heap.size + 2) w15_.heap.size X Ol Oh [(w5_.heap.size, #[.float .f64 4611686018427387904, .float .f64 4611686018427387904]), ((w4_.heap.size + 1), #[.float .f64 ql, .float .f64 qh]), (w4_.heap.size, #[.float .f64 pl, .float .f64 ph]), ((w2_.heap.size + 1), #[.float .f64 ol, .float .f64 oh]), (w2_.heap.size, #[.float .f64 sl, .float .f64 sh]), (w.heap.size, #[.float .f64 ul, .float .f64 uh])]) (fun _ i _ => 20 - (intOf i).toNat)
  case atStart =>
    obtain ⟨z1, z2, z3⟩ := h0.out
    refine ⟨0, by omega, rfl, by rw [z1], ?_⟩
    rw [z2, z3]
    exact M.out
  case round =>
    clear M
    obtain ⟨I, hIN, rfl, rfl, hM⟩ := hrel
    have M := Lib.hid hM
    clear hM h0
    by_cases hI : I < 20
    · have hb1 : decide (I < 20) = true := decide_eq_true hI
      have hb2 : decide ((I : Int) < 20) = true := decide_eq_true (by omega)
      have qI := qX.out I hI
      go_upto_region 13 with fail
      replace M := Lib.hid M.out.drew
      refine wp_region_noPanic ?_
      refine tails_region (S := fun w' => (w'.cell? ⟨w15_.heap.size, 0, none⟩ = some (.float .f64 (Ol I)) ∧ w'.cell? ⟨w15_.heap.size, 1, none⟩ = some (.float .f64 (Oh I))) ∧ (w'.cell? ⟨w5_.heap.size, 0, none⟩ = some (.float .f64 4611686018427387904) ∧ w'.cell? ⟨w5_.heap.size, 1, none⟩ = some (.float .f64 4611686018427387904))) [] (by kernel_rfl) ?_ (fun hS => ?_)
      · exact ⟨(M.out.nth 1 rfl).two, (M.out.nth 2 rfl).two⟩
      refine tk (x := ?_) 1 rfl (by kernel_rfl) ⟨by kernel_rfl, ?_⟩ (fun _ _ _ h => h) hS ?_
      rotate_left; focus (intro w hSw; (try dsimp only at hSw); go_simp; try with_reducible rfl)
      refine tk (x := ?_) 3 rfl (by kernel_rfl) ⟨by kernel_rfl, ?_⟩ (fun _ _ _ h => h) hS ?_
      rotate_left; focus (intro w hSw; (try dsimp only at hSw); go_simp; try with_reducible rfl)
      conv => arg 9; simp only [Act.put, go_sem]
      refine lpx_ccccc_1 M 0 2 4 5 6 7 [79, 81, 83, 84, 85, 13] 1 (hvJ13 w (w4_.heap.size + 2) (Al I) (Ah I) (Bl I) (Bh I) (Cl I) (Ch I)) (by kernel_rfl) (by kernel_rfl) ?_ ?_ ?_ ?_ ?_ ?_ ?_ ?_ ?_
      · intro A hA
        obtain ⟨y1, hq1⟩ := put_ex (hA 79 (by simp))
        obtain ⟨y2, hq2⟩ := put_ex (hA 81 (by simp))
        obtain ⟨y3, hq3⟩ := put_ex (hA 83 (by simp))
        obtain ⟨y4, hq4⟩ := put_ex (hA 84 (by simp))
        obtain ⟨y5, hq5⟩ := put_ex (hA 85 (by simp))
        obtain ⟨z1, hq6⟩ := put_ex (hA 13 (by simp))
        exact ⟨y1, y2, y3, y4, y5, z1, by rw [hq1, hq2, hq3, hq4, hq5, hq6], by omega, by omega, by omega, by omega, by omega, by simp, OwnF.start M.out 1⟩
      · rintro k p a v ⟨y1, y2, y3, y4, y5, z1, _, _, _, _, _, _, _, h⟩
        exact ⟨(h.own.nth 1 rfl).two, (h.own.nth 2 rfl).two⟩
      · intro p a v hJ
        refine op_step (o := _) rfl (fun K hK => ?_)
        obtain ⟨y1, y2, y3, y4, y5, z1, ha, gg1, h⟩ := hvJ13_0 hJ
        have h := Lib.hid h
        clear hJ
        subst ha
        go_simp
        refine (d115.out _ _ (h.out.own.nth 0 rfl)).mono ?_
        rintro rr w5 ⟨rfl, hp⟩
        try go_wp2_with fail
        refine hK.out _ _ ⟨_, y2, y3, y4, y5, z1, ?_, fun _ => rfl, by omega, by omega, by omega, by omega, gg1, h.out.putHead hp⟩
        kernel_rfl
      · intro p a v hJ
        refine op_step (o := _) rfl (fun K hK => ?_)
        obtain ⟨y2, y3, y4, y5, z1, ha, gg1, h⟩ := hvJ13_1 hJ
        have h := Lib.hid h
        clear hJ
        subst ha
        go_simp
        refine (fA.out I hI _ _ (h.out.own.nth 0 rfl)).mono ?_
        rintro rr w5 ⟨rfl, hp⟩
        try go_wp2_with fail
        refine hK.out _ _ ⟨_, _, y3, y4, y5, z1, ?_, fun _ => rfl, fun _ => rfl, by omega, by omega, by omega, gg1, h.out.putHead hp⟩
        kernel_rfl
      · intro p a v hJ
        refine op_step (o := _) rfl (fun K hK => ?_)
        obtain ⟨y3, y4, y5, z1, ha, gg1, h⟩ := hvJ13_2 hJ
        have h := Lib.hid h
        clear hJ
        subst ha
        go_simp
        refine (fB.out I hI _ _ (h.out.own.nth 0 rfl)).mono ?_
        rintro rr w5 ⟨rfl, hp⟩
        try go_wp2_with fail
        refine hK.out _ _ ⟨_, _, _, y4, y5, z1, ?_, fun _ => rfl, fun _ => rfl, fun _ => rfl, by omega, by omega, gg1, h.out.putHead hp⟩
        kernel_rfl
      · intro p a v hJ
        refine op_step (o := _) rfl (fun K hK => ?_)
        obtain ⟨y4, y5, z1, ha, gg1, h⟩ := hvJ13_3 hJ
        have h := Lib.hid h
        clear hJ
        subst ha
        go_simp
        refine (d118.out _ _ (h.out.own.nth 0 rfl)).mono ?_
        rintro rr w5 ⟨rfl, hp⟩
        try go_wp2_with fail
        refine hK.out _ _ ⟨_, _, _, _, y5, z1, ?_, fun _ => rfl, fun _ => rfl, fun _ => rfl, fun _ => rfl, by omega, gg1, h.out.putHead hp⟩
        kernel_rfl
      · intro p a v hJ
        refine op_step (o := _) rfl (fun K hK => ?_)
        obtain ⟨y5, z1, ha, gg1, h⟩ := hvJ13_4 hJ
        have h := Lib.hid h
        clear hJ
        subst ha
        go_simp
        refine (fC.out I hI _ _ (h.out.own.nth 0 rfl)).mono ?_
        rintro rr w5 ⟨rfl, hp⟩
        try go_wp2_with fail
        refine hK.out _ _ ⟨_, _, _, _, _, z1, ?_, fun _ => rfl, fun _ => rfl, fun _ => rfl, fun _ => rfl, fun _ => rfl, gg1, h.out.putHead hp⟩
        kernel_rfl
      · intro k p a v hp hJ
        refine op_step (o := _) rfl (fun K hK => ?_)
        obtain ⟨y1, y2, y3, y4, y5, z1, ha, ee1, ee2, ee3, ee4, ee5, gg1, h⟩ := hJ
        have h := Lib.hid h
        subst ha
        go_simp
        refine hK.out _ _ ⟨v.heap.size, y1, y2, y3, y4, y5, .pointer (some ⟨v.heap.size, 0, none⟩), ?_, ee1, ee2, ee3, ee4, ee5, fun q hq => ptr_set hq, h.out.alloc hp rfl _⟩
        kernel_rfl
      intro p13_1 a v hJ
      obtain ⟨rfl, h⟩ := hvJ13_fin hJ
      clear hJ
      replace M := Lib.hid h.fin1
      clear h
      refine tails_one (T := []) (i := 8) (o := _) rfl (by kernel_rfl) (fun K hK => ?_)
      have kc := (M.out.nth 0 rfl).2.1
      have kf := (M.out.nth 0 rfl).2.2
      replace M : Hid (Own w [(p13_1, #[.float .f64 (Cl I), .float .f64 (Ch I)]), ((w4_.heap.size + 2), #[.int .i64 0]), (w15_.heap.size, #[.float .f64 (Ol I), .float .f64 (Oh I)]), (w5_.heap.size, #[.float .f64 4611686018427387904, .float .f64 4611686018427387904]), ((w4_.heap.size + 1), #[.float .f64 ql, .float .f64 qh]), (w4_.heap.size, #[.float .f64 pl, .float .f64 ph]), ((w2_.heap.size + 1), #[.float .f64 ol, .float .f64 oh]), (w2_.heap.size, #[.float .f64 sl, .float .f64 sh]), (w.heap.size, #[.float .f64 ul, .float .f64 uh])] _) := Lib.hid (M.out.set2 0 rfl (.float .f64 (Cl I)) (.float .f64 (Ch I)))
      go_simp
      refine hK.out _ _ (Or.inr ⟨(M.out.nth 2 rfl).two, (M.out.nth 3 rfl).two⟩) (fun hHeld => ?_)
      clear hK K hHeld kc kf
      refine tails_done (by kernel_rfl) ?_ _
      refine NoPanic.normal ?_
      clear hS
      replace M : Hid (Own w [((w4_.heap.size + 2), #[.int .i64 0]), (p13_1, #[.float .f64 (Cl I), .float .f64 (Ch I)]), (w15_.heap.size, #[.float .f64 (Ol I), .float .f64 (Oh I)]), (w5_.heap.size, #[.float .f64 4611686018427387904, .float .f64 4611686018427387904]), ((w4_.heap.size + 1), #[.float .f64 ql, .float .f64 qh]), (w4_.heap.size, #[.float .f64 pl, .float .f64 ph]), ((w2_.heap.size + 1), #[.float .f64 ol, .float .f64 oh]), (w2_.heap.size, #[.float .f64 sl, .float .f64 sh]), (w.heap.size, #[.float .f64 ul, .float .f64 uh])] _) := Lib.hid M.out.front
      revert M
      generalize ((v.setCell ⟨p13_1, 0, none⟩ (.float .f64 (Cl I))).setCell ⟨p13_1, 1, none⟩ (.float .f64 (Ch I))) = W16_
      intro M
      go_upto_region 14 with fail
      replace M := Lib.hid M.out.drew
      refine wp_region_noPanic ?_
      refine tails_region (S := fun w' => (w'.cell? ⟨w15_.heap.size, 0, none⟩ = some (.float .f64 (Ol I)) ∧ w'.cell? ⟨w15_.heap.size, 1, none⟩ = some (.float .f64 (Oh I))) ∧ (w'.cell? ⟨w5_.heap.size, 0, none⟩ = some (.float .f64 4611686018427387904) ∧ w'.cell? ⟨w5_.heap.size, 1, none⟩ = some (.float .f64 4611686018427387904))) [] (by kernel_rfl) ?_ (fun hS => ?_)
      · exact ⟨(M.out.nth 2 rfl).two, (M.out.nth 3 rfl).two⟩
      refine tk (x := ?_) 1 rfl (by kernel_rfl) ⟨by kernel_rfl, ?_⟩ (fun _ _ _ h => h) hS ?_
      rotate_left; focus (intro w hSw; (try dsimp only at hSw); go_simp; try with_reducible rfl)
      refine tk (x := ?_) 3 rfl (by kernel_rfl) ⟨by kernel_rfl, ?_⟩ (fun _ _ _ h => h) hS ?_
      rotate_left; focus (intro w hSw; (try dsimp only at hSw); go_simp; try with_reducible rfl)
      conv => arg 9; simp only [Act.put, go_sem]
      refine lpx_ccccc_1 M 0 2 4 5 6 7 [86, 88, 90, 91, 92, 14] 1 (hvJ14 w (w4_.heap.size + 2) (Dl I) (Dh I) (El I) (Eh I) (Fl I) (Fh I)) (by kernel_rfl) (by kernel_rfl) ?_ ?_ ?_ ?_ ?_ ?_ ?_ ?_ ?_
      · intro A hA
        obtain ⟨y1, hq1⟩ := put_ex (hA 86 (by simp))
        obtain ⟨y2, hq2⟩ := put_ex (hA 88 (by simp))
        obtain ⟨y3, hq3⟩ := put_ex (hA 90 (by simp))
        obtain ⟨y4, hq4⟩ := put_ex (hA 91 (by simp))
        obtain ⟨y5, hq5⟩ := put_ex (hA 92 (by simp))
        obtain ⟨z1, hq6⟩ := put_ex (hA 14 (by simp))
        exact ⟨y1, y2, y3, y4, y5, z1, by rw [hq1, hq2, hq3, hq4, hq5, hq6], by omega, by omega, by omega, by omega, by omega, by simp, OwnF.start M.out 1⟩
      · rintro k p a v ⟨y1, y2, y3, y4, y5, z1, _, _, _, _, _, _, _, h⟩
        exact ⟨(h.own.nth 2 rfl).two, (h.own.nth 3 rfl).two⟩
      · intro p a v hJ
        refine op_step (o := _) rfl (fun K hK => ?_)
        obtain ⟨y1, y2, y3, y4, y5, z1, ha, gg1, h⟩ := hvJ14_0 hJ
        have h := Lib.hid h
        clear hJ
        subst ha
        go_simp
        refine (d115.out _ _ (h.out.own.nth 0 rfl)).mono ?_
        rintro rr w5 ⟨rfl, hp⟩
        try go_wp2_with fail
        refine hK.out _ _ ⟨_, y2, y3, y4, y5, z1, ?_, fun _ => rfl, by omega, by omega, by omega, by omega, gg1, h.out.putHead hp⟩
        kernel_rfl
      · intro p a v hJ
        refine op_step (o := _) rfl (fun K hK => ?_)
        obtain ⟨y2, y3, y4, y5, z1, ha, gg1, h⟩ := hvJ14_1 hJ
        have h := Lib.hid h
        clear hJ
        subst ha
        go_simp
        refine (fD.out I hI _ _ (h.out.own.nth 0 rfl)).mono ?_
        rintro rr w5 ⟨rfl, hp⟩
        try go_wp2_with fail
        refine hK.out _ _ ⟨_, _, y3, y4, y5, z1, ?_, fun _ => rfl, fun _ => rfl, by omega, by omega, by omega, gg1, h.out.putHead hp⟩
        kernel_rfl
      · intro p a v hJ
        refine op_step (o := _) rfl (fun K hK => ?_)
        obtain ⟨y3, y4, y5, z1, ha, gg1, h⟩ := hvJ14_2 hJ
        have h := Lib.hid h
        clear hJ
        subst ha
        go_simp
        refine (fE.out I hI _ _ (h.out.own.nth 0 rfl)).mono ?_
        rintro rr w5 ⟨rfl, hp⟩
        try go_wp2_with fail
        refine hK.out _ _ ⟨_, _, _, y4, y5, z1, ?_, fun _ => rfl, fun _ => rfl, fun _ => rfl, by omega, by omega, gg1, h.out.putHead hp⟩
        kernel_rfl
      · intro p a v hJ
        refine op_step (o := _) rfl (fun K hK => ?_)
        obtain ⟨y4, y5, z1, ha, gg1, h⟩ := hvJ14_3 hJ
        have h := Lib.hid h
        clear hJ
        subst ha
        go_simp
        refine (d118.out _ _ (h.out.own.nth 0 rfl)).mono ?_
        rintro rr w5 ⟨rfl, hp⟩
        try go_wp2_with fail
        refine hK.out _ _ ⟨_, _, _, _, y5, z1, ?_, fun _ => rfl, fun _ => rfl, fun _ => rfl, fun _ => rfl, by omega, gg1, h.out.putHead hp⟩
        kernel_rfl
      · intro p a v hJ
        refine op_step (o := _) rfl (fun K hK => ?_)
        obtain ⟨y5, z1, ha, gg1, h⟩ := hvJ14_4 hJ
        have h := Lib.hid h
        clear hJ
        subst ha
        go_simp
        refine (fF.out I hI _ _ (h.out.own.nth 0 rfl)).mono ?_
        rintro rr w5 ⟨rfl, hp⟩
        try go_wp2_with fail
        refine hK.out _ _ ⟨_, _, _, _, _, z1, ?_, fun _ => rfl, fun _ => rfl, fun _ => rfl, fun _ => rfl, fun _ => rfl, gg1, h.out.putHead hp⟩
        kernel_rfl
      · intro k p a v hp hJ
        refine op_step (o := _) rfl (fun K hK => ?_)
        obtain ⟨y1, y2, y3, y4, y5, z1, ha, ee1, ee2, ee3, ee4, ee5, gg1, h⟩ := hJ
        have h := Lib.hid h
        subst ha
        go_simp
        refine hK.out _ _ ⟨v.heap.size, y1, y2, y3, y4, y5, .pointer (some ⟨v.heap.size, 0, none⟩), ?_, ee1, ee2, ee3, ee4, ee5, fun q hq => ptr_set hq, h.out.alloc hp rfl _⟩
        kernel_rfl
      intro p14_1 a v hJ
      obtain ⟨rfl, h⟩ := hvJ14_fin hJ
      clear hJ
      replace M := Lib.hid h.fin1
      clear h
      refine tails_one (T := []) (i := 8) (o := _) rfl (by kernel_rfl) (fun K hK => ?_)
      have kc := (M.out.nth 0 rfl).2.1
      have kf := (M.out.nth 0 rfl).2.2
      replace M : Hid (Own w [(p14_1, #[.float .f64 (Fl I), .float .f64 (Fh I)]), ((w4_.heap.size + 2), #[.int .i64 0]), (p13_1, #[.float .f64 (Cl I), .float .f64 (Ch I)]), (w15_.heap.size, #[.float .f64 (Ol I), .float .f64 (Oh I)]), (w5_.heap.size, #[.float .f64 4611686018427387904, .float .f64 4611686018427387904]), ((w4_.heap.size + 1), #[.float .f64 ql, .float .f64 qh]), (w4_.heap.size, #[.float .f64 pl, .float .f64 ph]), ((w2_.heap.size + 1), #[.float .f64 ol, .float .f64 oh]), (w2_.heap.size, #[.float .f64 sl, .float .f64 sh]), (w.heap.size, #[.float .f64 ul, .float .f64 uh])] _) := Lib.hid (M.out.set2 0 rfl (.float .f64 (Fl I)) (.float .f64 (Fh I)))
      go_simp
      refine hK.out _ _ (Or.inr ⟨(M.out.nth 3 rfl).two, (M.out.nth 4 rfl).two⟩) (fun hHeld => ?_)
      clear hK K hHeld kc kf
      refine tails_done (by kernel_rfl) ?_ _
      refine NoPanic.normal ?_
      clear hS
      replace M : Hid (Own w [((w4_.heap.size + 2), #[.int .i64 0]), (p14_1, #[.float .f64 (Fl I), .float .f64 (Fh I)]), (p13_1, #[.float .f64 (Cl I), .float .f64 (Ch I)]), (w15_.heap.size, #[.float .f64 (Ol I), .float .f64 (Oh I)]), (w5_.heap.size, #[.float .f64 4611686018427387904, .float .f64 4611686018427387904]), ((w4_.heap.size + 1), #[.float .f64 ql, .float .f64 qh]), (w4_.heap.size, #[.float .f64 pl, .float .f64 ph]), ((w2_.heap.size + 1), #[.float .f64 ol, .float .f64 oh]), (w2_.heap.size, #[.float .f64 sl, .float .f64 sh]), (w.heap.size, #[.float .f64 ul, .float .f64 uh])] _) := Lib.hid M.out.front
      revert M
      generalize ((v.setCell ⟨p14_1, 0, none⟩ (.float .f64 (Fl I))).setCell ⟨p14_1, 1, none⟩ (.float .f64 (Fh I))) = W17_
      intro M
      go_wp2_with fail
      refine (fI.out I hI _).mono ?_
      rintro r w18_ ⟨rfl, hb⟩
      replace M := Lib.hid (M.out.below hb)
      clear hb
      go_wp2_with fail
      refine (fS.out I hI _).mono ?_
      rintro r w19_ ⟨rfl, hb⟩
      replace M := Lib.hid (M.out.below hb)
      clear hb
      replace M := Lib.hid (M.out.made #[.float .f64 (Sl I), .float .f64 (Sh I)] 24).front
      replace M := Lib.hid (M.out.made #[.float .f64 (Tl I), .float .f64 (Th I)] 24).front
      simp only [World.size_alloc] at M
      obtain ⟨k1, k2⟩ := (M.out.nth 4 rfl).two
      go_wp2_with fail
      refine (fR.out I hI _ _ (M.out.nth 0 rfl)).mono ?_
      rintro r w20_ ⟨rfl, hb⟩
      replace M : Hid (Own w [((w4_.heap.size + 2), #[.int .i64 0]), ((w19_.heap.size + 1), #[.float .f64 (Tl I), .float .f64 (Th I)]), (w19_.heap.size, #[.float .f64 (Sl I), .float .f64 (Sh I)]), (p14_1, #[.float .f64 (Fl I), .float .f64 (Fh I)]), (p13_1, #[.float .f64 (Cl I), .float .f64 (Ch I)]), (w15_.heap.size, #[.float .f64 (Ol I), .float .f64 (Oh I)]), (w5_.heap.size, #[.float .f64 4611686018427387904, .float .f64 4611686018427387904]), ((w4_.heap.size + 1), #[.float .f64 ql, .float .f64 qh]), (w4_.heap.size, #[.float .f64 pl, .float .f64 ph]), ((w2_.heap.size + 1), #[.float .f64 ol, .float .f64 oh]), (w2_.heap.size, #[.float .f64 sl, .float .f64 sh]), (w.heap.size, #[.float .f64 ul, .float .f64 uh])] w20_) := Lib.hid (M.out.putAt 0 rfl hb)
      clear hb
      clear k1 k2
      have kc := (M.out.nth 5 rfl).2.1
      have kf := (M.out.nth 5 rfl).2.2
      replace M : Hid (Own w [((w4_.heap.size + 2), #[.int .i64 0]), ((w19_.heap.size + 1), #[.float .f64 (Tl I), .float .f64 (Th I)]), (w19_.heap.size, #[.float .f64 (Sl I), .float .f64 (Sh I)]), (p14_1, #[.float .f64 (Fl I), .float .f64 (Fh I)]), (p13_1, #[.float .f64 (Cl I), .float .f64 (Ch I)]), (w15_.heap.size, #[.float .f64 (Ol (I + 1)), .float .f64 (Oh (I + 1))]), (w5_.heap.size, #[.float .f64 4611686018427387904, .float .f64 4611686018427387904]), ((w4_.heap.size + 1), #[.float .f64 ql, .float .f64 qh]), (w4_.heap.size, #[.float .f64 pl, .float .f64 ph]), ((w2_.heap.size + 1), #[.float .f64 ol, .float .f64 oh]), (w2_.heap.size, #[.float .f64 sl, .float .f64 sh]), (w.heap.size, #[.float .f64 ul, .float .f64 uh])] _) := Lib.hid (M.out.set2 5 rfl (.float .f64 (Ol (I + 1))) (.float .f64 (Oh (I + 1))))
      go_upto_region 17 with fail
      clear kc kf
      replace M := Lib.hid M.out.drew
      revert M
      generalize ((w20_.setCell ⟨w15_.heap.size, 0, none⟩ (.float .f64 (Ol (I + 1)))).setCell ⟨w15_.heap.size, 1, none⟩ (.float .f64 (Oh (I + 1)))) = W21_
      intro M
      refine wp_region_noPanic ?_
      refine tails_region (S := fun w' => (w'.cell? ⟨(w19_.heap.size + 1), 0, none⟩ = some (.float .f64 (Tl I)) ∧ w'.cell? ⟨(w19_.heap.size + 1), 1, none⟩ = some (.float .f64 (Th I))) ∧ (w'.cell? ⟨w15_.heap.size, 0, none⟩ = some (.float .f64 (Ol (I + 1))) ∧ w'.cell? ⟨w15_.heap.size, 1, none⟩ = some (.float .f64 (Oh (I + 1)))) ∧ (w'.cell? ⟨w19_.heap.size, 0, none⟩ = some (.float .f64 (Sl I)) ∧ w'.cell? ⟨w19_.heap.size, 1, none⟩ = some (.float .f64 (Sh I))) ∧ (w'.cell? ⟨p14_1, 0, none⟩ = some (.float .f64 (Fl I)) ∧ w'.cell? ⟨p14_1, 1, none⟩ = some (.float .f64 (Fh I)))) [] (by kernel_rfl) ?_ (fun hS => ?_)
      · exact ⟨(M.out.nth 1 rfl).two, (M.out.nth 5 rfl).two, (M.out.nth 2 rfl).two, (M.out.nth 3 rfl).two⟩
      refine tk (x := ?_) 0 rfl (by kernel_rfl) ⟨by kernel_rfl, ?_⟩ (fun _ _ _ h => h) hS ?_
      rotate_left; focus (intro w hSw; (try dsimp only at hSw); go_simp; try with_reducible rfl)
      refine tk (x := ?_) 1 rfl (by kernel_rfl) ⟨by kernel_rfl, ?_⟩ (fun _ _ _ h => h) hS ?_
      rotate_left; focus (intro w hSw; (try dsimp only at hSw); go_simp; try with_reducible rfl)
      conv => arg 9; simp only [Act.put, go_sem]
      refine tk (x := ?_) 2 rfl (by kernel_rfl) ⟨by kernel_rfl, ?_⟩ (fun _ _ _ h => h) hS ?_
      rotate_left; focus (intro w hSw; (try dsimp only at hSw); go_simp; try with_reducible rfl)
      refine tk (x := ?_) 3 rfl (by kernel_rfl) ⟨by kernel_rfl, ?_⟩ (fun _ _ _ h => h) hS ?_
      rotate_left; focus (intro w hSw; (try dsimp only at hSw); go_simp; try with_reducible rfl)
      conv => arg 9; simp only [Act.put, go_sem]
      refine tk (x := ?_) 4 rfl (by kernel_rfl) ⟨by kernel_rfl, ?_⟩ (fun _ _ _ h => h) hS ?_
      rotate_left; focus (intro w hSw; (try dsimp only at hSw); go_simp; try with_reducible rfl)
      conv => arg 9; simp only [Act.put, go_sem]
      refine tails_one (T := []) (i := 5) (o := _) rfl (by kernel_rfl) (fun K hK => ?_)
      go_simp
      refine (fM.out I hI _).mono ?_
      rintro rr w22_ ⟨rfl, hb⟩
      replace M := Lib.hid (M.out.below hb)
      clear hb
      try go_wp2_with fail
      refine hK.out _ _ (Or.inr ⟨(M.out.nth 1 rfl).two, (M.out.nth 5 rfl).two, (M.out.nth 2 rfl).two, (M.out.nth 3 rfl).two⟩) (fun hHeld => ?_)
      clear hK K hHeld
      replace hS := (And.intro (M.out.nth 1 rfl).two (And.intro (M.out.nth 5 rfl).two (And.intro (M.out.nth 2 rfl).two (M.out.nth 3 rfl).two)))
      refine tk (x := ?_) 6 rfl (by kernel_rfl) ⟨by kernel_rfl, ?_⟩ (fun _ _ _ h => h) hS ?_
      rotate_left; focus (intro w hSw; (try dsimp only at hSw); go_simp; try with_reducible rfl)
      refine tk (x := ?_) 7 rfl (by kernel_rfl) ⟨by kernel_rfl, ?_⟩ (fun _ _ _ h => h) hS ?_
      rotate_left; focus (intro w hSw; (try dsimp only at hSw); go_simp; try with_reducible rfl)
      refine tk (x := ?_) 8 rfl (by kernel_rfl) ⟨by kernel_rfl, ?_⟩ (fun _ _ _ h => h) hS ?_
      rotate_left; focus (intro w hSw; (try dsimp only at hSw); go_simp; try with_reducible rfl)
      refine tk (x := ?_) 9 rfl (by kernel_rfl) ⟨by kernel_rfl, ?_⟩ (fun _ _ _ h => h) hS ?_
      rotate_left; focus (intro w hSw; (try dsimp only at hSw); go_simp; try with_reducible rfl)
      refine tk (x := ?_) 10 rfl (by kernel_rfl) ⟨by kernel_rfl, ?_⟩ (fun _ _ _ h => h) hS ?_
      rotate_left; focus (intro w hSw; (try dsimp only at hSw); go_simp; try with_reducible rfl)
      refine tails_one (T := []) (i := 11) (o := _) rfl (by kernel_rfl) (fun K hK => ?_)
      go_simp
      refine (fQ.out I hI _ _ (M.out.nth 0 rfl)).mono ?_
      rintro rr w23_ ⟨rfl, hb⟩
      replace M : Hid (Own w [((w4_.heap.size + 2), #[.int .i64 0]), ((w19_.heap.size + 1), #[.float .f64 (Tl I), .float .f64 (Th I)]), (w19_.heap.size, #[.float .f64 (Sl I), .float .f64 (Sh I)]), (p14_1, #[.float .f64 (Fl I), .float .f64 (Fh I)]), (p13_1, #[.float .f64 (Cl I), .float .f64 (Ch I)]), (w15_.heap.size, #[.float .f64 (Ol (I + 1)), .float .f64 (Oh (I + 1))]), (w5_.heap.size, #[.float .f64 4611686018427387904, .float .f64 4611686018427387904]), ((w4_.heap.size + 1), #[.float .f64 ql, .float .f64 qh]), (w4_.heap.size, #[.float .f64 pl, .float .f64 ph]), ((w2_.heap.size + 1), #[.float .f64 ol, .float .f64 oh]), (w2_.heap.size, #[.float .f64 sl, .float .f64 sh]), (w.heap.size, #[.float .f64 ul, .float .f64 uh])] w23_) := Lib.hid (M.out.putAt 0 rfl hb)
      clear hb
      try go_wp2_with fail
      refine hK.out _ _ (Or.inr ⟨(M.out.nth 1 rfl).two, (M.out.nth 5 rfl).two, (M.out.nth 2 rfl).two, (M.out.nth 3 rfl).two⟩) (fun hHeld => ?_)
      clear hK K hHeld
      replace hS := (And.intro (M.out.nth 1 rfl).two (And.intro (M.out.nth 5 rfl).two (And.intro (M.out.nth 2 rfl).two (M.out.nth 3 rfl).two)))
      refine tails_one (T := []) (i := 12) (o := _) rfl (by kernel_rfl) (fun K hK => ?_)
      go_simp
      refine (fN.out I hI _).mono ?_
      rintro rr w24_ ⟨rfl, hb⟩
      replace M := Lib.hid (M.out.below hb)
      clear hb
      try go_wp2_with fail
      refine hK.out _ _ (Or.inr ⟨(M.out.nth 1 rfl).two, (M.out.nth 5 rfl).two, (M.out.nth 2 rfl).two, (M.out.nth 3 rfl).two⟩) (fun hHeld => ?_)
      clear hK K hHeld
      replace hS := (And.intro (M.out.nth 1 rfl).two (And.intro (M.out.nth 5 rfl).two (And.intro (M.out.nth 2 rfl).two (M.out.nth 3 rfl).two)))
      refine tk (x := ?_) 13 rfl (by kernel_rfl) ⟨by kernel_rfl, ?_⟩ (fun _ _ _ h => h) hS ?_
      rotate_left; focus (intro w hSw; (try dsimp only at hSw); go_simp; try with_reducible rfl)
      refine tk (x := ?_) 14 rfl (by kernel_rfl) ⟨by kernel_rfl, ?_⟩ (fun _ _ _ h => h) hS ?_
      rotate_left; focus (intro w hSw; (try dsimp only at hSw); go_simp; try with_reducible rfl)
      refine tk (x := ?_) 15 rfl (by kernel_rfl) ⟨by kernel_rfl, ?_⟩ (fun _ _ _ h => h) hS ?_
      rotate_left; focus (intro w hSw; (try dsimp only at hSw); go_simp; try with_reducible rfl)
      refine tails_one (T := []) (i := 16) (o := _) rfl (by kernel_rfl) (fun K hK => ?_)
      go_simp
      refine (err_any 0 _ 0 _ (M.out.nth 0 rfl).pc).mono ?_
      rintro rr w25_ ⟨rfl, rfl⟩
      try go_wp2_with fail
      refine hK.out _ _ (Or.inr ⟨(M.out.nth 1 rfl).two, (M.out.nth 5 rfl).two, (M.out.nth 2 rfl).two, (M.out.nth 3 rfl).two⟩) (fun hHeld => ?_)
      clear hK K hHeld
      replace hS := (And.intro (M.out.nth 1 rfl).two (And.intro (M.out.nth 5 rfl).two (And.intro (M.out.nth 2 rfl).two (M.out.nth 3 rfl).two)))
      refine tk (x := ?_) 17 rfl (by kernel_rfl) ⟨by kernel_rfl, ?_⟩ (fun _ _ _ h => h) hS ?_
      rotate_left; focus (intro w hSw; (try dsimp only at hSw); go_simp; try with_reducible rfl)
      refine tk (x := ?_) 18 rfl (by kernel_rfl) ⟨by kernel_rfl, ?_⟩ (fun _ _ _ h => h) hS ?_
      rotate_left; focus (intro w hSw; (try dsimp only at hSw); go_simp; try with_reducible rfl)
      refine tails_done (by kernel_rfl) ?_ _
      refine NoPanic.normal ?_
      clear hS
      go_wp2_with fail
      go_roundw
      case rel => exact ⟨I + 1, by omega, by go_num, rfl, M.out.front.tail.front.tail.front.tail.front.tail⟩
      case measure => simp [intOf]; omega
    · have e : 20 = I := by omega
      have hb1 : decide (I < 20) = false := decide_eq_false hI
      have hb2 : decide ((I : Int) < 20) = false := decide_eq_false (by omega)
      replace M : Hid (Own w [((w4_.heap.size + 2), #[.int .i64 0]), (w15_.heap.size, #[.float .f64 (Ol 20), .float .f64 (Oh 20)]), (w5_.heap.size, #[.float .f64 4611686018427387904, .float .f64 4611686018427387904]), ((w4_.heap.size + 1), #[.float .f64 ql, .float .f64 qh]), (w4_.heap.size, #[.float .f64 pl, .float .f64 ph]), ((w2_.heap.size + 1), #[.float .f64 ol, .float .f64 oh]), (w2_.heap.size, #[.float .f64 sl, .float .f64 sh]), (w.heap.size, #[.float .f64 ul, .float .f64 uh])] _) := Lib.hid (by rw [e]; exact M.out)
      clear e
      go_wp2_with fail
      refine (c15.out _).mono ?_
      rintro r w26_ ⟨rfl, hb⟩
      replace M := Lib.hid (M.out.below hb)
      clear hb
      go_wp2
      go_ret
      exact ⟨rfl, M.out.base⟩

end Go.Proofs.Ytoiaefgpegiieaa

namespace Go.Proofs.Ytoiaefgpegiieaa
open Go.RowKit

theorem meet4_any {a b : Res} (fa : Fit a) (fb : Fit b) (h : bothB a.lo a.hi b.lo b.hi = true) (w : World) :
    Calls Try.prog 15 #[.agg #[.float .f64 a.lo, .float .f64 a.hi], .agg #[.float .f64 b.lo, .float .f64 b.hi]] w fun r w' => r = .returned (.bool true) ∧ Below w.heap.size w w' := by
  have k := fun w => meet_any a.lo a.hi b.lo b.hi w fa.lo fa.hi fb.lo fb.hi fa.rlo fa.rhi fb.rlo fb.rhi
  rw [h] at k
  exact meet4_walk w (Lib.hid k)
theorem both_of {a b : Res} (fa : Fit a) (fb : Fit b) (h : val a.lo ≤ val b.hi ∧ val b.lo ≤ val a.hi) : bothB a.lo a.hi b.lo b.hi = true := by
  obtain ⟨_, _, x3⟩ := max_facts a.lo b.lo fa.lo fb.lo fa.rlo fb.rlo
  obtain ⟨_, _, y3⟩ := min_facts a.hi b.hi fa.hi fb.hi fa.rhi fb.rhi
  have l1 := fa.le
  have l2 := fb.le
  show leB (maxW a.lo b.lo) (minW a.hi b.hi) = true
  unfold leB
  rw [x3, y3]
  exact decide_eq_true (by omega)
/-- The double of a word. -/
theorem double_steps {x : Nat} (h : x < 4503599627370496) : steps (2 * x) = 2 * steps x := by
  have e : steps x = x := by unfold steps; rw [if_pos (by omega)]
  rw [e]
  unfold steps
  by_cases g : 2 * x / 4503599627370496 = 0
  · rw [if_pos g]
  · have g1 : 2 * x / 4503599627370496 = 1 := by omega
    rw [if_neg g, g1]
    show (4503599627370496 + 2 * x % 4503599627370496) * 1 = 2 * x
    omega
theorem norm_steps {c : Nat} (h : 4503599627370496 ≤ c) : steps (c + 4503599627370496) = 2 * steps c := by
  unfold steps
  obtain ⟨k, hk⟩ : ∃ k, c / 4503599627370496 = k + 1 := ⟨c / 4503599627370496 - 1, by omega⟩
  have e1 : (c + 4503599627370496) / 4503599627370496 = k + 1 + 1 := by omega
  have e2 : (c + 4503599627370496) % 4503599627370496 = c % 4503599627370496 := by omega
  rw [e1, e2, hk, if_neg (by omega), if_neg (by omega)]
  show _ * 2 ^ (k + 1) = 2 * (_ * 2 ^ k)
  rw [Nat.pow_succ, ← Nat.mul_assoc, Nat.mul_comm _ 2]
theorem two_word : val 4611686018427387904 = 2 * ((2 ^ sq : Nat) : Int) := by decide +kernel
theorem one_steps : ((steps 4607182418800017408 : Nat) : Int) = SS := by decide +kernel
theorem double_word {x : Nat} (h : Turn x) (hx : 2 * val x ≤ SS) : ∃ d, floatBits .mul .f64 4611686018427387904 x = some d ∧ Turn d ∧ val d = 2 * val x := by
  by_cases x0 : x = 0
  · subst x0
    exact ⟨0, by decide +kernel, ⟨by decide, by decide, by decide +kernel, by decide +kernel⟩, by decide +kernel⟩
  have sx : sgnB x = false := by
    cases k : sgnB x
    · rfl
    · have := (val_neg x h.lt h.right).2 k
      have := h.lo
      omega
  have rx : rung x = x := by
    have := of_decide_eq_false sx
    unfold rung; omega
  have vx : val x = (steps x : Int) := by rw [val_pos sx, rx]
  have s0 := SS0
  have xlt : x < 4607182418800017408 := by
    rcases Nat.lt_or_ge x 4607182418800017408 with g | g
    · exact g
    · have := steps_le g
      have := one_steps
      omega
  obtain ⟨d, d1, d2, d3⟩ : ∃ d, d < 9218868437227405312 ∧ d ≠ 0 ∧ steps d = 2 * steps x := by
    by_cases g : x < 4503599627370496
    · exact ⟨2 * x, by omega, by omega, double_steps g⟩
    · exact ⟨x + 4503599627370496, by omega, by omega, norm_steps (by omega)⟩
  obtain ⟨p1, p2, p3, p4, p5⟩ := pos_facts d d1
  have e : val d = 2 * val x := by rw [p5, vx, d3]; omega
  have l := h.lo
  refine ⟨d, mul_exact _ _ _ (by decide) h.lt (by decide) h.right d1 d2 ?_, ⟨p1, p2, by omega, by rw [u1_val]; omega⟩, e⟩
  rw [two_word, e]
  generalize ((2 ^ sq : Nat) : Int) = P
  generalize val x = X
  rw [Int.mul_assoc, Int.mul_assoc, Int.mul_comm X P]
theorem fine_of {a b : Nat} (t : Turn a) (s : Turn b) (h : val a ≤ val b) : fineB a b = true := by
  unfold fineB ivR leB
  rw [t.right, s.right, val_nil, decide_eq_true t.lo, decide_eq_true s.hi, decide_eq_true h]; rfl
theorem half_word : val 4602678819172646912 * 2 = SS := by decide +kernel

def hx (i : Nat) : Nat := 4602678819172646912 - i * 4503599627370496
theorem hx_half : ∀ i, i < 20 → floatBits .quo .f64 (hx i) 4611686018427387904 = some (hx (i + 1)) := by decide +kernel
theorem hx_turn : ∀ i, i < 20 → (decide (hx (i + 1) < 18446744073709551616) && rightB (hx (i + 1)) && decide (0 ≤ val (hx (i + 1))) && decide (val (hx (i + 1)) ≤ val u1)) = true := by decide +kernel
theorem two_fit : Fit (oneR 4611686018427387904) := .of (by decide +kernel)
theorem nil_fit : Fit (oneR 0) := .of (by decide +kernel)
structure Hok (i : Nat) : Prop where
  o : Fit (Hv.o i)
  a : Fit (Hv.a (Hv.o i))
  b : Fit (Hv.b (Hv.o i))
  c : Fit (Hv.c (Hv.o i))
  d : Fit (Hv.d (Hv.o i))
  e : Fit (Hv.e (Hv.o i))
  f : Fit (Hv.f (Hv.o i))
  s : Fit (Hv.s (Hv.o i))
  n : Fit (Hv.o (i + 1))
  t : Turn (hx (i + 1))
  m : bothB (cosU (hx (i + 1)) (hx (i + 1))).lo (cosU (hx (i + 1)) (hx (i + 1))).hi (Hv.o (i + 1)).lo (Hv.o (i + 1)).hi = true
  k : bothB (sinU (hx (i + 1)) (hx (i + 1))).lo (sinU (hx (i + 1)) (hx (i + 1))).hi (Hv.s (Hv.o i)).lo (Hv.s (Hv.o i)).hi = true
theorem hok (i : Nat) (h : i < 20) : Hok i := by
  have g := halves_ok i h
  unfold Hv.ok at g
  simp only [Bool.and_eq_true] at g
  have t := hx_turn i h
  simp only [Bool.and_eq_true, decide_eq_true_eq] at t
  have fo : Fit (Hv.o i) := by
    rcases i with _ | i
    · exact m1_fit
    · have g' := halves_ok i (by omega)
      unfold Hv.ok at g'
      simp only [Bool.and_eq_true] at g'
      exact .of g'.1.1.2
  obtain ⟨⟨⟨⟨⟨⟨⟨⟨⟨g1, g2⟩, g3⟩, g4⟩, g5⟩, g6⟩, g7⟩, g8⟩, g9⟩, g10⟩ := g
  exact ⟨fo, .of g1, .of g2, .of g3, .of g4, .of g5, .of g6, .of g7, .of g8, ⟨t.1.1.1, t.1.1.2, t.1.2, t.2⟩, g9, g10⟩

theorem halves_any (al ah : Nat) (w : World) (la : al < 18446744073709551616) (ha : ah < 18446744073709551616) :
    Calls Try.prog 4 #[.agg #[.float .f64 al, .float .f64 ah]] w fun r w' => r = .returned (.bool true) ∧ Below w.heap.size w w' := by
  have cF := fun w => fine_any al ah w la ha
  cases hf : fineB al ah
  · rw [hf] at cF
    exact halves_unfine (ul := al) (uh := ah) w (c1 := Lib.hid cF) (c2 := Lib.hid awake4_any)
  · rw [hf] at cF
    obtain ⟨t1, t2, hr, hle⟩ := fine_turn la ha hf
    have hg := order_gt ah 4602678819172646912 ha (by decide) t2.right (by decide)
    by_cases g : val 4602678819172646912 < val ah
    · rw [decide_eq_true g] at hg
      exact halves_great (ul := al) (uh := ah) w (c1 := Lib.hid cF) (o_gtruh_819172646912 := hg) (c2 := Lib.hid awake4_any)
    · rw [decide_eq_false g] at hg
      have hw := half_word
      obtain ⟨dl, q1, t3, v1⟩ := double_word t1 (by omega)
      obtain ⟨dh, q2, t4, v2⟩ := double_word t2 (by omega)
      have hd := fine_of t3 t4 (by omega)
      obtain ⟨iS, iO⟩ := sinU_wide t1 t2
      obtain ⟨_, _, fp, _, fq⟩ := sin_fits' t3 t4
      have k := twofold t1 t2 t3 t4 v1 iS iO
      exact halves_law (X := hx) (Ol := fun i => (Hv.o i).lo) (Oh := fun i => (Hv.o i).hi) (Al := fun i => (Hv.a (Hv.o i)).lo) (Ah := fun i => (Hv.a (Hv.o i)).hi) (Bl := fun i => (Hv.b (Hv.o i)).lo) (Bh := fun i => (Hv.b (Hv.o i)).hi) (Cl := fun i => (Hv.c (Hv.o i)).lo) (Ch := fun i => (Hv.c (Hv.o i)).hi)
        (Dl := fun i => (Hv.d (Hv.o i)).lo) (Dh := fun i => (Hv.d (Hv.o i)).hi) (El := fun i => (Hv.e (Hv.o i)).lo) (Eh := fun i => (Hv.e (Hv.o i)).hi) (Fl := fun i => (Hv.f (Hv.o i)).lo) (Fh := fun i => (Hv.f (Hv.o i)).hi) (Ql := fun i => (Hv.s (Hv.o i)).lo) (Qh := fun i => (Hv.s (Hv.o i)).hi)
        (Sl := fun i => (sinU (hx (i + 1)) (hx (i + 1))).lo) (Sh := fun i => (sinU (hx (i + 1)) (hx (i + 1))).hi) (Tl := fun i => (cosU (hx (i + 1)) (hx (i + 1))).lo) (Th := fun i => (cosU (hx (i + 1)) (hx (i + 1))).hi)
        (ul := al) (uh := ah) w (c1 := Lib.hid cF) (o_gtruh_819172646912 := hg) (c2 := Lib.hid fun w => sin_any al ah w la ha hf)
        (q_dl := fun w => run_float_arith (P := Try.prog) (w := w) .mul _ .f64 _ _ _ q1) (q_dh := fun w => run_float_arith (P := Try.prog) (w := w) .mul _ .f64 _ _ _ q2) (c3 := Lib.hid fun w => iv4_any dl dh w) (c4 := Lib.hid fun w => sin_any dl dh w t3.lt t4.lt hd)
        (d5 := Lib.hid fun pb => calc_num two_fit pb) (d6 := Lib.hid fun pb => calc_mul iS.fit iO.fit k.m pb) (d7 := Lib.hid fun pb => calc_mul two_fit k.m k.d pb) (c8 := Lib.hid (meet4_any fp k.d (both_of fp k.d k.a)))
        (d9 := Lib.hid fun pb => calc_sqr iO.fit k.o pb) (d10 := Lib.hid fun pb => calc_sqr iS.fit k.s pb) (d11 := Lib.hid fun pb => calc_sub k.o k.s k.r pb) (c12 := Lib.hid (meet4_any fq k.r (both_of fq k.r k.b)))
        (d14 := Lib.hid fun pb => calc_num m1_fit pb) (d115 := Lib.hid fun pb => calc_num u1_fit pb) (d118 := Lib.hid fun pb => calc_num nil_fit pb)
        (fA := Lib.hid fun i h pb => calc_add u1_fit (hok i h).o (hok i h).a pb) (fB := Lib.hid fun i h pb => calc_div (hok i h).a two_fit (hok i h).b pb) (fC := Lib.hid fun i h pb => calc_max (hok i h).b nil_fit (hok i h).c pb)
        (fD := Lib.hid fun i h pb => calc_sub u1_fit (hok i h).o (hok i h).d pb) (fE := Lib.hid fun i h pb => calc_div (hok i h).d two_fit (hok i h).e pb) (fF := Lib.hid fun i h pb => calc_max (hok i h).e nil_fit (hok i h).f pb)
        (fR := Lib.hid fun i h pb => calc_sqrt (hok i h).c (hok i h).n pb) (fQ := Lib.hid fun i h pb => calc_sqrt (hok i h).f (hok i h).s pb)
        (fI := Lib.hid fun i _ w => iv4_any _ _ w) (fS := Lib.hid fun i h w => sin_any _ _ w (hok i h).t.lt (hok i h).t.lt (fine_of (hok i h).t (hok i h).t (Int.le_refl _)))
        (fM := Lib.hid fun i h w => meet4_any (sin_fits' (hok i h).t (hok i h).t).2.2.2.2 (hok i h).n (hok i h).m w) (fN := Lib.hid fun i h w => meet4_any (sin_fits' (hok i h).t (hok i h).t).2.2.1 (hok i h).s (hok i h).k w)
        (qX := Lib.hid fun i h w => run_float_arith (P := Try.prog) (w := w) .quo _ .f64 _ _ _ (hx_half i h)) (c15 := Lib.hid awake4_any) (h0 := Lib.hid ⟨rfl, rfl, rfl⟩)
end Go.Proofs.Ytoiaefgpegiieaa
