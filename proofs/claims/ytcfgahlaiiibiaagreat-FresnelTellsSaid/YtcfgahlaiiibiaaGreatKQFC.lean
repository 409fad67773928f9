/- burnishref06: Conductor, by letters. -/
import Derived.Test.YtcfgahlaiiibiaaGreatKQFA
namespace Go.Proofs.YtcfgahlaiiibiaaGreat
open Go.RowKit
attribute [local go_sem] run_store_float

def rdielJ6 (w : World) (pb : Nat) (r1l r1h r3l r3h r4l r4h r5l r5h : Nat) (l : RowL) (a0 : Act) (k : Nat) (p : List (Option Nat)) (a : Act) (v : World) : Prop :=
  ∃ y1 y2 y3 y4 y5 z1 : Value, a = ((((((a0.put (some 40) y1).put (some 42) y2).put (some 43) y3).put (some 46) y4).put (some 47) y5).put (some 7) z1) ∧ (0 < k → y1 = .agg #[.float .f64 r1l, .float .f64 r1h]) ∧ (1 < k → y2 = .agg #[.float .f64 4607182418800017408, .float .f64 4607182418800017408]) ∧ (2 < k → y3 = .agg #[.float .f64 r3l, .float .f64 r3h]) ∧ (3 < k → y4 = .agg #[.float .f64 r4l, .float .f64 r4h]) ∧ (4 < k → y5 = .agg #[.float .f64 r5l, .float .f64 r5h]) ∧ (∀ q, p[0]? = some (some q) → z1 = .pointer (some ⟨q, 0, none⟩)) ∧ OwnF w ((pb, #[.int .i64 0]) :: l) [#[.float .f64 0, .float .f64 0]] p v
section
variable {w v : World} {pb : Nat} {r1l r1h r3l r3h r4l r4h r5l r5h : Nat} {l : RowL} {a0 a : Act} {p : List (Option Nat)}
theorem rdielJ6_0 (h : rdielJ6 w pb r1l r1h r3l r3h r4l r4h r5l r5h l a0 0 p a v) : ∃ y1 y2 y3 y4 y5 z1 : Value, a = ((((((a0.put (some 40) y1).put (some 42) y2).put (some 43) y3).put (some 46) y4).put (some 47) y5).put (some 7) z1) ∧ (∀ q, p[0]? = some (some q) → z1 = .pointer (some ⟨q, 0, none⟩)) ∧ OwnF w ((pb, #[.int .i64 0]) :: l) [#[.float .f64 0, .float .f64 0]] p v := by
  obtain ⟨y1, y2, y3, y4, y5, z1, ha, E1, E2, E3, E4, E5, G1, h⟩ := h
  exact ⟨y1, y2, y3, y4, y5, z1, ha, G1, h⟩
theorem rdielJ6_1 (h : rdielJ6 w pb r1l r1h r3l r3h r4l r4h r5l r5h l a0 1 p a v) : ∃ y2 y3 y4 y5 z1 : Value, a = ((((((a0.put (some 40) (.agg #[.float .f64 r1l, .float .f64 r1h])).put (some 42) y2).put (some 43) y3).put (some 46) y4).put (some 47) y5).put (some 7) z1) ∧ (∀ q, p[0]? = some (some q) → z1 = .pointer (some ⟨q, 0, none⟩)) ∧ OwnF w ((pb, #[.int .i64 0]) :: l) [#[.float .f64 0, .float .f64 0]] p v := by
  obtain ⟨y1, y2, y3, y4, y5, z1, ha, E1, E2, E3, E4, E5, G1, h⟩ := h
  obtain rfl := E1 (by decide)
  exact ⟨y2, y3, y4, y5, z1, ha, G1, h⟩
theorem rdielJ6_2 (h : rdielJ6 w pb r1l r1h r3l r3h r4l r4h r5l r5h l a0 2 p a v) : ∃ y3 y4 y5 z1 : Value, a = ((((((a0.put (some 40) (.agg #[.float .f64 r1l, .float .f64 r1h])).put (some 42) (.agg #[.float .f64 4607182418800017408, .float .f64 4607182418800017408])).put (some 43) y3).put (some 46) y4).put (some 47) y5).put (some 7) z1) ∧ (∀ q, p[0]? = some (some q) → z1 = .pointer (some ⟨q, 0, none⟩)) ∧ OwnF w ((pb, #[.int .i64 0]) :: l) [#[.float .f64 0, .float .f64 0]] p v := by
  obtain ⟨y1, y2, y3, y4, y5, z1, ha, E1, E2, E3, E4, E5, G1, h⟩ := h
  obtain rfl := E1 (by decide)
  obtain rfl := E2 (by decide)
  exact ⟨y3, y4, y5, z1, ha, G1, h⟩
theorem rdielJ6_3 (h : rdielJ6 w pb r1l r1h r3l r3h r4l r4h r5l r5h l a0 3 p a v) : ∃ y4 y5 z1 : Value, a = ((((((a0.put (some 40) (.agg #[.float .f64 r1l, .float .f64 r1h])).put (some 42) (.agg #[.float .f64 4607182418800017408, .float .f64 4607182418800017408])).put (some 43) (.agg #[.float .f64 r3l, .float .f64 r3h])).put (some 46) y4).put (some 47) y5).put (some 7) z1) ∧ (∀ q, p[0]? = some (some q) → z1 = .pointer (some ⟨q, 0, none⟩)) ∧ OwnF w ((pb, #[.int .i64 0]) :: l) [#[.float .f64 0, .float .f64 0]] p v := by
  obtain ⟨y1, y2, y3, y4, y5, z1, ha, E1, E2, E3, E4, E5, G1, h⟩ := h
  obtain rfl := E1 (by decide)
  obtain rfl := E2 (by decide)
  obtain rfl := E3 (by decide)
  exact ⟨y4, y5, z1, ha, G1, h⟩
theorem rdielJ6_4 (h : rdielJ6 w pb r1l r1h r3l r3h r4l r4h r5l r5h l a0 4 p a v) : ∃ y5 z1 : Value, a = ((((((a0.put (some 40) (.agg #[.float .f64 r1l, .float .f64 r1h])).put (some 42) (.agg #[.float .f64 4607182418800017408, .float .f64 4607182418800017408])).put (some 43) (.agg #[.float .f64 r3l, .float .f64 r3h])).put (some 46) (.agg #[.float .f64 r4l, .float .f64 r4h])).put (some 47) y5).put (some 7) z1) ∧ (∀ q, p[0]? = some (some q) → z1 = .pointer (some ⟨q, 0, none⟩)) ∧ OwnF w ((pb, #[.int .i64 0]) :: l) [#[.float .f64 0, .float .f64 0]] p v := by
  obtain ⟨y1, y2, y3, y4, y5, z1, ha, E1, E2, E3, E4, E5, G1, h⟩ := h
  obtain rfl := E1 (by decide)
  obtain rfl := E2 (by decide)
  obtain rfl := E3 (by decide)
  obtain rfl := E4 (by decide)
  exact ⟨y5, z1, ha, G1, h⟩
theorem rdielJ6_fin {q1 : Nat} (h : rdielJ6 w pb r1l r1h r3l r3h r4l r4h r5l r5h l a0 5 [some q1] a v) : a = ((((((a0.put (some 40) (.agg #[.float .f64 r1l, .float .f64 r1h])).put (some 42) (.agg #[.float .f64 4607182418800017408, .float .f64 4607182418800017408])).put (some 43) (.agg #[.float .f64 r3l, .float .f64 r3h])).put (some 46) (.agg #[.float .f64 r4l, .float .f64 r4h])).put (some 47) (.agg #[.float .f64 r5l, .float .f64 r5h])).put (some 7) (.pointer (some ⟨q1, 0, none⟩))) ∧ OwnF w ((pb, #[.int .i64 0]) :: l) [#[.float .f64 0, .float .f64 0]] [some q1] v := by
  obtain ⟨y1, y2, y3, y4, y5, z1, ha, E1, E2, E3, E4, E5, G1, h⟩ := h
  obtain rfl := E1 (by decide)
  obtain rfl := E2 (by decide)
  obtain rfl := E3 (by decide)
  obtain rfl := E4 (by decide)
  obtain rfl := E5 (by decide)
  obtain rfl := G1 _ rfl
  exact ⟨ha, h⟩
end

def rdielJ14 (w : World) (pb : Nat) (r20l r20h r22l r22h r23l r23h : Nat) (l : RowL) (a0 : Act) (k : Nat) (p : List (Option Nat)) (a : Act) (v : World) : Prop :=
  ∃ y1 y2 y3 y4 y5 z1 : Value, a = ((((((a0.put (some 90) y1).put (some 92) y2).put (some 95) y3).put (some 97) y4).put (some 98) y5).put (some 15) z1) ∧ (0 < k → y1 = .agg #[.float .f64 4602678819172646912, .float .f64 4602678819172646912]) ∧ (1 < k → y2 = .agg #[.float .f64 r20l, .float .f64 r20h]) ∧ (2 < k → y3 = .agg #[.float .f64 4607182418800017408, .float .f64 4607182418800017408]) ∧ (3 < k → y4 = .agg #[.float .f64 r22l, .float .f64 r22h]) ∧ (4 < k → y5 = .agg #[.float .f64 r23l, .float .f64 r23h]) ∧ (∀ q, p[0]? = some (some q) → z1 = .pointer (some ⟨q, 0, none⟩)) ∧ OwnF w ((pb, #[.int .i64 0]) :: l) [#[.float .f64 0, .float .f64 0]] p v
section
variable {w v : World} {pb : Nat} {r20l r20h r22l r22h r23l r23h : Nat} {l : RowL} {a0 a : Act} {p : List (Option Nat)}
theorem rdielJ14_0 (h : rdielJ14 w pb r20l r20h r22l r22h r23l r23h l a0 0 p a v) : ∃ y1 y2 y3 y4 y5 z1 : Value, a = ((((((a0.put (some 90) y1).put (some 92) y2).put (some 95) y3).put (some 97) y4).put (some 98) y5).put (some 15) z1) ∧ (∀ q, p[0]? = some (some q) → z1 = .pointer (some ⟨q, 0, none⟩)) ∧ OwnF w ((pb, #[.int .i64 0]) :: l) [#[.float .f64 0, .float .f64 0]] p v := by
  obtain ⟨y1, y2, y3, y4, y5, z1, ha, E1, E2, E3, E4, E5, G1, h⟩ := h
  exact ⟨y1, y2, y3, y4, y5, z1, ha, G1, h⟩
theorem rdielJ14_1 (h : rdielJ14 w pb r20l r20h r22l r22h r23l r23h l a0 1 p a v) : ∃ y2 y3 y4 y5 z1 : Value, a = ((((((a0.put (some 90) (.agg #[.float .f64 4602678819172646912, .float .f64 4602678819172646912])).put (some 92) y2).put (some 95) y3).put (some 97) y4).put (some 98) y5).put (some 15) z1) ∧ (∀ q, p[0]? = some (some q) → z1 = .pointer (some ⟨q, 0, none⟩)) ∧ OwnF w ((pb, #[.int .i64 0]) :: l) [#[.float .f64 0, .float .f64 0]] p v := by
  obtain ⟨y1, y2, y3, y4, y5, z1, ha, E1, E2, E3, E4, E5, G1, h⟩ := h
  obtain rfl := E1 (by decide)
  exact ⟨y2, y3, y4, y5, z1, ha, G1, h⟩
theorem rdielJ14_2 (h : rdielJ14 w pb r20l r20h r22l r22h r23l r23h l a0 2 p a v) : ∃ y3 y4 y5 z1 : Value, a = ((((((a0.put (some 90) (.agg #[.float .f64 4602678819172646912, .float .f64 4602678819172646912])).put (some 92) (.agg #[.float .f64 r20l, .float .f64 r20h])).put (some 95) y3).put (some 97) y4).put (some 98) y5).put (some 15) z1) ∧ (∀ q, p[0]? = some (some q) → z1 = .pointer (some ⟨q, 0, none⟩)) ∧ OwnF w ((pb, #[.int .i64 0]) :: l) [#[.float .f64 0, .float .f64 0]] p v := by
  obtain ⟨y1, y2, y3, y4, y5, z1, ha, E1, E2, E3, E4, E5, G1, h⟩ := h
  obtain rfl := E1 (by decide)
  obtain rfl := E2 (by decide)
  exact ⟨y3, y4, y5, z1, ha, G1, h⟩
theorem rdielJ14_3 (h : rdielJ14 w pb r20l r20h r22l r22h r23l r23h l a0 3 p a v) : ∃ y4 y5 z1 : Value, a = ((((((a0.put (some 90) (.agg #[.float .f64 4602678819172646912, .float .f64 4602678819172646912])).put (some 92) (.agg #[.float .f64 r20l, .float .f64 r20h])).put (some 95) (.agg #[.float .f64 4607182418800017408, .float .f64 4607182418800017408])).put (some 97) y4).put (some 98) y5).put (some 15) z1) ∧ (∀ q, p[0]? = some (some q) → z1 = .pointer (some ⟨q, 0, none⟩)) ∧ OwnF w ((pb, #[.int .i64 0]) :: l) [#[.float .f64 0, .float .f64 0]] p v := by
  obtain ⟨y1, y2, y3, y4, y5, z1, ha, E1, E2, E3, E4, E5, G1, h⟩ := h
  obtain rfl := E1 (by decide)
  obtain rfl := E2 (by decide)
  obtain rfl := E3 (by decide)
  exact ⟨y4, y5, z1, ha, G1, h⟩
theorem rdielJ14_4 (h : rdielJ14 w pb r20l r20h r22l r22h r23l r23h l a0 4 p a v) : ∃ y5 z1 : Value, a = ((((((a0.put (some 90) (.agg #[.float .f64 4602678819172646912, .float .f64 4602678819172646912])).put (some 92) (.agg #[.float .f64 r20l, .float .f64 r20h])).put (some 95) (.agg #[.float .f64 4607182418800017408, .float .f64 4607182418800017408])).put (some 97) (.agg #[.float .f64 r22l, .float .f64 r22h])).put (some 98) y5).put (some 15) z1) ∧ (∀ q, p[0]? = some (some q) → z1 = .pointer (some ⟨q, 0, none⟩)) ∧ OwnF w ((pb, #[.int .i64 0]) :: l) [#[.float .f64 0, .float .f64 0]] p v := by
  obtain ⟨y1, y2, y3, y4, y5, z1, ha, E1, E2, E3, E4, E5, G1, h⟩ := h
  obtain rfl := E1 (by decide)
  obtain rfl := E2 (by decide)
  obtain rfl := E3 (by decide)
  obtain rfl := E4 (by decide)
  exact ⟨y5, z1, ha, G1, h⟩
theorem rdielJ14_fin {q1 : Nat} (h : rdielJ14 w pb r20l r20h r22l r22h r23l r23h l a0 5 [some q1] a v) : a = ((((((a0.put (some 90) (.agg #[.float .f64 4602678819172646912, .float .f64 4602678819172646912])).put (some 92) (.agg #[.float .f64 r20l, .float .f64 r20h])).put (some 95) (.agg #[.float .f64 4607182418800017408, .float .f64 4607182418800017408])).put (some 97) (.agg #[.float .f64 r22l, .float .f64 r22h])).put (some 98) (.agg #[.float .f64 r23l, .float .f64 r23h])).put (some 15) (.pointer (some ⟨q1, 0, none⟩))) ∧ OwnF w ((pb, #[.int .i64 0]) :: l) [#[.float .f64 0, .float .f64 0]] [some q1] v := by
  obtain ⟨y1, y2, y3, y4, y5, z1, ha, E1, E2, E3, E4, E5, G1, h⟩ := h
  obtain rfl := E1 (by decide)
  obtain rfl := E2 (by decide)
  obtain rfl := E3 (by decide)
  obtain rfl := E4 (by decide)
  obtain rfl := E5 (by decide)
  obtain rfl := G1 _ rfl
  exact ⟨ha, h⟩
end

set_option maxRecDepth 100000 in
set_option maxHeartbeats 16000000 in
theorem rdiel_walk (a0l a0h a1l a1h r1l r1h r3l r3h r4l r4h r5l r5h r6l r6h r7l r7h r8l r8h r9l r9h r10l r10h r11l r11h r13l r13h r14l r14h r16l r16h r17l r17h r18l r18h r20l r20h r22l r22h r23l r23h rKl rKh : Nat) (w : World)
    (cR0 : Hid (∀ v : World, Calls Tryz.prog 28 #[.agg #[.float .f64 a0l, .float .f64 a0h]] v fun r w' => r = .returned (.bool true) ∧ Below v.heap.size v w'))
    (cR1 : Hid (∀ v : World, Calls Tryz.prog 28 #[.agg #[.float .f64 a1l, .float .f64 a1h]] v fun r w' => r = .returned (.bool true) ∧ Below v.heap.size v w'))
    (cW0 : Hid (∀ v : World, Calls Tryz.prog 69 #[.agg #[.float .f64 a0l, .float .f64 a0h], .float .f64 0, .float .f64 4607182418800017408] v fun r w' => r = .returned (.bool true) ∧ Below v.heap.size v w'))
    (cW1 : Hid (∀ v : World, Calls Tryz.prog 69 #[.agg #[.float .f64 a1l, .float .f64 a1h], .float .f64 4607463893776728064, .float .f64 4616189618054758400] v fun r w' => r = .returned (.bool true) ∧ Below v.heap.size v w'))
    (d1 : Hid (K1 72 0 0 a1l a1h r1l r1h))
    (d2 : Hid (KN 44 0 0 4607182418800017408 4607182418800017408 4607182418800017408))
    (d3 : Hid (K2 71 0 0 r1l r1h 4607182418800017408 4607182418800017408 r3l r3h))
    (d4 : Hid (K1 72 0 0 a0l a0h r4l r4h))
    (d5 : Hid (K2 70 0 0 r3l r3h r4l r4h r5l r5h))
    (d6 : Hid (K1 73 0 0 r5l r5h r6l r6h))
    (d7 : Hid (K2 71 0 0 r6l r6h a0l a0h r7l r7h))
    (d8 : Hid (K2 70 0 0 r6l r6h a0l a0h r8l r8h))
    (d9 : Hid (K2 47 0 0 r7l r7h r8l r8h r9l r9h))
    (d10 : Hid (K1 72 0 0 r9l r9h r10l r10h))
    (d11 : Hid (K2 74 0 0 a0l a0h r8l r8h r11l r11h))
    (d12 : Hid (KN 44 0 0 4607182418800017408 4607182418800017408 4607182418800017408))
    (d13 : Hid (K2 71 0 0 r11l r11h 4607182418800017408 4607182418800017408 r13l r13h))
    (d14 : Hid (K2 74 0 0 a0l a0h r7l r7h r14l r14h))
    (d15 : Hid (KN 44 0 0 4607182418800017408 4607182418800017408 4607182418800017408))
    (d16 : Hid (K2 70 0 0 r14l r14h 4607182418800017408 4607182418800017408 r16l r16h))
    (d17 : Hid (K2 47 0 0 r13l r13h r16l r16h r17l r17h))
    (d18 : Hid (K1 72 0 0 r17l r17h r18l r18h))
    (d19 : Hid (KN 44 0 0 4602678819172646912 4602678819172646912 4602678819172646912))
    (d20 : Hid (K2 74 0 0 4602678819172646912 4602678819172646912 r10l r10h r20l r20h))
    (d21 : Hid (KN 44 0 0 4607182418800017408 4607182418800017408 4607182418800017408))
    (d22 : Hid (K2 70 0 0 4607182418800017408 4607182418800017408 r18l r18h r22l r22h))
    (d23 : Hid (K2 74 0 0 r20l r20h r22l r22h r23l r23h))
    (dK : Hid (∀ v : World, Calls Tryz.prog 75 #[.agg #[.float .f64 r23l, .float .f64 r23h], .float .f64 0, .float .f64 4607182418800017408] v fun r w' => r = .returned (.agg #[.float .f64 rKl, .float .f64 rKh]) ∧ Below v.heap.size v w')) :
    Calls Tryz.prog 19 #[.agg #[.float .f64 a0l, .float .f64 a0h], .agg #[.float .f64 a1l, .float .f64 a1h]] w fun r w' => r = .returned (.tuple #[.agg #[.float .f64 rKl, .float .f64 rKh], .int .i64 0]) ∧ Below w.heap.size w w' := by
  have M := Lib.hid ((((Own.nil w).made #[.float .f64 a0l, .float .f64 a0h] 24).made #[.float .f64 a1l, .float .f64 a1h] 24).made #[.float .f64 0, .float .f64 0] 24)
  simp only [World.size_alloc] at M
  obtain ⟨kk0, kk1⟩ := (M.out.nth 2 rfl).two
  obtain ⟨kk2, kk3⟩ := (M.out.nth 1 rfl).two
  go_enter Tryz.func19, Tryz.ntmps19
  go_wp2_with fail
  refine (cR0.out _).mono ?_
  rintro r w1 ⟨rfl, hb⟩
  replace M := Lib.hid (M.out.below hb)
  clear hb kk0 kk1 kk2 kk3
  obtain ⟨kk0, kk1⟩ := (M.out.nth 2 rfl).two
  obtain ⟨kk2, kk3⟩ := (M.out.nth 1 rfl).two
  go_wp2_with fail
  refine (cR1.out _).mono ?_
  rintro r w2 ⟨rfl, hb⟩
  replace M := Lib.hid (M.out.below hb)
  clear hb kk0 kk1 kk2 kk3
  obtain ⟨kk0, kk1⟩ := (M.out.nth 2 rfl).two
  obtain ⟨kk2, kk3⟩ := (M.out.nth 1 rfl).two
  go_wp2_with fail
  refine (cW0.out _).mono ?_
  rintro r w3 ⟨rfl, hb⟩
  replace M := Lib.hid (M.out.below hb)
  clear hb kk0 kk1 kk2 kk3
  obtain ⟨kk0, kk1⟩ := (M.out.nth 2 rfl).two
  obtain ⟨kk2, kk3⟩ := (M.out.nth 1 rfl).two
  go_wp2_with fail
  refine (cW1.out _).mono ?_
  rintro r w4 ⟨rfl, hb⟩
  replace M := Lib.hid (M.out.below hb)
  clear hb kk0 kk1 kk2 kk3
  replace M := Lib.hid (M.out.made #[.int .i64 0] 42)
  go_upto_region 6 with fail
  replace M := Lib.hid M.out.drew
  refine wp_region_noPanic ?_
  refine tails_region (S := fun w' => (w'.cell? ⟨(w.heap.size + 1), 0, none⟩ = some (.float .f64 a1l) ∧ w'.cell? ⟨(w.heap.size + 1), 1, none⟩ = some (.float .f64 a1h)) ∧ (w'.cell? ⟨w.heap.size, 0, none⟩ = some (.float .f64 a0l) ∧ w'.cell? ⟨w.heap.size, 1, none⟩ = some (.float .f64 a0h))) [] (by kernel_rfl) ?_ (fun hS => ?_)
  · exact ⟨(M.out.nth 2 rfl).two, (M.out.nth 3 rfl).two⟩
  refine tk (x := ?_) 0 rfl (by kernel_rfl) ⟨by rfl, ?_⟩ (fun _ _ _ h => h) hS ?_
  rotate_left; focus (intro w hSw; (try dsimp only at hSw); go_simp; try with_reducible rfl)
  refine tk (x := ?_) 1 rfl (by kernel_rfl) ⟨by rfl, ?_⟩ (fun _ _ _ h => h) hS ?_
  rotate_left; focus (intro w hSw; (try dsimp only at hSw); go_simp; try with_reducible rfl)
  refine tk (x := ?_) 2 rfl (by kernel_rfl) ⟨by rfl, ?_⟩ (fun _ _ _ h => h) hS ?_
  rotate_left; focus (intro w hSw; (try dsimp only at hSw); go_simp; try with_reducible rfl)
  refine tk (x := ?_) 3 rfl (by kernel_rfl) ⟨by rfl, ?_⟩ (fun _ _ _ h => h) hS ?_
  rotate_left; focus (intro w hSw; (try dsimp only at hSw); go_simp; try with_reducible rfl)
  refine tk (x := ?_) 5 rfl (by kernel_rfl) ⟨by rfl, ?_⟩ (fun _ _ _ h => h) hS ?_
  rotate_left; focus (intro w hSw; (try dsimp only at hSw); go_simp; try with_reducible rfl)
  refine tk (x := ?_) 8 rfl (by kernel_rfl) ⟨by rfl, ?_⟩ (fun _ _ _ h => h) hS ?_
  rotate_left; focus (intro w hSw; (try dsimp only at hSw); go_simp; try with_reducible rfl)
  refine tk (x := ?_) 9 rfl (by kernel_rfl) ⟨by rfl, ?_⟩ (fun _ _ _ h => h) hS ?_
  rotate_left; focus (intro w hSw; (try dsimp only at hSw); go_simp; try with_reducible rfl)
  conv => arg 9; simp only [Act.put, go_sem]
  refine lam_5_1 M (T := []) 4 6 7 10 11 12 [40, 42, 43, 46, 47, 7] 1 (rdielJ6 w w4.heap.size r1l r1h r3l r3h r4l r4h r5l r5h) (by kernel_rfl) (by kernel_rfl) ?_ ?_ ?_ ?_ ?_ ?_ ?_ ?_ ?_
  · intro A hA
    obtain ⟨y1, hq1⟩ := put_ex (hA 40 (by simp))
    obtain ⟨y2, hq2⟩ := put_ex (hA 42 (by simp))
    obtain ⟨y3, hq3⟩ := put_ex (hA 43 (by simp))
    obtain ⟨y4, hq4⟩ := put_ex (hA 46 (by simp))
    obtain ⟨y5, hq5⟩ := put_ex (hA 47 (by simp))
    obtain ⟨z1, hq6⟩ := put_ex (hA 7 (by simp))
    exact ⟨y1, y2, y3, y4, y5, z1, by rw [hq1, hq2, hq3, hq4, hq5, hq6], by omega, by omega, by omega, by omega, by omega, by simp, OwnF.start M.out 1⟩
  · rintro k p a v ⟨y1, y2, y3, y4, y5, z1, _, _, _, _, _, _, _, h⟩
    exact ⟨(h.own.nth 2 rfl).two, (h.own.nth 3 rfl).two⟩
  · intro p a v hJ
    refine op_step (o := _) rfl (fun K hK => ?_)
    obtain ⟨y1, y2, y3, y4, y5, z1, rfl, gg1, h⟩ := rdielJ6_0 hJ
    have h := Lib.hid h
    clear hJ
    go_simp
    refine (d1.out _ _ ((h.out.own.nth 0 rfl))).mono ?_
    rintro rr w5 ⟨rfl, hp⟩
    try go_wp2_with fail
    refine hK.out _ _ ⟨_, y2, y3, y4, y5, z1, ?_, fun _ => rfl, by omega, by omega, by omega, by omega, gg1, h.out.putHead hp⟩
    kernel_rfl
  · intro p a v hJ
    refine op_step (o := _) rfl (fun K hK => ?_)
    obtain ⟨y2, y3, y4, y5, z1, rfl, gg1, h⟩ := rdielJ6_1 hJ
    have h := Lib.hid h
    clear hJ
    go_simp
    refine (d2.out _ _ ((h.out.own.nth 0 rfl))).mono ?_
    rintro rr w5 ⟨rfl, hp⟩
    try go_wp2_with fail
    refine hK.out _ _ ⟨_, _, y3, y4, y5, z1, ?_, fun _ => rfl, fun _ => rfl, by omega, by omega, by omega, gg1, h.out.putHead hp⟩
    kernel_rfl
  · intro p a v hJ
    refine op_step (o := _) rfl (fun K hK => ?_)
    obtain ⟨y3, y4, y5, z1, rfl, gg1, h⟩ := rdielJ6_2 hJ
    have h := Lib.hid h
    clear hJ
    go_simp
    refine (d3.out _ _ ((h.out.own.nth 0 rfl))).mono ?_
    rintro rr w5 ⟨rfl, hp⟩
    try go_wp2_with fail
    refine hK.out _ _ ⟨_, _, _, y4, y5, z1, ?_, fun _ => rfl, fun _ => rfl, fun _ => rfl, by omega, by omega, gg1, h.out.putHead hp⟩
    kernel_rfl
  · intro p a v hJ
    refine op_step (o := _) rfl (fun K hK => ?_)
    obtain ⟨y4, y5, z1, rfl, gg1, h⟩ := rdielJ6_3 hJ
    have h := Lib.hid h
    clear hJ
    go_simp
    refine (d4.out _ _ ((h.out.own.nth 0 rfl))).mono ?_
    rintro rr w5 ⟨rfl, hp⟩
    try go_wp2_with fail
    refine hK.out _ _ ⟨_, _, _, _, y5, z1, ?_, fun _ => rfl, fun _ => rfl, fun _ => rfl, fun _ => rfl, by omega, gg1, h.out.putHead hp⟩
    kernel_rfl
  · intro p a v hJ
    refine op_step (o := _) rfl (fun K hK => ?_)
    obtain ⟨y5, z1, rfl, gg1, h⟩ := rdielJ6_4 hJ
    have h := Lib.hid h
    clear hJ
    go_simp
    refine (d5.out _ _ ((h.out.own.nth 0 rfl))).mono ?_
    rintro rr w5 ⟨rfl, hp⟩
    try go_wp2_with fail
    refine hK.out _ _ ⟨_, _, _, _, _, z1, ?_, fun _ => rfl, fun _ => rfl, fun _ => rfl, fun _ => rfl, fun _ => rfl, gg1, h.out.putHead hp⟩
    kernel_rfl
  · intro k p a v hp hJ
    refine op_step (o := _) rfl (fun K hK => ?_)
    obtain ⟨y1, y2, y3, y4, y5, z1, rfl, ee1, ee2, ee3, ee4, ee5, gg1, h⟩ := hJ
    have h := Lib.hid h
    go_simp
    refine hK.out _ _ ⟨v.heap.size, y1, y2, y3, y4, y5, .pointer (some ⟨v.heap.size, 0, none⟩), ?_, ee1, ee2, ee3, ee4, ee5, fun q hq => ptr_set hq, h.out.alloc hp rfl _⟩
    kernel_rfl
  intro p1_1 a v hJ
  obtain ⟨rfl, h⟩ := rdielJ6_fin hJ
  clear hJ
  replace M := Lib.hid h.fin1
  clear h
  refine tails_one (T := []) (i := 13) (o := _) rfl (by kernel_rfl) (fun K hK => ?_)
  have kc := (M.out.nth 0 rfl).2.1
  have kf := (M.out.nth 0 rfl).2.2
  replace M := Lib.hid (M.out.setHead (.float .f64 r5l) (.float .f64 r5h))
  go_simp
  refine hK.out _ _ (Or.inr ⟨(M.out.nth 3 rfl).two, (M.out.nth 4 rfl).two⟩) (fun hHeld => ?_)
  clear hK K hHeld kc kf
  refine tails_done (by kernel_rfl) ?_ _
  refine NoPanic.normal ?_
  clear hS
  revert M
  generalize ((v.setCell ⟨p1_1, 0, none⟩ (.float .f64 r5l)).setCell ⟨p1_1, 1, none⟩ (.float .f64 r5h)) = W
  intro M
  replace M := Lib.hid M.out.front
  revert M
  generalize W = W1
  intro M
  obtain ⟨k1, k2⟩ := (M.out.nth 1 rfl).two
  go_wp2_with fail
  refine (d6.out _ _ ((M.out.nth 0 rfl))).mono ?_
  rintro r u2 ⟨rfl, hp⟩
  replace M := Lib.hid (M.out.putHead hp)
  clear hp
  clear k1 k2
  replace M := Lib.hid (M.out.made #[.float .f64 r6l, .float .f64 r6h] 24).front
  obtain ⟨k1, k2⟩ := (M.out.nth 1 rfl).two
  obtain ⟨k3, k4⟩ := (M.out.nth 5 rfl).two
  go_wp2_with fail
  refine (d7.out _ _ ((M.out.nth 0 rfl))).mono ?_
  rintro r u3 ⟨rfl, hp⟩
  replace M := Lib.hid (M.out.putHead hp)
  clear hp
  clear k1 k2 k3 k4
  replace M := Lib.hid (M.out.made #[.float .f64 r7l, .float .f64 r7h] 24).front
  obtain ⟨k1, k2⟩ := (M.out.nth 2 rfl).two
  obtain ⟨k3, k4⟩ := (M.out.nth 6 rfl).two
  go_wp2_with fail
  refine (d8.out _ _ ((M.out.nth 0 rfl))).mono ?_
  rintro r u4 ⟨rfl, hp⟩
  replace M := Lib.hid (M.out.putHead hp)
  clear hp
  clear k1 k2 k3 k4
  replace M := Lib.hid (M.out.made #[.float .f64 r8l, .float .f64 r8h] 24).front
  obtain ⟨k1, k2⟩ := (M.out.nth 2 rfl).two
  obtain ⟨k3, k4⟩ := (M.out.nth 1 rfl).two
  go_wp2_with fail
  refine (d9.out _ _ ((M.out.nth 0 rfl))).mono ?_
  rintro r u5 ⟨rfl, hp⟩
  replace M := Lib.hid (M.out.putHead hp)
  clear hp
  clear k1 k2 k3 k4
  go_wp2_with fail
  refine (d10.out _ _ ((M.out.nth 0 rfl))).mono ?_
  rintro r u6 ⟨rfl, hp⟩
  replace M := Lib.hid (M.out.putHead hp)
  clear hp
  replace M := Lib.hid (M.out.made #[.float .f64 r10l, .float .f64 r10h] 24).front
  obtain ⟨k1, k2⟩ := (M.out.nth 8 rfl).two
  obtain ⟨k3, k4⟩ := (M.out.nth 2 rfl).two
  go_wp2_with fail
  refine (d11.out _ _ ((M.out.nth 0 rfl))).mono ?_
  rintro r u7 ⟨rfl, hp⟩
  replace M := Lib.hid (M.out.putHead hp)
  clear hp
  clear k1 k2 k3 k4
  go_wp2_with fail
  refine (d12.out _ _ ((M.out.nth 0 rfl))).mono ?_
  rintro r u8 ⟨rfl, hp⟩
  replace M := Lib.hid (M.out.putHead hp)
  clear hp
  go_wp2_with fail
  refine (d13.out _ _ ((M.out.nth 0 rfl))).mono ?_
  rintro r u9 ⟨rfl, hp⟩
  replace M := Lib.hid (M.out.putHead hp)
  clear hp
  replace M := Lib.hid (M.out.made #[.float .f64 r13l, .float .f64 r13h] 24).front
  obtain ⟨k1, k2⟩ := (M.out.nth 9 rfl).two
  obtain ⟨k3, k4⟩ := (M.out.nth 4 rfl).two
  go_wp2_with fail
  refine (d14.out _ _ ((M.out.nth 0 rfl))).mono ?_
  rintro r u10 ⟨rfl, hp⟩
  replace M := Lib.hid (M.out.putHead hp)
  clear hp
  clear k1 k2 k3 k4
  go_wp2_with fail
  refine (d15.out _ _ ((M.out.nth 0 rfl))).mono ?_
  rintro r u11 ⟨rfl, hp⟩
  replace M := Lib.hid (M.out.putHead hp)
  clear hp
  go_wp2_with fail
  refine (d16.out _ _ ((M.out.nth 0 rfl))).mono ?_
  rintro r u12 ⟨rfl, hp⟩
  replace M := Lib.hid (M.out.putHead hp)
  clear hp
  replace M := Lib.hid (M.out.made #[.float .f64 r16l, .float .f64 r16h] 24).front
  obtain ⟨k1, k2⟩ := (M.out.nth 2 rfl).two
  obtain ⟨k3, k4⟩ := (M.out.nth 1 rfl).two
  go_wp2_with fail
  refine (d17.out _ _ ((M.out.nth 0 rfl))).mono ?_
  rintro r u13 ⟨rfl, hp⟩
  replace M := Lib.hid (M.out.putHead hp)
  clear hp
  clear k1 k2 k3 k4
  go_wp2_with fail
  refine (d18.out _ _ ((M.out.nth 0 rfl))).mono ?_
  rintro r u14 ⟨rfl, hp⟩
  replace M := Lib.hid (M.out.putHead hp)
  clear hp
  replace M := Lib.hid (M.out.made #[.float .f64 r18l, .float .f64 r18h] 24).front
  go_upto_region 14 with fail
  replace M := Lib.hid M.out.drew
  refine wp_region_noPanic ?_
  refine tails_region (S := fun w' => (w'.cell? ⟨u6.heap.size, 0, none⟩ = some (.float .f64 r10l) ∧ w'.cell? ⟨u6.heap.size, 1, none⟩ = some (.float .f64 r10h)) ∧ (w'.cell? ⟨u14.heap.size, 0, none⟩ = some (.float .f64 r18l) ∧ w'.cell? ⟨u14.heap.size, 1, none⟩ = some (.float .f64 r18h))) [] (by kernel_rfl) ?_ (fun hS => ?_)
  · exact ⟨(M.out.nth 4 rfl).two, (M.out.nth 1 rfl).two⟩
  refine tk (x := ?_) 0 rfl (by kernel_rfl) ⟨by rfl, ?_⟩ (fun _ _ _ h => h) hS ?_
  rotate_left; focus (intro w hSw; (try dsimp only at hSw); go_simp; try with_reducible rfl)
  refine tk (x := ?_) 1 rfl (by kernel_rfl) ⟨by rfl, ?_⟩ (fun _ _ _ h => h) hS ?_
  rotate_left; focus (intro w hSw; (try dsimp only at hSw); go_simp; try with_reducible rfl)
  refine tk (x := ?_) 2 rfl (by kernel_rfl) ⟨by rfl, ?_⟩ (fun _ _ _ h => h) hS ?_
  rotate_left; focus (intro w hSw; (try dsimp only at hSw); go_simp; try with_reducible rfl)
  refine tk (x := ?_) 4 rfl (by kernel_rfl) ⟨by rfl, ?_⟩ (fun _ _ _ h => h) hS ?_
  rotate_left; focus (intro w hSw; (try dsimp only at hSw); go_simp; try with_reducible rfl)
  refine tk (x := ?_) 6 rfl (by kernel_rfl) ⟨by rfl, ?_⟩ (fun _ _ _ h => h) hS ?_
  rotate_left; focus (intro w hSw; (try dsimp only at hSw); go_simp; try with_reducible rfl)
  refine tk (x := ?_) 7 rfl (by kernel_rfl) ⟨by rfl, ?_⟩ (fun _ _ _ h => h) hS ?_
  rotate_left; focus (intro w hSw; (try dsimp only at hSw); go_simp; try with_reducible rfl)
  refine tk (x := ?_) 9 rfl (by kernel_rfl) ⟨by rfl, ?_⟩ (fun _ _ _ h => h) hS ?_
  rotate_left; focus (intro w hSw; (try dsimp only at hSw); go_simp; try with_reducible rfl)
  conv => arg 9; simp only [Act.put, go_sem]
  refine lam_5_1 M (T := []) 3 5 8 10 11 12 [90, 92, 95, 97, 98, 15] 1 (rdielJ14 w w4.heap.size r20l r20h r22l r22h r23l r23h) (by kernel_rfl) (by kernel_rfl) ?_ ?_ ?_ ?_ ?_ ?_ ?_ ?_ ?_
  · intro A hA
    obtain ⟨y1, hq1⟩ := put_ex (hA 90 (by simp))
    obtain ⟨y2, hq2⟩ := put_ex (hA 92 (by simp))
    obtain ⟨y3, hq3⟩ := put_ex (hA 95 (by simp))
    obtain ⟨y4, hq4⟩ := put_ex (hA 97 (by simp))
    obtain ⟨y5, hq5⟩ := put_ex (hA 98 (by simp))
    obtain ⟨z1, hq6⟩ := put_ex (hA 15 (by simp))
    exact ⟨y1, y2, y3, y4, y5, z1, by rw [hq1, hq2, hq3, hq4, hq5, hq6], by omega, by omega, by omega, by omega, by omega, by simp, OwnF.start M.out 1⟩
  · rintro k p a v ⟨y1, y2, y3, y4, y5, z1, _, _, _, _, _, _, _, h⟩
    exact ⟨(h.own.nth 4 rfl).two, (h.own.nth 1 rfl).two⟩
  · intro p a v hJ
    refine op_step (o := _) rfl (fun K hK => ?_)
    obtain ⟨y1, y2, y3, y4, y5, z1, rfl, gg1, h⟩ := rdielJ14_0 hJ
    have h := Lib.hid h
    clear hJ
    go_simp
    refine (d19.out _ _ ((h.out.own.nth 0 rfl))).mono ?_
    rintro rr w5 ⟨rfl, hp⟩
    try go_wp2_with fail
    refine hK.out _ _ ⟨_, y2, y3, y4, y5, z1, ?_, fun _ => rfl, by omega, by omega, by omega, by omega, gg1, h.out.putHead hp⟩
    kernel_rfl
  · intro p a v hJ
    refine op_step (o := _) rfl (fun K hK => ?_)
    obtain ⟨y2, y3, y4, y5, z1, rfl, gg1, h⟩ := rdielJ14_1 hJ
    have h := Lib.hid h
    clear hJ
    go_simp
    refine (d20.out _ _ ((h.out.own.nth 0 rfl))).mono ?_
    rintro rr w5 ⟨rfl, hp⟩
    try go_wp2_with fail
    refine hK.out _ _ ⟨_, _, y3, y4, y5, z1, ?_, fun _ => rfl, fun _ => rfl, by omega, by omega, by omega, gg1, h.out.putHead hp⟩
    kernel_rfl
  · intro p a v hJ
    refine op_step (o := _) rfl (fun K hK => ?_)
    obtain ⟨y3, y4, y5, z1, rfl, gg1, h⟩ := rdielJ14_2 hJ
    have h := Lib.hid h
    clear hJ
    go_simp
    refine (d21.out _ _ ((h.out.own.nth 0 rfl))).mono ?_
    rintro rr w5 ⟨rfl, hp⟩
    try go_wp2_with fail
    refine hK.out _ _ ⟨_, _, _, y4, y5, z1, ?_, fun _ => rfl, fun _ => rfl, fun _ => rfl, by omega, by omega, gg1, h.out.putHead hp⟩
    kernel_rfl
  · intro p a v hJ
    refine op_step (o := _) rfl (fun K hK => ?_)
    obtain ⟨y4, y5, z1, rfl, gg1, h⟩ := rdielJ14_3 hJ
    have h := Lib.hid h
    clear hJ
    go_simp
    refine (d22.out _ _ ((h.out.own.nth 0 rfl))).mono ?_
    rintro rr w5 ⟨rfl, hp⟩
    try go_wp2_with fail
    refine hK.out _ _ ⟨_, _, _, _, y5, z1, ?_, fun _ => rfl, fun _ => rfl, fun _ => rfl, fun _ => rfl, by omega, gg1, h.out.putHead hp⟩
    kernel_rfl
  · intro p a v hJ
    refine op_step (o := _) rfl (fun K hK => ?_)
    obtain ⟨y5, z1, rfl, gg1, h⟩ := rdielJ14_4 hJ
    have h := Lib.hid h
    clear hJ
    go_simp
    refine (d23.out _ _ ((h.out.own.nth 0 rfl))).mono ?_
    rintro rr w5 ⟨rfl, hp⟩
    try go_wp2_with fail
    refine hK.out _ _ ⟨_, _, _, _, _, z1, ?_, fun _ => rfl, fun _ => rfl, fun _ => rfl, fun _ => rfl, fun _ => rfl, gg1, h.out.putHead hp⟩
    kernel_rfl
  · intro k p a v hp hJ
    refine op_step (o := _) rfl (fun K hK => ?_)
    obtain ⟨y1, y2, y3, y4, y5, z1, rfl, ee1, ee2, ee3, ee4, ee5, gg1, h⟩ := hJ
    have h := Lib.hid h
    go_simp
    refine hK.out _ _ ⟨v.heap.size, y1, y2, y3, y4, y5, .pointer (some ⟨v.heap.size, 0, none⟩), ?_, ee1, ee2, ee3, ee4, ee5, fun q hq => ptr_set hq, h.out.alloc hp rfl _⟩
    kernel_rfl
  intro p15_1 a v hJ
  obtain ⟨rfl, h⟩ := rdielJ14_fin hJ
  clear hJ
  replace M := Lib.hid h.fin1
  clear h
  refine tails_one (T := []) (i := 13) (o := _) rfl (by kernel_rfl) (fun K hK => ?_)
  have kc := (M.out.nth 0 rfl).2.1
  have kf := (M.out.nth 0 rfl).2.2
  replace M := Lib.hid (M.out.setHead (.float .f64 r23l) (.float .f64 r23h))
  go_simp
  refine hK.out _ _ (Or.inr ⟨(M.out.nth 5 rfl).two, (M.out.nth 2 rfl).two⟩) (fun hHeld => ?_)
  clear hK K hHeld kc kf
  refine tails_done (by kernel_rfl) ?_ _
  refine NoPanic.normal ?_
  clear hS
  revert M
  generalize ((v.setCell ⟨p15_1, 0, none⟩ (.float .f64 r23l)).setCell ⟨p15_1, 1, none⟩ (.float .f64 r23h)) = W
  intro M
  replace M := Lib.hid M.out.front
  revert M
  generalize W = W15
  intro M
  have kE := (M.out.nth 0 rfl).pc
  obtain ⟨k1, k2⟩ := (M.out.nth 1 rfl).two
  go_wp2_with fail
  refine (dK.out _).mono ?_
  rintro r v1 ⟨rfl, hb⟩
  replace M := Lib.hid (M.out.below hb)
  clear hb kE k1 k2
  have kc := (M.out.nth 10 rfl).2.1
  have kf := (M.out.nth 10 rfl).2.2
  replace M := Lib.hid (M.out.set2 10 rfl (.float .f64 rKl) (.float .f64 rKh))
  obtain ⟨f1, f2⟩ := (M.out.nth 10 rfl).two
  go_wp2
  exact bodyPost_ret (v := .tuple #[.agg #[.float .f64 rKl, .float .f64 rKh], .int .i64 0]) (by simp [results, Tryz.results19, go_sem, f1, f2]) rfl ⟨rfl, M.out.base⟩

end Go.Proofs.YtcfgahlaiiibiaaGreat

namespace Go.Proofs.YtcfgahlaiiibiaaGreat
open Go.RowKit
attribute [local go_sem] run_store_float

def rcondJ7 (w : World) (pb : Nat) (r3l r3h r4l r4h : Nat) (l : RowL) (a0 : Act) (k : Nat) (p : List (Option Nat)) (a : Act) (v : World) : Prop :=
  ∃ y1 y2 y3 z1 : Value, a = ((((a0.put (some 57) y1).put (some 59) y2).put (some 60) y3).put (some 10) z1) ∧ (0 < k → y1 = .agg #[.float .f64 4607182418800017408, .float .f64 4607182418800017408]) ∧ (1 < k → y2 = .agg #[.float .f64 r3l, .float .f64 r3h]) ∧ (2 < k → y3 = .agg #[.float .f64 r4l, .float .f64 r4h]) ∧ (∀ q, p[0]? = some (some q) → z1 = .pointer (some ⟨q, 0, none⟩)) ∧ OwnF w ((pb, #[.int .i64 0]) :: l) [#[.float .f64 0, .float .f64 0]] p v
section
variable {w v : World} {pb : Nat} {r3l r3h r4l r4h : Nat} {l : RowL} {a0 a : Act} {p : List (Option Nat)}
theorem rcondJ7_0 (h : rcondJ7 w pb r3l r3h r4l r4h l a0 0 p a v) : ∃ y1 y2 y3 z1 : Value, a = ((((a0.put (some 57) y1).put (some 59) y2).put (some 60) y3).put (some 10) z1) ∧ (∀ q, p[0]? = some (some q) → z1 = .pointer (some ⟨q, 0, none⟩)) ∧ OwnF w ((pb, #[.int .i64 0]) :: l) [#[.float .f64 0, .float .f64 0]] p v := by
  obtain ⟨y1, y2, y3, z1, ha, E1, E2, E3, G1, h⟩ := h
  exact ⟨y1, y2, y3, z1, ha, G1, h⟩
theorem rcondJ7_1 (h : rcondJ7 w pb r3l r3h r4l r4h l a0 1 p a v) : ∃ y2 y3 z1 : Value, a = ((((a0.put (some 57) (.agg #[.float .f64 4607182418800017408, .float .f64 4607182418800017408])).put (some 59) y2).put (some 60) y3).put (some 10) z1) ∧ (∀ q, p[0]? = some (some q) → z1 = .pointer (some ⟨q, 0, none⟩)) ∧ OwnF w ((pb, #[.int .i64 0]) :: l) [#[.float .f64 0, .float .f64 0]] p v := by
  obtain ⟨y1, y2, y3, z1, ha, E1, E2, E3, G1, h⟩ := h
  obtain rfl := E1 (by decide)
  exact ⟨y2, y3, z1, ha, G1, h⟩
theorem rcondJ7_2 (h : rcondJ7 w pb r3l r3h r4l r4h l a0 2 p a v) : ∃ y3 z1 : Value, a = ((((a0.put (some 57) (.agg #[.float .f64 4607182418800017408, .float .f64 4607182418800017408])).put (some 59) (.agg #[.float .f64 r3l, .float .f64 r3h])).put (some 60) y3).put (some 10) z1) ∧ (∀ q, p[0]? = some (some q) → z1 = .pointer (some ⟨q, 0, none⟩)) ∧ OwnF w ((pb, #[.int .i64 0]) :: l) [#[.float .f64 0, .float .f64 0]] p v := by
  obtain ⟨y1, y2, y3, z1, ha, E1, E2, E3, G1, h⟩ := h
  obtain rfl := E1 (by decide)
  obtain rfl := E2 (by decide)
  exact ⟨y3, z1, ha, G1, h⟩
theorem rcondJ7_fin {q1 : Nat} (h : rcondJ7 w pb r3l r3h r4l r4h l a0 3 [some q1] a v) : a = ((((a0.put (some 57) (.agg #[.float .f64 4607182418800017408, .float .f64 4607182418800017408])).put (some 59) (.agg #[.float .f64 r3l, .float .f64 r3h])).put (some 60) (.agg #[.float .f64 r4l, .float .f64 r4h])).put (some 10) (.pointer (some ⟨q1, 0, none⟩))) ∧ OwnF w ((pb, #[.int .i64 0]) :: l) [#[.float .f64 0, .float .f64 0]] [some q1] v := by
  obtain ⟨y1, y2, y3, z1, ha, E1, E2, E3, G1, h⟩ := h
  obtain rfl := E1 (by decide)
  obtain rfl := E2 (by decide)
  obtain rfl := E3 (by decide)
  obtain rfl := G1 _ rfl
  exact ⟨ha, h⟩
end

def rcondJ8 (w : World) (pb : Nat) (r5l r5h r6l r6h r7l r7h : Nat) (l : RowL) (a0 : Act) (k : Nat) (p : List (Option Nat)) (a : Act) (v : World) : Prop :=
  ∃ y1 y2 y3 z1 : Value, a = ((((a0.put (some 64) y1).put (some 67) y2).put (some 68) y3).put (some 11) z1) ∧ (0 < k → y1 = .agg #[.float .f64 r5l, .float .f64 r5h]) ∧ (1 < k → y2 = .agg #[.float .f64 r6l, .float .f64 r6h]) ∧ (2 < k → y3 = .agg #[.float .f64 r7l, .float .f64 r7h]) ∧ (∀ q, p[0]? = some (some q) → z1 = .pointer (some ⟨q, 0, none⟩)) ∧ OwnF w ((pb, #[.int .i64 0]) :: l) [#[.float .f64 0, .float .f64 0]] p v
section
variable {w v : World} {pb : Nat} {r5l r5h r6l r6h r7l r7h : Nat} {l : RowL} {a0 a : Act} {p : List (Option Nat)}
theorem rcondJ8_0 (h : rcondJ8 w pb r5l r5h r6l r6h r7l r7h l a0 0 p a v) : ∃ y1 y2 y3 z1 : Value, a = ((((a0.put (some 64) y1).put (some 67) y2).put (some 68) y3).put (some 11) z1) ∧ (∀ q, p[0]? = some (some q) → z1 = .pointer (some ⟨q, 0, none⟩)) ∧ OwnF w ((pb, #[.int .i64 0]) :: l) [#[.float .f64 0, .float .f64 0]] p v := by
  obtain ⟨y1, y2, y3, z1, ha, E1, E2, E3, G1, h⟩ := h
  exact ⟨y1, y2, y3, z1, ha, G1, h⟩
theorem rcondJ8_1 (h : rcondJ8 w pb r5l r5h r6l r6h r7l r7h l a0 1 p a v) : ∃ y2 y3 z1 : Value, a = ((((a0.put (some 64) (.agg #[.float .f64 r5l, .float .f64 r5h])).put (some 67) y2).put (some 68) y3).put (some 11) z1) ∧ (∀ q, p[0]? = some (some q) → z1 = .pointer (some ⟨q, 0, none⟩)) ∧ OwnF w ((pb, #[.int .i64 0]) :: l) [#[.float .f64 0, .float .f64 0]] p v := by
  obtain ⟨y1, y2, y3, z1, ha, E1, E2, E3, G1, h⟩ := h
  obtain rfl := E1 (by decide)
  exact ⟨y2, y3, z1, ha, G1, h⟩
theorem rcondJ8_2 (h : rcondJ8 w pb r5l r5h r6l r6h r7l r7h l a0 2 p a v) : ∃ y3 z1 : Value, a = ((((a0.put (some 64) (.agg #[.float .f64 r5l, .float .f64 r5h])).put (some 67) (.agg #[.float .f64 r6l, .float .f64 r6h])).put (some 68) y3).put (some 11) z1) ∧ (∀ q, p[0]? = some (some q) → z1 = .pointer (some ⟨q, 0, none⟩)) ∧ OwnF w ((pb, #[.int .i64 0]) :: l) [#[.float .f64 0, .float .f64 0]] p v := by
  obtain ⟨y1, y2, y3, z1, ha, E1, E2, E3, G1, h⟩ := h
  obtain rfl := E1 (by decide)
  obtain rfl := E2 (by decide)
  exact ⟨y3, z1, ha, G1, h⟩
theorem rcondJ8_fin {q1 : Nat} (h : rcondJ8 w pb r5l r5h r6l r6h r7l r7h l a0 3 [some q1] a v) : a = ((((a0.put (some 64) (.agg #[.float .f64 r5l, .float .f64 r5h])).put (some 67) (.agg #[.float .f64 r6l, .float .f64 r6h])).put (some 68) (.agg #[.float .f64 r7l, .float .f64 r7h])).put (some 11) (.pointer (some ⟨q1, 0, none⟩))) ∧ OwnF w ((pb, #[.int .i64 0]) :: l) [#[.float .f64 0, .float .f64 0]] [some q1] v := by
  obtain ⟨y1, y2, y3, z1, ha, E1, E2, E3, G1, h⟩ := h
  obtain rfl := E1 (by decide)
  obtain rfl := E2 (by decide)
  obtain rfl := E3 (by decide)
  obtain rfl := G1 _ rfl
  exact ⟨ha, h⟩
end

def rcondJ9 (w : World) (pb : Nat) (r8l r8h r9l r9h r10l r10h r11l r11h : Nat) (l : RowL) (a0 : Act) (k : Nat) (p : List (Option Nat)) (a : Act) (v : World) : Prop :=
  ∃ y1 y2 y3 y4 z1 : Value, a = (((((a0.put (some 73) y1).put (some 76) y2).put (some 77) y3).put (some 79) y4).put (some 12) z1) ∧ (0 < k → y1 = .agg #[.float .f64 r8l, .float .f64 r8h]) ∧ (1 < k → y2 = .agg #[.float .f64 r9l, .float .f64 r9h]) ∧ (2 < k → y3 = .agg #[.float .f64 r10l, .float .f64 r10h]) ∧ (3 < k → y4 = .agg #[.float .f64 r11l, .float .f64 r11h]) ∧ (∀ q, p[0]? = some (some q) → z1 = .pointer (some ⟨q, 0, none⟩)) ∧ OwnF w ((pb, #[.int .i64 0]) :: l) [#[.float .f64 0, .float .f64 0]] p v
section
variable {w v : World} {pb : Nat} {r8l r8h r9l r9h r10l r10h r11l r11h : Nat} {l : RowL} {a0 a : Act} {p : List (Option Nat)}
theorem rcondJ9_0 (h : rcondJ9 w pb r8l r8h r9l r9h r10l r10h r11l r11h l a0 0 p a v) : ∃ y1 y2 y3 y4 z1 : Value, a = (((((a0.put (some 73) y1).put (some 76) y2).put (some 77) y3).put (some 79) y4).put (some 12) z1) ∧ (∀ q, p[0]? = some (some q) → z1 = .pointer (some ⟨q, 0, none⟩)) ∧ OwnF w ((pb, #[.int .i64 0]) :: l) [#[.float .f64 0, .float .f64 0]] p v := by
  obtain ⟨y1, y2, y3, y4, z1, ha, E1, E2, E3, E4, G1, h⟩ := h
  exact ⟨y1, y2, y3, y4, z1, ha, G1, h⟩
theorem rcondJ9_1 (h : rcondJ9 w pb r8l r8h r9l r9h r10l r10h r11l r11h l a0 1 p a v) : ∃ y2 y3 y4 z1 : Value, a = (((((a0.put (some 73) (.agg #[.float .f64 r8l, .float .f64 r8h])).put (some 76) y2).put (some 77) y3).put (some 79) y4).put (some 12) z1) ∧ (∀ q, p[0]? = some (some q) → z1 = .pointer (some ⟨q, 0, none⟩)) ∧ OwnF w ((pb, #[.int .i64 0]) :: l) [#[.float .f64 0, .float .f64 0]] p v := by
  obtain ⟨y1, y2, y3, y4, z1, ha, E1, E2, E3, E4, G1, h⟩ := h
  obtain rfl := E1 (by decide)
  exact ⟨y2, y3, y4, z1, ha, G1, h⟩
theorem rcondJ9_2 (h : rcondJ9 w pb r8l r8h r9l r9h r10l r10h r11l r11h l a0 2 p a v) : ∃ y3 y4 z1 : Value, a = (((((a0.put (some 73) (.agg #[.float .f64 r8l, .float .f64 r8h])).put (some 76) (.agg #[.float .f64 r9l, .float .f64 r9h])).put (some 77) y3).put (some 79) y4).put (some 12) z1) ∧ (∀ q, p[0]? = some (some q) → z1 = .pointer (some ⟨q, 0, none⟩)) ∧ OwnF w ((pb, #[.int .i64 0]) :: l) [#[.float .f64 0, .float .f64 0]] p v := by
  obtain ⟨y1, y2, y3, y4, z1, ha, E1, E2, E3, E4, G1, h⟩ := h
  obtain rfl := E1 (by decide)
  obtain rfl := E2 (by decide)
  exact ⟨y3, y4, z1, ha, G1, h⟩
theorem rcondJ9_3 (h : rcondJ9 w pb r8l r8h r9l r9h r10l r10h r11l r11h l a0 3 p a v) : ∃ y4 z1 : Value, a = (((((a0.put (some 73) (.agg #[.float .f64 r8l, .float .f64 r8h])).put (some 76) (.agg #[.float .f64 r9l, .float .f64 r9h])).put (some 77) (.agg #[.float .f64 r10l, .float .f64 r10h])).put (some 79) y4).put (some 12) z1) ∧ (∀ q, p[0]? = some (some q) → z1 = .pointer (some ⟨q, 0, none⟩)) ∧ OwnF w ((pb, #[.int .i64 0]) :: l) [#[.float .f64 0, .float .f64 0]] p v := by
  obtain ⟨y1, y2, y3, y4, z1, ha, E1, E2, E3, E4, G1, h⟩ := h
  obtain rfl := E1 (by decide)
  obtain rfl := E2 (by decide)
  obtain rfl := E3 (by decide)
  exact ⟨y4, z1, ha, G1, h⟩
theorem rcondJ9_fin {q1 : Nat} (h : rcondJ9 w pb r8l r8h r9l r9h r10l r10h r11l r11h l a0 4 [some q1] a v) : a = (((((a0.put (some 73) (.agg #[.float .f64 r8l, .float .f64 r8h])).put (some 76) (.agg #[.float .f64 r9l, .float .f64 r9h])).put (some 77) (.agg #[.float .f64 r10l, .float .f64 r10h])).put (some 79) (.agg #[.float .f64 r11l, .float .f64 r11h])).put (some 12) (.pointer (some ⟨q1, 0, none⟩))) ∧ OwnF w ((pb, #[.int .i64 0]) :: l) [#[.float .f64 0, .float .f64 0]] [some q1] v := by
  obtain ⟨y1, y2, y3, y4, z1, ha, E1, E2, E3, E4, G1, h⟩ := h
  obtain rfl := E1 (by decide)
  obtain rfl := E2 (by decide)
  obtain rfl := E3 (by decide)
  obtain rfl := E4 (by decide)
  obtain rfl := G1 _ rfl
  exact ⟨ha, h⟩
end

def rcondJ10 (w : World) (pb : Nat) (r12l r12h r14l r14h r15l r15h r16l r16h : Nat) (l : RowL) (a0 : Act) (k : Nat) (p : List (Option Nat)) (a : Act) (v : World) : Prop :=
  ∃ y1 y2 y3 y4 y5 z1 : Value, a = ((((((a0.put (some 84) y1).put (some 87) y2).put (some 89) y3).put (some 90) y4).put (some 91) y5).put (some 13) z1) ∧ (0 < k → y1 = .agg #[.float .f64 r12l, .float .f64 r12h]) ∧ (1 < k → y2 = .agg #[.float .f64 4616189618054758400, .float .f64 4616189618054758400]) ∧ (2 < k → y3 = .agg #[.float .f64 r14l, .float .f64 r14h]) ∧ (3 < k → y4 = .agg #[.float .f64 r15l, .float .f64 r15h]) ∧ (4 < k → y5 = .agg #[.float .f64 r16l, .float .f64 r16h]) ∧ (∀ q, p[0]? = some (some q) → z1 = .pointer (some ⟨q, 0, none⟩)) ∧ OwnF w ((pb, #[.int .i64 0]) :: l) [#[.float .f64 0, .float .f64 0]] p v
section
variable {w v : World} {pb : Nat} {r12l r12h r14l r14h r15l r15h r16l r16h : Nat} {l : RowL} {a0 a : Act} {p : List (Option Nat)}
theorem rcondJ10_0 (h : rcondJ10 w pb r12l r12h r14l r14h r15l r15h r16l r16h l a0 0 p a v) : ∃ y1 y2 y3 y4 y5 z1 : Value, a = ((((((a0.put (some 84) y1).put (some 87) y2).put (some 89) y3).put (some 90) y4).put (some 91) y5).put (some 13) z1) ∧ (∀ q, p[0]? = some (some q) → z1 = .pointer (some ⟨q, 0, none⟩)) ∧ OwnF w ((pb, #[.int .i64 0]) :: l) [#[.float .f64 0, .float .f64 0]] p v := by
  obtain ⟨y1, y2, y3, y4, y5, z1, ha, E1, E2, E3, E4, E5, G1, h⟩ := h
  exact ⟨y1, y2, y3, y4, y5, z1, ha, G1, h⟩
theorem rcondJ10_1 (h : rcondJ10 w pb r12l r12h r14l r14h r15l r15h r16l r16h l a0 1 p a v) : ∃ y2 y3 y4 y5 z1 : Value, a = ((((((a0.put (some 84) (.agg #[.float .f64 r12l, .float .f64 r12h])).put (some 87) y2).put (some 89) y3).put (some 90) y4).put (some 91) y5).put (some 13) z1) ∧ (∀ q, p[0]? = some (some q) → z1 = .pointer (some ⟨q, 0, none⟩)) ∧ OwnF w ((pb, #[.int .i64 0]) :: l) [#[.float .f64 0, .float .f64 0]] p v := by
  obtain ⟨y1, y2, y3, y4, y5, z1, ha, E1, E2, E3, E4, E5, G1, h⟩ := h
  obtain rfl := E1 (by decide)
  exact ⟨y2, y3, y4, y5, z1, ha, G1, h⟩
theorem rcondJ10_2 (h : rcondJ10 w pb r12l r12h r14l r14h r15l r15h r16l r16h l a0 2 p a v) : ∃ y3 y4 y5 z1 : Value, a = ((((((a0.put (some 84) (.agg #[.float .f64 r12l, .float .f64 r12h])).put (some 87) (.agg #[.float .f64 4616189618054758400, .float .f64 4616189618054758400])).put (some 89) y3).put (some 90) y4).put (some 91) y5).put (some 13) z1) ∧ (∀ q, p[0]? = some (some q) → z1 = .pointer (some ⟨q, 0, none⟩)) ∧ OwnF w ((pb, #[.int .i64 0]) :: l) [#[.float .f64 0, .float .f64 0]] p v := by
  obtain ⟨y1, y2, y3, y4, y5, z1, ha, E1, E2, E3, E4, E5, G1, h⟩ := h
  obtain rfl := E1 (by decide)
  obtain rfl := E2 (by decide)
  exact ⟨y3, y4, y5, z1, ha, G1, h⟩
theorem rcondJ10_3 (h : rcondJ10 w pb r12l r12h r14l r14h r15l r15h r16l r16h l a0 3 p a v) : ∃ y4 y5 z1 : Value, a = ((((((a0.put (some 84) (.agg #[.float .f64 r12l, .float .f64 r12h])).put (some 87) (.agg #[.float .f64 4616189618054758400, .float .f64 4616189618054758400])).put (some 89) (.agg #[.float .f64 r14l, .float .f64 r14h])).put (some 90) y4).put (some 91) y5).put (some 13) z1) ∧ (∀ q, p[0]? = some (some q) → z1 = .pointer (some ⟨q, 0, none⟩)) ∧ OwnF w ((pb, #[.int .i64 0]) :: l) [#[.float .f64 0, .float .f64 0]] p v := by
  obtain ⟨y1, y2, y3, y4, y5, z1, ha, E1, E2, E3, E4, E5, G1, h⟩ := h
  obtain rfl := E1 (by decide)
  obtain rfl := E2 (by decide)
  obtain rfl := E3 (by decide)
  exact ⟨y4, y5, z1, ha, G1, h⟩
theorem rcondJ10_4 (h : rcondJ10 w pb r12l r12h r14l r14h r15l r15h r16l r16h l a0 4 p a v) : ∃ y5 z1 : Value, a = ((((((a0.put (some 84) (.agg #[.float .f64 r12l, .float .f64 r12h])).put (some 87) (.agg #[.float .f64 4616189618054758400, .float .f64 4616189618054758400])).put (some 89) (.agg #[.float .f64 r14l, .float .f64 r14h])).put (some 90) (.agg #[.float .f64 r15l, .float .f64 r15h])).put (some 91) y5).put (some 13) z1) ∧ (∀ q, p[0]? = some (some q) → z1 = .pointer (some ⟨q, 0, none⟩)) ∧ OwnF w ((pb, #[.int .i64 0]) :: l) [#[.float .f64 0, .float .f64 0]] p v := by
  obtain ⟨y1, y2, y3, y4, y5, z1, ha, E1, E2, E3, E4, E5, G1, h⟩ := h
  obtain rfl := E1 (by decide)
  obtain rfl := E2 (by decide)
  obtain rfl := E3 (by decide)
  obtain rfl := E4 (by decide)
  exact ⟨y5, z1, ha, G1, h⟩
theorem rcondJ10_fin {q1 : Nat} (h : rcondJ10 w pb r12l r12h r14l r14h r15l r15h r16l r16h l a0 5 [some q1] a v) : a = ((((((a0.put (some 84) (.agg #[.float .f64 r12l, .float .f64 r12h])).put (some 87) (.agg #[.float .f64 4616189618054758400, .float .f64 4616189618054758400])).put (some 89) (.agg #[.float .f64 r14l, .float .f64 r14h])).put (some 90) (.agg #[.float .f64 r15l, .float .f64 r15h])).put (some 91) (.agg #[.float .f64 r16l, .float .f64 r16h])).put (some 13) (.pointer (some ⟨q1, 0, none⟩))) ∧ OwnF w ((pb, #[.int .i64 0]) :: l) [#[.float .f64 0, .float .f64 0]] [some q1] v := by
  obtain ⟨y1, y2, y3, y4, y5, z1, ha, E1, E2, E3, E4, E5, G1, h⟩ := h
  obtain rfl := E1 (by decide)
  obtain rfl := E2 (by decide)
  obtain rfl := E3 (by decide)
  obtain rfl := E4 (by decide)
  obtain rfl := E5 (by decide)
  obtain rfl := G1 _ rfl
  exact ⟨ha, h⟩
end

def rcondJ11 (w : World) (pb : Nat) (r18l r18h r20l r20h r21l r21h r22l r22h : Nat) (l : RowL) (a0 : Act) (k : Nat) (p : List (Option Nat)) (a : Act) (v : World) : Prop :=
  ∃ y1 y2 y3 y4 y5 y6 z1 : Value, a = (((((((a0.put (some 95) y1).put (some 100) y2).put (some 102) y3).put (some 103) y4).put (some 104) y5).put (some 105) y6).put (some 14) z1) ∧ (0 < k → y1 = .agg #[.float .f64 4602678819172646912, .float .f64 4602678819172646912]) ∧ (1 < k → y2 = .agg #[.float .f64 r18l, .float .f64 r18h]) ∧ (2 < k → y3 = .agg #[.float .f64 0, .float .f64 0]) ∧ (3 < k → y4 = .agg #[.float .f64 r20l, .float .f64 r20h]) ∧ (4 < k → y5 = .agg #[.float .f64 r21l, .float .f64 r21h]) ∧ (5 < k → y6 = .agg #[.float .f64 r22l, .float .f64 r22h]) ∧ (∀ q, p[0]? = some (some q) → z1 = .pointer (some ⟨q, 0, none⟩)) ∧ OwnF w ((pb, #[.int .i64 0]) :: l) [#[.float .f64 0, .float .f64 0]] p v
section
variable {w v : World} {pb : Nat} {r18l r18h r20l r20h r21l r21h r22l r22h : Nat} {l : RowL} {a0 a : Act} {p : List (Option Nat)}
theorem rcondJ11_0 (h : rcondJ11 w pb r18l r18h r20l r20h r21l r21h r22l r22h l a0 0 p a v) : ∃ y1 y2 y3 y4 y5 y6 z1 : Value, a = (((((((a0.put (some 95) y1).put (some 100) y2).put (some 102) y3).put (some 103) y4).put (some 104) y5).put (some 105) y6).put (some 14) z1) ∧ (∀ q, p[0]? = some (some q) → z1 = .pointer (some ⟨q, 0, none⟩)) ∧ OwnF w ((pb, #[.int .i64 0]) :: l) [#[.float .f64 0, .float .f64 0]] p v := by
  obtain ⟨y1, y2, y3, y4, y5, y6, z1, ha, E1, E2, E3, E4, E5, E6, G1, h⟩ := h
  exact ⟨y1, y2, y3, y4, y5, y6, z1, ha, G1, h⟩
theorem rcondJ11_1 (h : rcondJ11 w pb r18l r18h r20l r20h r21l r21h r22l r22h l a0 1 p a v) : ∃ y2 y3 y4 y5 y6 z1 : Value, a = (((((((a0.put (some 95) (.agg #[.float .f64 4602678819172646912, .float .f64 4602678819172646912])).put (some 100) y2).put (some 102) y3).put (some 103) y4).put (some 104) y5).put (some 105) y6).put (some 14) z1) ∧ (∀ q, p[0]? = some (some q) → z1 = .pointer (some ⟨q, 0, none⟩)) ∧ OwnF w ((pb, #[.int .i64 0]) :: l) [#[.float .f64 0, .float .f64 0]] p v := by
  obtain ⟨y1, y2, y3, y4, y5, y6, z1, ha, E1, E2, E3, E4, E5, E6, G1, h⟩ := h
  obtain rfl := E1 (by decide)
  exact ⟨y2, y3, y4, y5, y6, z1, ha, G1, h⟩
theorem rcondJ11_2 (h : rcondJ11 w pb r18l r18h r20l r20h r21l r21h r22l r22h l a0 2 p a v) : ∃ y3 y4 y5 y6 z1 : Value, a = (((((((a0.put (some 95) (.agg #[.float .f64 4602678819172646912, .float .f64 4602678819172646912])).put (some 100) (.agg #[.float .f64 r18l, .float .f64 r18h])).put (some 102) y3).put (some 103) y4).put (some 104) y5).put (some 105) y6).put (some 14) z1) ∧ (∀ q, p[0]? = some (some q) → z1 = .pointer (some ⟨q, 0, none⟩)) ∧ OwnF w ((pb, #[.int .i64 0]) :: l) [#[.float .f64 0, .float .f64 0]] p v := by
  obtain ⟨y1, y2, y3, y4, y5, y6, z1, ha, E1, E2, E3, E4, E5, E6, G1, h⟩ := h
  obtain rfl := E1 (by decide)
  obtain rfl := E2 (by decide)
  exact ⟨y3, y4, y5, y6, z1, ha, G1, h⟩
theorem rcondJ11_3 (h : rcondJ11 w pb r18l r18h r20l r20h r21l r21h r22l r22h l a0 3 p a v) : ∃ y4 y5 y6 z1 : Value, a = (((((((a0.put (some 95) (.agg #[.float .f64 4602678819172646912, .float .f64 4602678819172646912])).put (some 100) (.agg #[.float .f64 r18l, .float .f64 r18h])).put (some 102) (.agg #[.float .f64 0, .float .f64 0])).put (some 103) y4).put (some 104) y5).put (some 105) y6).put (some 14) z1) ∧ (∀ q, p[0]? = some (some q) → z1 = .pointer (some ⟨q, 0, none⟩)) ∧ OwnF w ((pb, #[.int .i64 0]) :: l) [#[.float .f64 0, .float .f64 0]] p v := by
  obtain ⟨y1, y2, y3, y4, y5, y6, z1, ha, E1, E2, E3, E4, E5, E6, G1, h⟩ := h
  obtain rfl := E1 (by decide)
  obtain rfl := E2 (by decide)
  obtain rfl := E3 (by decide)
  exact ⟨y4, y5, y6, z1, ha, G1, h⟩
theorem rcondJ11_4 (h : rcondJ11 w pb r18l r18h r20l r20h r21l r21h r22l r22h l a0 4 p a v) : ∃ y5 y6 z1 : Value, a = (((((((a0.put (some 95) (.agg #[.float .f64 4602678819172646912, .float .f64 4602678819172646912])).put (some 100) (.agg #[.float .f64 r18l, .float .f64 r18h])).put (some 102) (.agg #[.float .f64 0, .float .f64 0])).put (some 103) (.agg #[.float .f64 r20l, .float .f64 r20h])).put (some 104) y5).put (some 105) y6).put (some 14) z1) ∧ (∀ q, p[0]? = some (some q) → z1 = .pointer (some ⟨q, 0, none⟩)) ∧ OwnF w ((pb, #[.int .i64 0]) :: l) [#[.float .f64 0, .float .f64 0]] p v := by
  obtain ⟨y1, y2, y3, y4, y5, y6, z1, ha, E1, E2, E3, E4, E5, E6, G1, h⟩ := h
  obtain rfl := E1 (by decide)
  obtain rfl := E2 (by decide)
  obtain rfl := E3 (by decide)
  obtain rfl := E4 (by decide)
  exact ⟨y5, y6, z1, ha, G1, h⟩
theorem rcondJ11_5 (h : rcondJ11 w pb r18l r18h r20l r20h r21l r21h r22l r22h l a0 5 p a v) : ∃ y6 z1 : Value, a = (((((((a0.put (some 95) (.agg #[.float .f64 4602678819172646912, .float .f64 4602678819172646912])).put (some 100) (.agg #[.float .f64 r18l, .float .f64 r18h])).put (some 102) (.agg #[.float .f64 0, .float .f64 0])).put (some 103) (.agg #[.float .f64 r20l, .float .f64 r20h])).put (some 104) (.agg #[.float .f64 r21l, .float .f64 r21h])).put (some 105) y6).put (some 14) z1) ∧ (∀ q, p[0]? = some (some q) → z1 = .pointer (some ⟨q, 0, none⟩)) ∧ OwnF w ((pb, #[.int .i64 0]) :: l) [#[.float .f64 0, .float .f64 0]] p v := by
  obtain ⟨y1, y2, y3, y4, y5, y6, z1, ha, E1, E2, E3, E4, E5, E6, G1, h⟩ := h
  obtain rfl := E1 (by decide)
  obtain rfl := E2 (by decide)
  obtain rfl := E3 (by decide)
  obtain rfl := E4 (by decide)
  obtain rfl := E5 (by decide)
  exact ⟨y6, z1, ha, G1, h⟩
theorem rcondJ11_fin {q1 : Nat} (h : rcondJ11 w pb r18l r18h r20l r20h r21l r21h r22l r22h l a0 6 [some q1] a v) : a = (((((((a0.put (some 95) (.agg #[.float .f64 4602678819172646912, .float .f64 4602678819172646912])).put (some 100) (.agg #[.float .f64 r18l, .float .f64 r18h])).put (some 102) (.agg #[.float .f64 0, .float .f64 0])).put (some 103) (.agg #[.float .f64 r20l, .float .f64 r20h])).put (some 104) (.agg #[.float .f64 r21l, .float .f64 r21h])).put (some 105) (.agg #[.float .f64 r22l, .float .f64 r22h])).put (some 14) (.pointer (some ⟨q1, 0, none⟩))) ∧ OwnF w ((pb, #[.int .i64 0]) :: l) [#[.float .f64 0, .float .f64 0]] [some q1] v := by
  obtain ⟨y1, y2, y3, y4, y5, y6, z1, ha, E1, E2, E3, E4, E5, E6, G1, h⟩ := h
  obtain rfl := E1 (by decide)
  obtain rfl := E2 (by decide)
  obtain rfl := E3 (by decide)
  obtain rfl := E4 (by decide)
  obtain rfl := E5 (by decide)
  obtain rfl := E6 (by decide)
  obtain rfl := G1 _ rfl
  exact ⟨ha, h⟩
end

def rcondJ13 (w : World) (pb : Nat) (r25l r25h r26l r26h : Nat) (l : RowL) (a0 : Act) (k : Nat) (p : List (Option Nat)) (a : Act) (v : World) : Prop :=
  ∃ y1 y2 y3 z1 : Value, a = ((((a0.put (some 113) y1).put (some 115) y2).put (some 117) y3).put (some 16) z1) ∧ (0 < k → y1 = .agg #[.float .f64 4611686018427387904, .float .f64 4611686018427387904]) ∧ (1 < k → y2 = .agg #[.float .f64 r25l, .float .f64 r25h]) ∧ (2 < k → y3 = .agg #[.float .f64 r26l, .float .f64 r26h]) ∧ (∀ q, p[0]? = some (some q) → z1 = .pointer (some ⟨q, 0, none⟩)) ∧ OwnF w ((pb, #[.int .i64 0]) :: l) [#[.float .f64 0, .float .f64 0]] p v
section
variable {w v : World} {pb : Nat} {r25l r25h r26l r26h : Nat} {l : RowL} {a0 a : Act} {p : List (Option Nat)}
theorem rcondJ13_0 (h : rcondJ13 w pb r25l r25h r26l r26h l a0 0 p a v) : ∃ y1 y2 y3 z1 : Value, a = ((((a0.put (some 113) y1).put (some 115) y2).put (some 117) y3).put (some 16) z1) ∧ (∀ q, p[0]? = some (some q) → z1 = .pointer (some ⟨q, 0, none⟩)) ∧ OwnF w ((pb, #[.int .i64 0]) :: l) [#[.float .f64 0, .float .f64 0]] p v := by
  obtain ⟨y1, y2, y3, z1, ha, E1, E2, E3, G1, h⟩ := h
  exact ⟨y1, y2, y3, z1, ha, G1, h⟩
theorem rcondJ13_1 (h : rcondJ13 w pb r25l r25h r26l r26h l a0 1 p a v) : ∃ y2 y3 z1 : Value, a = ((((a0.put (some 113) (.agg #[.float .f64 4611686018427387904, .float .f64 4611686018427387904])).put (some 115) y2).put (some 117) y3).put (some 16) z1) ∧ (∀ q, p[0]? = some (some q) → z1 = .pointer (some ⟨q, 0, none⟩)) ∧ OwnF w ((pb, #[.int .i64 0]) :: l) [#[.float .f64 0, .float .f64 0]] p v := by
  obtain ⟨y1, y2, y3, z1, ha, E1, E2, E3, G1, h⟩ := h
  obtain rfl := E1 (by decide)
  exact ⟨y2, y3, z1, ha, G1, h⟩
theorem rcondJ13_2 (h : rcondJ13 w pb r25l r25h r26l r26h l a0 2 p a v) : ∃ y3 z1 : Value, a = ((((a0.put (some 113) (.agg #[.float .f64 4611686018427387904, .float .f64 4611686018427387904])).put (some 115) (.agg #[.float .f64 r25l, .float .f64 r25h])).put (some 117) y3).put (some 16) z1) ∧ (∀ q, p[0]? = some (some q) → z1 = .pointer (some ⟨q, 0, none⟩)) ∧ OwnF w ((pb, #[.int .i64 0]) :: l) [#[.float .f64 0, .float .f64 0]] p v := by
  obtain ⟨y1, y2, y3, z1, ha, E1, E2, E3, G1, h⟩ := h
  obtain rfl := E1 (by decide)
  obtain rfl := E2 (by decide)
  exact ⟨y3, z1, ha, G1, h⟩
theorem rcondJ13_fin {q1 : Nat} (h : rcondJ13 w pb r25l r25h r26l r26h l a0 3 [some q1] a v) : a = ((((a0.put (some 113) (.agg #[.float .f64 4611686018427387904, .float .f64 4611686018427387904])).put (some 115) (.agg #[.float .f64 r25l, .float .f64 r25h])).put (some 117) (.agg #[.float .f64 r26l, .float .f64 r26h])).put (some 16) (.pointer (some ⟨q1, 0, none⟩))) ∧ OwnF w ((pb, #[.int .i64 0]) :: l) [#[.float .f64 0, .float .f64 0]] [some q1] v := by
  obtain ⟨y1, y2, y3, z1, ha, E1, E2, E3, G1, h⟩ := h
  obtain rfl := E1 (by decide)
  obtain rfl := E2 (by decide)
  obtain rfl := E3 (by decide)
  obtain rfl := G1 _ rfl
  exact ⟨ha, h⟩
end

def rcondJ14 (w : World) (pb : Nat) (r27l r27h r28l r28h r29l r29h r30l r30h : Nat) (l : RowL) (a0 : Act) (k : Nat) (p : List (Option Nat)) (a : Act) (v : World) : Prop :=
  ∃ y1 y2 y3 y4 z1 : Value, a = (((((a0.put (some 122) y1).put (some 126) y2).put (some 127) y3).put (some 128) y4).put (some 17) z1) ∧ (0 < k → y1 = .agg #[.float .f64 r27l, .float .f64 r27h]) ∧ (1 < k → y2 = .agg #[.float .f64 r28l, .float .f64 r28h]) ∧ (2 < k → y3 = .agg #[.float .f64 r29l, .float .f64 r29h]) ∧ (3 < k → y4 = .agg #[.float .f64 r30l, .float .f64 r30h]) ∧ (∀ q, p[0]? = some (some q) → z1 = .pointer (some ⟨q, 0, none⟩)) ∧ OwnF w ((pb, #[.int .i64 0]) :: l) [#[.float .f64 0, .float .f64 0]] p v
section
variable {w v : World} {pb : Nat} {r27l r27h r28l r28h r29l r29h r30l r30h : Nat} {l : RowL} {a0 a : Act} {p : List (Option Nat)}
theorem rcondJ14_0 (h : rcondJ14 w pb r27l r27h r28l r28h r29l r29h r30l r30h l a0 0 p a v) : ∃ y1 y2 y3 y4 z1 : Value, a = (((((a0.put (some 122) y1).put (some 126) y2).put (some 127) y3).put (some 128) y4).put (some 17) z1) ∧ (∀ q, p[0]? = some (some q) → z1 = .pointer (some ⟨q, 0, none⟩)) ∧ OwnF w ((pb, #[.int .i64 0]) :: l) [#[.float .f64 0, .float .f64 0]] p v := by
  obtain ⟨y1, y2, y3, y4, z1, ha, E1, E2, E3, E4, G1, h⟩ := h
  exact ⟨y1, y2, y3, y4, z1, ha, G1, h⟩
theorem rcondJ14_1 (h : rcondJ14 w pb r27l r27h r28l r28h r29l r29h r30l r30h l a0 1 p a v) : ∃ y2 y3 y4 z1 : Value, a = (((((a0.put (some 122) (.agg #[.float .f64 r27l, .float .f64 r27h])).put (some 126) y2).put (some 127) y3).put (some 128) y4).put (some 17) z1) ∧ (∀ q, p[0]? = some (some q) → z1 = .pointer (some ⟨q, 0, none⟩)) ∧ OwnF w ((pb, #[.int .i64 0]) :: l) [#[.float .f64 0, .float .f64 0]] p v := by
  obtain ⟨y1, y2, y3, y4, z1, ha, E1, E2, E3, E4, G1, h⟩ := h
  obtain rfl := E1 (by decide)
  exact ⟨y2, y3, y4, z1, ha, G1, h⟩
theorem rcondJ14_2 (h : rcondJ14 w pb r27l r27h r28l r28h r29l r29h r30l r30h l a0 2 p a v) : ∃ y3 y4 z1 : Value, a = (((((a0.put (some 122) (.agg #[.float .f64 r27l, .float .f64 r27h])).put (some 126) (.agg #[.float .f64 r28l, .float .f64 r28h])).put (some 127) y3).put (some 128) y4).put (some 17) z1) ∧ (∀ q, p[0]? = some (some q) → z1 = .pointer (some ⟨q, 0, none⟩)) ∧ OwnF w ((pb, #[.int .i64 0]) :: l) [#[.float .f64 0, .float .f64 0]] p v := by
  obtain ⟨y1, y2, y3, y4, z1, ha, E1, E2, E3, E4, G1, h⟩ := h
  obtain rfl := E1 (by decide)
  obtain rfl := E2 (by decide)
  exact ⟨y3, y4, z1, ha, G1, h⟩
theorem rcondJ14_3 (h : rcondJ14 w pb r27l r27h r28l r28h r29l r29h r30l r30h l a0 3 p a v) : ∃ y4 z1 : Value, a = (((((a0.put (some 122) (.agg #[.float .f64 r27l, .float .f64 r27h])).put (some 126) (.agg #[.float .f64 r28l, .float .f64 r28h])).put (some 127) (.agg #[.float .f64 r29l, .float .f64 r29h])).put (some 128) y4).put (some 17) z1) ∧ (∀ q, p[0]? = some (some q) → z1 = .pointer (some ⟨q, 0, none⟩)) ∧ OwnF w ((pb, #[.int .i64 0]) :: l) [#[.float .f64 0, .float .f64 0]] p v := by
  obtain ⟨y1, y2, y3, y4, z1, ha, E1, E2, E3, E4, G1, h⟩ := h
  obtain rfl := E1 (by decide)
  obtain rfl := E2 (by decide)
  obtain rfl := E3 (by decide)
  exact ⟨y4, z1, ha, G1, h⟩
theorem rcondJ14_fin {q1 : Nat} (h : rcondJ14 w pb r27l r27h r28l r28h r29l r29h r30l r30h l a0 4 [some q1] a v) : a = (((((a0.put (some 122) (.agg #[.float .f64 r27l, .float .f64 r27h])).put (some 126) (.agg #[.float .f64 r28l, .float .f64 r28h])).put (some 127) (.agg #[.float .f64 r29l, .float .f64 r29h])).put (some 128) (.agg #[.float .f64 r30l, .float .f64 r30h])).put (some 17) (.pointer (some ⟨q1, 0, none⟩))) ∧ OwnF w ((pb, #[.int .i64 0]) :: l) [#[.float .f64 0, .float .f64 0]] [some q1] v := by
  obtain ⟨y1, y2, y3, y4, z1, ha, E1, E2, E3, E4, G1, h⟩ := h
  obtain rfl := E1 (by decide)
  obtain rfl := E2 (by decide)
  obtain rfl := E3 (by decide)
  obtain rfl := E4 (by decide)
  obtain rfl := G1 _ rfl
  exact ⟨ha, h⟩
end

def rcondJ15 (w : World) (pb : Nat) (r31l r31h r32l r32h r33l r33h : Nat) (l : RowL) (a0 : Act) (k : Nat) (p : List (Option Nat)) (a : Act) (v : World) : Prop :=
  ∃ y1 y2 y3 z1 : Value, a = ((((a0.put (some 133) y1).put (some 136) y2).put (some 137) y3).put (some 18) z1) ∧ (0 < k → y1 = .agg #[.float .f64 r31l, .float .f64 r31h]) ∧ (1 < k → y2 = .agg #[.float .f64 r32l, .float .f64 r32h]) ∧ (2 < k → y3 = .agg #[.float .f64 r33l, .float .f64 r33h]) ∧ (∀ q, p[0]? = some (some q) → z1 = .pointer (some ⟨q, 0, none⟩)) ∧ OwnF w ((pb, #[.int .i64 0]) :: l) [#[.float .f64 0, .float .f64 0]] p v
section
variable {w v : World} {pb : Nat} {r31l r31h r32l r32h r33l r33h : Nat} {l : RowL} {a0 a : Act} {p : List (Option Nat)}
theorem rcondJ15_0 (h : rcondJ15 w pb r31l r31h r32l r32h r33l r33h l a0 0 p a v) : ∃ y1 y2 y3 z1 : Value, a = ((((a0.put (some 133) y1).put (some 136) y2).put (some 137) y3).put (some 18) z1) ∧ (∀ q, p[0]? = some (some q) → z1 = .pointer (some ⟨q, 0, none⟩)) ∧ OwnF w ((pb, #[.int .i64 0]) :: l) [#[.float .f64 0, .float .f64 0]] p v := by
  obtain ⟨y1, y2, y3, z1, ha, E1, E2, E3, G1, h⟩ := h
  exact ⟨y1, y2, y3, z1, ha, G1, h⟩
theorem rcondJ15_1 (h : rcondJ15 w pb r31l r31h r32l r32h r33l r33h l a0 1 p a v) : ∃ y2 y3 z1 : Value, a = ((((a0.put (some 133) (.agg #[.float .f64 r31l, .float .f64 r31h])).put (some 136) y2).put (some 137) y3).put (some 18) z1) ∧ (∀ q, p[0]? = some (some q) → z1 = .pointer (some ⟨q, 0, none⟩)) ∧ OwnF w ((pb, #[.int .i64 0]) :: l) [#[.float .f64 0, .float .f64 0]] p v := by
  obtain ⟨y1, y2, y3, z1, ha, E1, E2, E3, G1, h⟩ := h
  obtain rfl := E1 (by decide)
  exact ⟨y2, y3, z1, ha, G1, h⟩
theorem rcondJ15_2 (h : rcondJ15 w pb r31l r31h r32l r32h r33l r33h l a0 2 p a v) : ∃ y3 z1 : Value, a = ((((a0.put (some 133) (.agg #[.float .f64 r31l, .float .f64 r31h])).put (some 136) (.agg #[.float .f64 r32l, .float .f64 r32h])).put (some 137) y3).put (some 18) z1) ∧ (∀ q, p[0]? = some (some q) → z1 = .pointer (some ⟨q, 0, none⟩)) ∧ OwnF w ((pb, #[.int .i64 0]) :: l) [#[.float .f64 0, .float .f64 0]] p v := by
  obtain ⟨y1, y2, y3, z1, ha, E1, E2, E3, G1, h⟩ := h
  obtain rfl := E1 (by decide)
  obtain rfl := E2 (by decide)
  exact ⟨y3, z1, ha, G1, h⟩
theorem rcondJ15_fin {q1 : Nat} (h : rcondJ15 w pb r31l r31h r32l r32h r33l r33h l a0 3 [some q1] a v) : a = ((((a0.put (some 133) (.agg #[.float .f64 r31l, .float .f64 r31h])).put (some 136) (.agg #[.float .f64 r32l, .float .f64 r32h])).put (some 137) (.agg #[.float .f64 r33l, .float .f64 r33h])).put (some 18) (.pointer (some ⟨q1, 0, none⟩))) ∧ OwnF w ((pb, #[.int .i64 0]) :: l) [#[.float .f64 0, .float .f64 0]] [some q1] v := by
  obtain ⟨y1, y2, y3, z1, ha, E1, E2, E3, G1, h⟩ := h
  obtain rfl := E1 (by decide)
  obtain rfl := E2 (by decide)
  obtain rfl := E3 (by decide)
  obtain rfl := G1 _ rfl
  exact ⟨ha, h⟩
end

def rcondJ17 (w : World) (pb : Nat) (r35l r35h r36l r36h r37l r37h r38l r38h r39l r39h : Nat) (ek : Nat → Int) (l : RowL) (a0 : Act) (k : Nat) (p : List (Option Nat)) (a : Act) (v : World) : Prop :=
  ∃ y1 y2 y3 y4 y5 z1 : Value, a = ((((((a0.put (some 148) y1).put (some 152) y2).put (some 153) y3).put (some 154) y4).put (some 155) y5).put (some 20) z1) ∧ (0 < k → y1 = .agg #[.float .f64 r35l, .float .f64 r35h]) ∧ (1 < k → y2 = .agg #[.float .f64 r36l, .float .f64 r36h]) ∧ (2 < k → y3 = .agg #[.float .f64 r37l, .float .f64 r37h]) ∧ (3 < k → y4 = .agg #[.float .f64 r38l, .float .f64 r38h]) ∧ (4 < k → y5 = .agg #[.float .f64 r39l, .float .f64 r39h]) ∧ (∀ q, p[0]? = some (some q) → z1 = .pointer (some ⟨q, 0, none⟩)) ∧ OwnF w ((pb, #[.int .i64 (ek k)]) :: l) [#[.float .f64 0, .float .f64 0]] p v
section
variable {w v : World} {pb : Nat} {r35l r35h r36l r36h r37l r37h r38l r38h r39l r39h : Nat} {ek : Nat → Int} {l : RowL} {a0 a : Act} {p : List (Option Nat)}
theorem rcondJ17_0 (h : rcondJ17 w pb r35l r35h r36l r36h r37l r37h r38l r38h r39l r39h ek l a0 0 p a v) : ∃ y1 y2 y3 y4 y5 z1 : Value, a = ((((((a0.put (some 148) y1).put (some 152) y2).put (some 153) y3).put (some 154) y4).put (some 155) y5).put (some 20) z1) ∧ (∀ q, p[0]? = some (some q) → z1 = .pointer (some ⟨q, 0, none⟩)) ∧ OwnF w ((pb, #[.int .i64 (ek 0)]) :: l) [#[.float .f64 0, .float .f64 0]] p v := by
  obtain ⟨y1, y2, y3, y4, y5, z1, ha, E1, E2, E3, E4, E5, G1, h⟩ := h
  exact ⟨y1, y2, y3, y4, y5, z1, ha, G1, h⟩
theorem rcondJ17_1 (h : rcondJ17 w pb r35l r35h r36l r36h r37l r37h r38l r38h r39l r39h ek l a0 1 p a v) : ∃ y2 y3 y4 y5 z1 : Value, a = ((((((a0.put (some 148) (.agg #[.float .f64 r35l, .float .f64 r35h])).put (some 152) y2).put (some 153) y3).put (some 154) y4).put (some 155) y5).put (some 20) z1) ∧ (∀ q, p[0]? = some (some q) → z1 = .pointer (some ⟨q, 0, none⟩)) ∧ OwnF w ((pb, #[.int .i64 (ek 1)]) :: l) [#[.float .f64 0, .float .f64 0]] p v := by
  obtain ⟨y1, y2, y3, y4, y5, z1, ha, E1, E2, E3, E4, E5, G1, h⟩ := h
  obtain rfl := E1 (by decide)
  exact ⟨y2, y3, y4, y5, z1, ha, G1, h⟩
theorem rcondJ17_2 (h : rcondJ17 w pb r35l r35h r36l r36h r37l r37h r38l r38h r39l r39h ek l a0 2 p a v) : ∃ y3 y4 y5 z1 : Value, a = ((((((a0.put (some 148) (.agg #[.float .f64 r35l, .float .f64 r35h])).put (some 152) (.agg #[.float .f64 r36l, .float .f64 r36h])).put (some 153) y3).put (some 154) y4).put (some 155) y5).put (some 20) z1) ∧ (∀ q, p[0]? = some (some q) → z1 = .pointer (some ⟨q, 0, none⟩)) ∧ OwnF w ((pb, #[.int .i64 (ek 2)]) :: l) [#[.float .f64 0, .float .f64 0]] p v := by
  obtain ⟨y1, y2, y3, y4, y5, z1, ha, E1, E2, E3, E4, E5, G1, h⟩ := h
  obtain rfl := E1 (by decide)
  obtain rfl := E2 (by decide)
  exact ⟨y3, y4, y5, z1, ha, G1, h⟩
theorem rcondJ17_3 (h : rcondJ17 w pb r35l r35h r36l r36h r37l r37h r38l r38h r39l r39h ek l a0 3 p a v) : ∃ y4 y5 z1 : Value, a = ((((((a0.put (some 148) (.agg #[.float .f64 r35l, .float .f64 r35h])).put (some 152) (.agg #[.float .f64 r36l, .float .f64 r36h])).put (some 153) (.agg #[.float .f64 r37l, .float .f64 r37h])).put (some 154) y4).put (some 155) y5).put (some 20) z1) ∧ (∀ q, p[0]? = some (some q) → z1 = .pointer (some ⟨q, 0, none⟩)) ∧ OwnF w ((pb, #[.int .i64 (ek 3)]) :: l) [#[.float .f64 0, .float .f64 0]] p v := by
  obtain ⟨y1, y2, y3, y4, y5, z1, ha, E1, E2, E3, E4, E5, G1, h⟩ := h
  obtain rfl := E1 (by decide)
  obtain rfl := E2 (by decide)
  obtain rfl := E3 (by decide)
  exact ⟨y4, y5, z1, ha, G1, h⟩
theorem rcondJ17_4 (h : rcondJ17 w pb r35l r35h r36l r36h r37l r37h r38l r38h r39l r39h ek l a0 4 p a v) : ∃ y5 z1 : Value, a = ((((((a0.put (some 148) (.agg #[.float .f64 r35l, .float .f64 r35h])).put (some 152) (.agg #[.float .f64 r36l, .float .f64 r36h])).put (some 153) (.agg #[.float .f64 r37l, .float .f64 r37h])).put (some 154) (.agg #[.float .f64 r38l, .float .f64 r38h])).put (some 155) y5).put (some 20) z1) ∧ (∀ q, p[0]? = some (some q) → z1 = .pointer (some ⟨q, 0, none⟩)) ∧ OwnF w ((pb, #[.int .i64 (ek 4)]) :: l) [#[.float .f64 0, .float .f64 0]] p v := by
  obtain ⟨y1, y2, y3, y4, y5, z1, ha, E1, E2, E3, E4, E5, G1, h⟩ := h
  obtain rfl := E1 (by decide)
  obtain rfl := E2 (by decide)
  obtain rfl := E3 (by decide)
  obtain rfl := E4 (by decide)
  exact ⟨y5, z1, ha, G1, h⟩
theorem rcondJ17_fin {q1 : Nat} (h : rcondJ17 w pb r35l r35h r36l r36h r37l r37h r38l r38h r39l r39h ek l a0 5 [some q1] a v) : a = ((((((a0.put (some 148) (.agg #[.float .f64 r35l, .float .f64 r35h])).put (some 152) (.agg #[.float .f64 r36l, .float .f64 r36h])).put (some 153) (.agg #[.float .f64 r37l, .float .f64 r37h])).put (some 154) (.agg #[.float .f64 r38l, .float .f64 r38h])).put (some 155) (.agg #[.float .f64 r39l, .float .f64 r39h])).put (some 20) (.pointer (some ⟨q1, 0, none⟩))) ∧ OwnF w ((pb, #[.int .i64 (ek 5)]) :: l) [#[.float .f64 0, .float .f64 0]] [some q1] v := by
  obtain ⟨y1, y2, y3, y4, y5, z1, ha, E1, E2, E3, E4, E5, G1, h⟩ := h
  obtain rfl := E1 (by decide)
  obtain rfl := E2 (by decide)
  obtain rfl := E3 (by decide)
  obtain rfl := E4 (by decide)
  obtain rfl := E5 (by decide)
  obtain rfl := G1 _ rfl
  exact ⟨ha, h⟩
end

def rcondJ18 (w : World) (pb : Nat) (r40l r40h r41l r41h r42l r42h : Nat) (e : Int) (l : RowL) (a0 : Act) (k : Nat) (p : List (Option Nat)) (a : Act) (v : World) : Prop :=
  ∃ y1 y2 y3 z1 : Value, a = ((((a0.put (some 158) y1).put (some 162) y2).put (some 163) y3).put (some 21) z1) ∧ (0 < k → y1 = .agg #[.float .f64 r40l, .float .f64 r40h]) ∧ (1 < k → y2 = .agg #[.float .f64 r41l, .float .f64 r41h]) ∧ (2 < k → y3 = .agg #[.float .f64 r42l, .float .f64 r42h]) ∧ (∀ q, p[0]? = some (some q) → z1 = .pointer (some ⟨q, 0, none⟩)) ∧ OwnF w ((pb, #[.int .i64 e]) :: l) [#[.float .f64 0, .float .f64 0]] p v
section
variable {w v : World} {pb : Nat} {r40l r40h r41l r41h r42l r42h : Nat} {e : Int} {l : RowL} {a0 a : Act} {p : List (Option Nat)}
theorem rcondJ18_0 (h : rcondJ18 w pb r40l r40h r41l r41h r42l r42h e l a0 0 p a v) : ∃ y1 y2 y3 z1 : Value, a = ((((a0.put (some 158) y1).put (some 162) y2).put (some 163) y3).put (some 21) z1) ∧ (∀ q, p[0]? = some (some q) → z1 = .pointer (some ⟨q, 0, none⟩)) ∧ OwnF w ((pb, #[.int .i64 e]) :: l) [#[.float .f64 0, .float .f64 0]] p v := by
  obtain ⟨y1, y2, y3, z1, ha, E1, E2, E3, G1, h⟩ := h
  exact ⟨y1, y2, y3, z1, ha, G1, h⟩
theorem rcondJ18_1 (h : rcondJ18 w pb r40l r40h r41l r41h r42l r42h e l a0 1 p a v) : ∃ y2 y3 z1 : Value, a = ((((a0.put (some 158) (.agg #[.float .f64 r40l, .float .f64 r40h])).put (some 162) y2).put (some 163) y3).put (some 21) z1) ∧ (∀ q, p[0]? = some (some q) → z1 = .pointer (some ⟨q, 0, none⟩)) ∧ OwnF w ((pb, #[.int .i64 e]) :: l) [#[.float .f64 0, .float .f64 0]] p v := by
  obtain ⟨y1, y2, y3, z1, ha, E1, E2, E3, G1, h⟩ := h
  obtain rfl := E1 (by decide)
  exact ⟨y2, y3, z1, ha, G1, h⟩
theorem rcondJ18_2 (h : rcondJ18 w pb r40l r40h r41l r41h r42l r42h e l a0 2 p a v) : ∃ y3 z1 : Value, a = ((((a0.put (some 158) (.agg #[.float .f64 r40l, .float .f64 r40h])).put (some 162) (.agg #[.float .f64 r41l, .float .f64 r41h])).put (some 163) y3).put (some 21) z1) ∧ (∀ q, p[0]? = some (some q) → z1 = .pointer (some ⟨q, 0, none⟩)) ∧ OwnF w ((pb, #[.int .i64 e]) :: l) [#[.float .f64 0, .float .f64 0]] p v := by
  obtain ⟨y1, y2, y3, z1, ha, E1, E2, E3, G1, h⟩ := h
  obtain rfl := E1 (by decide)
  obtain rfl := E2 (by decide)
  exact ⟨y3, z1, ha, G1, h⟩
theorem rcondJ18_fin {q1 : Nat} (h : rcondJ18 w pb r40l r40h r41l r41h r42l r42h e l a0 3 [some q1] a v) : a = ((((a0.put (some 158) (.agg #[.float .f64 r40l, .float .f64 r40h])).put (some 162) (.agg #[.float .f64 r41l, .float .f64 r41h])).put (some 163) (.agg #[.float .f64 r42l, .float .f64 r42h])).put (some 21) (.pointer (some ⟨q1, 0, none⟩))) ∧ OwnF w ((pb, #[.int .i64 e]) :: l) [#[.float .f64 0, .float .f64 0]] [some q1] v := by
  obtain ⟨y1, y2, y3, z1, ha, E1, E2, E3, G1, h⟩ := h
  obtain rfl := E1 (by decide)
  obtain rfl := E2 (by decide)
  obtain rfl := E3 (by decide)
  obtain rfl := G1 _ rfl
  exact ⟨ha, h⟩
end

set_option maxRecDepth 100000 in
set_option maxHeartbeats 16000000 in
theorem rcond_walk (a0l a0h a1l a1h a2l a2h r1l r1h r3l r3h r4l r4h r5l r5h r6l r6h r7l r7h r8l r8h r9l r9h r10l r10h r11l r11h r12l r12h r14l r14h r15l r15h r16l r16h r18l r18h r20l r20h r21l r21h r22l r22h r23l r23h r25l r25h r26l r26h r27l r27h r28l r28h r29l r29h r30l r30h r31l r31h r32l r32h r33l r33h r34l r34h r35l r35h r36l r36h r37l r37h r38l r38h r39l r39h r40l r40h r41l r41h r42l r42h : Nat) (e : Int) (w : World)
    (cR0 : Hid (∀ v : World, Calls Tryz.prog 28 #[.agg #[.float .f64 a0l, .float .f64 a0h]] v fun r w' => r = .returned (.bool true) ∧ Below v.heap.size v w'))
    (cR1 : Hid (∀ v : World, Calls Tryz.prog 28 #[.agg #[.float .f64 a1l, .float .f64 a1h]] v fun r w' => r = .returned (.bool true) ∧ Below v.heap.size v w'))
    (cR2 : Hid (∀ v : World, Calls Tryz.prog 28 #[.agg #[.float .f64 a2l, .float .f64 a2h]] v fun r w' => r = .returned (.bool true) ∧ Below v.heap.size v w'))
    (cW0 : Hid (∀ v : World, Calls Tryz.prog 69 #[.agg #[.float .f64 a0l, .float .f64 a0h], .float .f64 0, .float .f64 4607182418800017408] v fun r w' => r = .returned (.bool true) ∧ Below v.heap.size v w'))
    (cW1 : Hid (∀ v : World, Calls Tryz.prog 69 #[.agg #[.float .f64 a1l, .float .f64 a1h], .float .f64 4589168020290535424, .float .f64 4625196817309499392] v fun r w' => r = .returned (.bool true) ∧ Below v.heap.size v w'))
    (cW2 : Hid (∀ v : World, Calls Tryz.prog 69 #[.agg #[.float .f64 a2l, .float .f64 a2h], .float .f64 4589168020290535424, .float .f64 4625196817309499392] v fun r w' => r = .returned (.bool true) ∧ Below v.heap.size v w'))
    (d1 : Hid (K1 72 0 0 a0l a0h r1l r1h))
    (d2 : Hid (KN 44 0 0 4607182418800017408 4607182418800017408 4607182418800017408))
    (d3 : Hid (K2 71 0 0 4607182418800017408 4607182418800017408 r1l r1h r3l r3h))
    (d4 : Hid (KD 75 r3l r3h 0 4607182418800017408 r4l r4h))
    (d5 : Hid (K1 72 0 0 a1l a1h r5l r5h))
    (d6 : Hid (K1 72 0 0 a2l a2h r6l r6h))
    (d7 : Hid (K2 74 0 0 r5l r5h r6l r6h r7l r7h))
    (d8 : Hid (K1 72 0 0 a1l a1h r8l r8h))
    (d9 : Hid (K1 72 0 0 a2l a2h r9l r9h))
    (d10 : Hid (K2 71 0 0 r8l r8h r9l r9h r10l r10h))
    (d11 : Hid (K2 71 0 0 r10l r10h r4l r4h r11l r11h))
    (d12 : Hid (K1 72 0 0 r11l r11h r12l r12h))
    (d13 : Hid (KN 44 0 0 4616189618054758400 4616189618054758400 4616189618054758400))
    (d14 : Hid (K2 74 0 0 4616189618054758400 4616189618054758400 r7l r7h r14l r14h))
    (d15 : Hid (K2 70 0 0 r12l r12h r14l r14h r15l r15h))
    (d16 : Hid (K1 73 0 0 r15l r15h r16l r16h))
    (d17 : Hid (KN 44 0 0 4602678819172646912 4602678819172646912 4602678819172646912))
    (d18 : Hid (K2 70 0 0 r16l r16h r11l r11h r18l r18h))
    (d19 : Hid (KN 44 0 0 0 0 0))
    (d20 : Hid (K2 78 0 0 r18l r18h 0 0 r20l r20h))
    (d21 : Hid (K2 74 0 0 4602678819172646912 4602678819172646912 r20l r20h r21l r21h))
    (d22 : Hid (K1 73 0 0 r21l r21h r22l r22h))
    (d23 : Hid (K2 70 0 0 r16l r16h r1l r1h r23l r23h))
    (d24 : Hid (KN 44 0 0 4611686018427387904 4611686018427387904 4611686018427387904))
    (d25 : Hid (K2 74 0 0 4611686018427387904 4611686018427387904 r22l r22h r25l r25h))
    (d26 : Hid (K2 74 0 0 r25l r25h a0l a0h r26l r26h))
    (d27 : Hid (K2 71 0 0 r23l r23h r26l r26h r27l r27h))
    (d28 : Hid (K2 70 0 0 r23l r23h r26l r26h r28l r28h))
    (d29 : Hid (K2 47 0 0 r27l r27h r28l r28h r29l r29h))
    (d30 : Hid (KD 75 r29l r29h 0 4607182418800017408 r30l r30h))
    (d31 : Hid (K2 74 0 0 r1l r1h r16l r16h r31l r31h))
    (d32 : Hid (K1 72 0 0 r4l r4h r32l r32h))
    (d33 : Hid (K2 70 0 0 r31l r31h r32l r32h r33l r33h))
    (d34 : Hid (K2 74 0 0 r26l r26h r4l r4h r34l r34h))
    (d35 : Hid (K2 71 0 0 r33l r33h r34l r34h r35l r35h))
    (d36 : Hid (K2 70 0 0 r33l r33h r34l r34h r36l r36h))
    (d37 : Hid (K2 47 0 e r35l r35h r36l r36h r37l r37h))
    (d38 : Hid (K2 74 e e r30l r30h r37l r37h r38l r38h))
    (d39 : Hid (KD 75 r38l r38h 0 4607182418800017408 r39l r39h))
    (d40 : Hid (KN 44 e e 4602678819172646912 r40l r40h))
    (d41 : Hid (K2 70 e e r30l r30h r39l r39h r41l r41h))
    (d42 : Hid (K2 74 e e r40l r40h r41l r41h r42l r42h))
    (hz : e ≠ 0 → r42l = 0 ∧ r42h = 0) :
    Calls Tryz.prog 21 #[.agg #[.float .f64 a0l, .float .f64 a0h], .agg #[.float .f64 a1l, .float .f64 a1h], .agg #[.float .f64 a2l, .float .f64 a2h]] w fun r w' => r = .returned (.tuple #[.agg #[.float .f64 r42l, .float .f64 r42h], .int .i64 e]) ∧ Below w.heap.size w w' := by
  have M := Lib.hid (((((Own.nil w).made #[.float .f64 a0l, .float .f64 a0h] 24).made #[.float .f64 a1l, .float .f64 a1h] 24).made #[.float .f64 a2l, .float .f64 a2h] 24).made #[.float .f64 0, .float .f64 0] 24)
  simp only [World.size_alloc] at M
  obtain ⟨kk0, kk1⟩ := (M.out.nth 3 rfl).two
  obtain ⟨kk2, kk3⟩ := (M.out.nth 2 rfl).two
  obtain ⟨kk4, kk5⟩ := (M.out.nth 1 rfl).two
  go_enter Tryz.func21, Tryz.ntmps21
  go_wp2_with fail
  refine (cR0.out _).mono ?_
  rintro r w1 ⟨rfl, hb⟩
  replace M := Lib.hid (M.out.below hb)
  clear hb kk0 kk1 kk2 kk3 kk4 kk5
  obtain ⟨kk0, kk1⟩ := (M.out.nth 3 rfl).two
  obtain ⟨kk2, kk3⟩ := (M.out.nth 2 rfl).two
  obtain ⟨kk4, kk5⟩ := (M.out.nth 1 rfl).two
  go_wp2_with fail
  refine (cR1.out _).mono ?_
  rintro r w2 ⟨rfl, hb⟩
  replace M := Lib.hid (M.out.below hb)
  clear hb kk0 kk1 kk2 kk3 kk4 kk5
  obtain ⟨kk0, kk1⟩ := (M.out.nth 3 rfl).two
  obtain ⟨kk2, kk3⟩ := (M.out.nth 2 rfl).two
  obtain ⟨kk4, kk5⟩ := (M.out.nth 1 rfl).two
  go_wp2_with fail
  refine (cR2.out _).mono ?_
  rintro r w3 ⟨rfl, hb⟩
  replace M := Lib.hid (M.out.below hb)
  clear hb kk0 kk1 kk2 kk3 kk4 kk5
  obtain ⟨kk0, kk1⟩ := (M.out.nth 3 rfl).two
  obtain ⟨kk2, kk3⟩ := (M.out.nth 2 rfl).two
  obtain ⟨kk4, kk5⟩ := (M.out.nth 1 rfl).two
  go_wp2_with fail
  refine (cW0.out _).mono ?_
  rintro r w4 ⟨rfl, hb⟩
  replace M := Lib.hid (M.out.below hb)
  clear hb kk0 kk1 kk2 kk3 kk4 kk5
  obtain ⟨kk0, kk1⟩ := (M.out.nth 3 rfl).two
  obtain ⟨kk2, kk3⟩ := (M.out.nth 2 rfl).two
  obtain ⟨kk4, kk5⟩ := (M.out.nth 1 rfl).two
  go_wp2_with fail
  refine (cW1.out _).mono ?_
  rintro r w5 ⟨rfl, hb⟩
  replace M := Lib.hid (M.out.below hb)
  clear hb kk0 kk1 kk2 kk3 kk4 kk5
  obtain ⟨kk0, kk1⟩ := (M.out.nth 3 rfl).two
  obtain ⟨kk2, kk3⟩ := (M.out.nth 2 rfl).two
  obtain ⟨kk4, kk5⟩ := (M.out.nth 1 rfl).two
  go_wp2_with fail
  refine (cW2.out _).mono ?_
  rintro r w6 ⟨rfl, hb⟩
  replace M := Lib.hid (M.out.below hb)
  clear hb kk0 kk1 kk2 kk3 kk4 kk5
  replace M := Lib.hid (M.out.made #[.int .i64 0] 42)
  obtain ⟨k1, k2⟩ := (M.out.nth 4 rfl).two
  go_wp2_with fail
  refine (d1.out _ _ ((M.out.nth 0 rfl))).mono ?_
  rintro r u1 ⟨rfl, hp⟩
  replace M := Lib.hid (M.out.putHead hp)
  clear hp
  clear k1 k2
  replace M := Lib.hid (M.out.made #[.float .f64 r1l, .float .f64 r1h] 24).front
  go_upto_region 7 with fail
  replace M := Lib.hid M.out.drew
  refine wp_region_noPanic ?_
  refine tails_region (S := fun w' => (w'.cell? ⟨u1.heap.size, 0, none⟩ = some (.float .f64 r1l) ∧ w'.cell? ⟨u1.heap.size, 1, none⟩ = some (.float .f64 r1h))) [] (by kernel_rfl) ?_ (fun hS => ?_)
  · exact (M.out.nth 1 rfl).two
  refine tk (x := ?_) 0 rfl (by kernel_rfl) ⟨by rfl, ?_⟩ (fun _ _ _ h => h) hS ?_
  rotate_left; focus (intro w hSw; (try dsimp only at hSw); go_simp; try with_reducible rfl)
  refine tk (x := ?_) 1 rfl (by kernel_rfl) ⟨by rfl, ?_⟩ (fun _ _ _ h => h) hS ?_
  rotate_left; focus (intro w hSw; (try dsimp only at hSw); go_simp; try with_reducible rfl)
  refine tk (x := ?_) 3 rfl (by kernel_rfl) ⟨by rfl, ?_⟩ (fun _ _ _ h => h) hS ?_
  rotate_left; focus (intro w hSw; (try dsimp only at hSw); go_simp; try with_reducible rfl)
  conv => arg 9; simp only [Act.put, go_sem]
  refine lam_3_1 M (T := []) 2 4 5 6 [57, 59, 60, 10] 1 (rcondJ7 w w6.heap.size r3l r3h r4l r4h) (by kernel_rfl) (by kernel_rfl) ?_ ?_ ?_ ?_ ?_ ?_ ?_
  · intro A hA
    obtain ⟨y1, hq1⟩ := put_ex (hA 57 (by simp))
    obtain ⟨y2, hq2⟩ := put_ex (hA 59 (by simp))
    obtain ⟨y3, hq3⟩ := put_ex (hA 60 (by simp))
    obtain ⟨z1, hq4⟩ := put_ex (hA 10 (by simp))
    exact ⟨y1, y2, y3, z1, by rw [hq1, hq2, hq3, hq4], by omega, by omega, by omega, by simp, OwnF.start M.out 1⟩
  · rintro k p a v ⟨y1, y2, y3, z1, _, _, _, _, _, h⟩
    exact (h.own.nth 1 rfl).two
  · intro p a v hJ
    refine op_step (o := _) rfl (fun K hK => ?_)
    obtain ⟨y1, y2, y3, z1, rfl, gg1, h⟩ := rcondJ7_0 hJ
    have h := Lib.hid h
    clear hJ
    go_simp
    refine (d2.out _ _ ((h.out.own.nth 0 rfl))).mono ?_
    rintro rr w5 ⟨rfl, hp⟩
    try go_wp2_with fail
    refine hK.out _ _ ⟨_, y2, y3, z1, ?_, fun _ => rfl, by omega, by omega, gg1, h.out.putHead hp⟩
    kernel_rfl
  · intro p a v hJ
    refine op_step (o := _) rfl (fun K hK => ?_)
    obtain ⟨y2, y3, z1, rfl, gg1, h⟩ := rcondJ7_1 hJ
    have h := Lib.hid h
    clear hJ
    go_simp
    refine (d3.out _ _ ((h.out.own.nth 0 rfl))).mono ?_
    rintro rr w5 ⟨rfl, hp⟩
    try go_wp2_with fail
    refine hK.out _ _ ⟨_, _, y3, z1, ?_, fun _ => rfl, fun _ => rfl, by omega, gg1, h.out.putHead hp⟩
    kernel_rfl
  · intro p a v hJ
    refine op_step (o := _) rfl (fun K hK => ?_)
    obtain ⟨y3, z1, rfl, gg1, h⟩ := rcondJ7_2 hJ
    have h := Lib.hid h
    clear hJ
    go_simp
    refine (d4.out _).mono ?_
    rintro rr w5 ⟨rfl, hp⟩
    try go_wp2_with fail
    refine hK.out _ _ ⟨_, _, _, z1, ?_, fun _ => rfl, fun _ => rfl, fun _ => rfl, gg1, h.out.below hp⟩
    kernel_rfl
  · intro k p a v hp hJ
    refine op_step (o := _) rfl (fun K hK => ?_)
    obtain ⟨y1, y2, y3, z1, rfl, ee1, ee2, ee3, gg1, h⟩ := hJ
    have h := Lib.hid h
    go_simp
    refine hK.out _ _ ⟨v.heap.size, y1, y2, y3, .pointer (some ⟨v.heap.size, 0, none⟩), ?_, ee1, ee2, ee3, fun q hq => ptr_set hq, h.out.alloc hp rfl _⟩
    kernel_rfl
  intro p2_1 a v hJ
  obtain ⟨rfl, h⟩ := rcondJ7_fin hJ
  clear hJ
  replace M := Lib.hid h.fin1
  clear h
  refine tails_one (T := []) (i := 7) (o := _) rfl (by kernel_rfl) (fun K hK => ?_)
  have kc := (M.out.nth 0 rfl).2.1
  have kf := (M.out.nth 0 rfl).2.2
  replace M := Lib.hid (M.out.setHead (.float .f64 r4l) (.float .f64 r4h))
  go_simp
  refine hK.out _ _ (Or.inr (M.out.nth 2 rfl).two) (fun hHeld => ?_)
  clear hK K hHeld kc kf
  refine tails_done (by kernel_rfl) ?_ _
  refine NoPanic.normal ?_
  clear hS
  revert M
  generalize ((v.setCell ⟨p2_1, 0, none⟩ (.float .f64 r4l)).setCell ⟨p2_1, 1, none⟩ (.float .f64 r4h)) = W
  intro M
  replace M := Lib.hid M.out.front
  revert M
  generalize W = W2
  intro M
  go_upto_region 8 with fail
  replace M := Lib.hid M.out.drew
  refine wp_region_noPanic ?_
  refine tails_region (S := fun w' => (w'.cell? ⟨(w.heap.size + 1), 0, none⟩ = some (.float .f64 a1l) ∧ w'.cell? ⟨(w.heap.size + 1), 1, none⟩ = some (.float .f64 a1h)) ∧ (w'.cell? ⟨(w.heap.size + 1 + 1), 0, none⟩ = some (.float .f64 a2l) ∧ w'.cell? ⟨(w.heap.size + 1 + 1), 1, none⟩ = some (.float .f64 a2h))) [] (by kernel_rfl) ?_ (fun hS => ?_)
  · exact ⟨(M.out.nth 5 rfl).two, (M.out.nth 4 rfl).two⟩
  refine tk (x := ?_) 0 rfl (by kernel_rfl) ⟨by rfl, ?_⟩ (fun _ _ _ h => h) hS ?_
  rotate_left; focus (intro w hSw; (try dsimp only at hSw); go_simp; try with_reducible rfl)
  refine tk (x := ?_) 1 rfl (by kernel_rfl) ⟨by rfl, ?_⟩ (fun _ _ _ h => h) hS ?_
  rotate_left; focus (intro w hSw; (try dsimp only at hSw); go_simp; try with_reducible rfl)
  refine tk (x := ?_) 2 rfl (by kernel_rfl) ⟨by rfl, ?_⟩ (fun _ _ _ h => h) hS ?_
  rotate_left; focus (intro w hSw; (try dsimp only at hSw); go_simp; try with_reducible rfl)
  refine tk (x := ?_) 4 rfl (by kernel_rfl) ⟨by rfl, ?_⟩ (fun _ _ _ h => h) hS ?_
  rotate_left; focus (intro w hSw; (try dsimp only at hSw); go_simp; try with_reducible rfl)
  refine tk (x := ?_) 5 rfl (by kernel_rfl) ⟨by rfl, ?_⟩ (fun _ _ _ h => h) hS ?_
  rotate_left; focus (intro w hSw; (try dsimp only at hSw); go_simp; try with_reducible rfl)
  conv => arg 9; simp only [Act.put, go_sem]
  refine lam_3_1 M (T := []) 3 6 7 8 [64, 67, 68, 11] 1 (rcondJ8 w w6.heap.size r5l r5h r6l r6h r7l r7h) (by kernel_rfl) (by kernel_rfl) ?_ ?_ ?_ ?_ ?_ ?_ ?_
  · intro A hA
    obtain ⟨y1, hq1⟩ := put_ex (hA 64 (by simp))
    obtain ⟨y2, hq2⟩ := put_ex (hA 67 (by simp))
    obtain ⟨y3, hq3⟩ := put_ex (hA 68 (by simp))
    obtain ⟨z1, hq4⟩ := put_ex (hA 11 (by simp))
    exact ⟨y1, y2, y3, z1, by rw [hq1, hq2, hq3, hq4], by omega, by omega, by omega, by simp, OwnF.start M.out 1⟩
  · rintro k p a v ⟨y1, y2, y3, z1, _, _, _, _, _, h⟩
    exact ⟨(h.own.nth 5 rfl).two, (h.own.nth 4 rfl).two⟩
  · intro p a v hJ
    refine op_step (o := _) rfl (fun K hK => ?_)
    obtain ⟨y1, y2, y3, z1, rfl, gg1, h⟩ := rcondJ8_0 hJ
    have h := Lib.hid h
    clear hJ
    go_simp
    refine (d5.out _ _ ((h.out.own.nth 0 rfl))).mono ?_
    rintro rr w5 ⟨rfl, hp⟩
    try go_wp2_with fail
    refine hK.out _ _ ⟨_, y2, y3, z1, ?_, fun _ => rfl, by omega, by omega, gg1, h.out.putHead hp⟩
    kernel_rfl
  · intro p a v hJ
    refine op_step (o := _) rfl (fun K hK => ?_)
    obtain ⟨y2, y3, z1, rfl, gg1, h⟩ := rcondJ8_1 hJ
    have h := Lib.hid h
    clear hJ
    go_simp
    refine (d6.out _ _ ((h.out.own.nth 0 rfl))).mono ?_
    rintro rr w5 ⟨rfl, hp⟩
    try go_wp2_with fail
    refine hK.out _ _ ⟨_, _, y3, z1, ?_, fun _ => rfl, fun _ => rfl, by omega, gg1, h.out.putHead hp⟩
    kernel_rfl
  · intro p a v hJ
    refine op_step (o := _) rfl (fun K hK => ?_)
    obtain ⟨y3, z1, rfl, gg1, h⟩ := rcondJ8_2 hJ
    have h := Lib.hid h
    clear hJ
    go_simp
    refine (d7.out _ _ ((h.out.own.nth 0 rfl))).mono ?_
    rintro rr w5 ⟨rfl, hp⟩
    try go_wp2_with fail
    refine hK.out _ _ ⟨_, _, _, z1, ?_, fun _ => rfl, fun _ => rfl, fun _ => rfl, gg1, h.out.putHead hp⟩
    kernel_rfl
  · intro k p a v hp hJ
    refine op_step (o := _) rfl (fun K hK => ?_)
    obtain ⟨y1, y2, y3, z1, rfl, ee1, ee2, ee3, gg1, h⟩ := hJ
    have h := Lib.hid h
    go_simp
    refine hK.out _ _ ⟨v.heap.size, y1, y2, y3, .pointer (some ⟨v.heap.size, 0, none⟩), ?_, ee1, ee2, ee3, fun q hq => ptr_set hq, h.out.alloc hp rfl _⟩
    kernel_rfl
  intro p3_1 a v hJ
  obtain ⟨rfl, h⟩ := rcondJ8_fin hJ
  clear hJ
  replace M := Lib.hid h.fin1
  clear h
  refine tails_one (T := []) (i := 9) (o := _) rfl (by kernel_rfl) (fun K hK => ?_)
  have kc := (M.out.nth 0 rfl).2.1
  have kf := (M.out.nth 0 rfl).2.2
  replace M := Lib.hid (M.out.setHead (.float .f64 r7l) (.float .f64 r7h))
  go_simp
  refine hK.out _ _ (Or.inr ⟨(M.out.nth 6 rfl).two, (M.out.nth 5 rfl).two⟩) (fun hHeld => ?_)
  clear hK K hHeld kc kf
  refine tails_done (by kernel_rfl) ?_ _
  refine NoPanic.normal ?_
  clear hS
  revert M
  generalize ((v.setCell ⟨p3_1, 0, none⟩ (.float .f64 r7l)).setCell ⟨p3_1, 1, none⟩ (.float .f64 r7h)) = W
  intro M
  replace M := Lib.hid M.out.front
  revert M
  generalize W = W3
  intro M
  go_upto_region 9 with fail
  replace M := Lib.hid M.out.drew
  refine wp_region_noPanic ?_
  refine tails_region (S := fun w' => (w'.cell? ⟨(w.heap.size + 1), 0, none⟩ = some (.float .f64 a1l) ∧ w'.cell? ⟨(w.heap.size + 1), 1, none⟩ = some (.float .f64 a1h)) ∧ (w'.cell? ⟨(w.heap.size + 1 + 1), 0, none⟩ = some (.float .f64 a2l) ∧ w'.cell? ⟨(w.heap.size + 1 + 1), 1, none⟩ = some (.float .f64 a2h)) ∧ (w'.cell? ⟨p2_1, 0, none⟩ = some (.float .f64 r4l) ∧ w'.cell? ⟨p2_1, 1, none⟩ = some (.float .f64 r4h))) [] (by kernel_rfl) ?_ (fun hS => ?_)
  · exact ⟨(M.out.nth 6 rfl).two, (M.out.nth 5 rfl).two, (M.out.nth 2 rfl).two⟩
  refine tk (x := ?_) 0 rfl (by kernel_rfl) ⟨by rfl, ?_⟩ (fun _ _ _ h => h) hS ?_
  rotate_left; focus (intro w hSw; (try dsimp only at hSw); go_simp; try with_reducible rfl)
  refine tk (x := ?_) 1 rfl (by kernel_rfl) ⟨by rfl, ?_⟩ (fun _ _ _ h => h) hS ?_
  rotate_left; focus (intro w hSw; (try dsimp only at hSw); go_simp; try with_reducible rfl)
  refine tk (x := ?_) 2 rfl (by kernel_rfl) ⟨by rfl, ?_⟩ (fun _ _ _ h => h) hS ?_
  rotate_left; focus (intro w hSw; (try dsimp only at hSw); go_simp; try with_reducible rfl)
  refine tk (x := ?_) 3 rfl (by kernel_rfl) ⟨by rfl, ?_⟩ (fun _ _ _ h => h) hS ?_
  rotate_left; focus (intro w hSw; (try dsimp only at hSw); go_simp; try with_reducible rfl)
  refine tk (x := ?_) 5 rfl (by kernel_rfl) ⟨by rfl, ?_⟩ (fun _ _ _ h => h) hS ?_
  rotate_left; focus (intro w hSw; (try dsimp only at hSw); go_simp; try with_reducible rfl)
  refine tk (x := ?_) 6 rfl (by kernel_rfl) ⟨by rfl, ?_⟩ (fun _ _ _ h => h) hS ?_
  rotate_left; focus (intro w hSw; (try dsimp only at hSw); go_simp; try with_reducible rfl)
  refine tk (x := ?_) 9 rfl (by kernel_rfl) ⟨by rfl, ?_⟩ (fun _ _ _ h => h) hS ?_
  rotate_left; focus (intro w hSw; (try dsimp only at hSw); go_simp; try with_reducible rfl)
  conv => arg 9; simp only [Act.put, go_sem]
  refine lam_4_1 M (T := []) 4 7 8 10 11 [73, 76, 77, 79, 12] 1 (rcondJ9 w w6.heap.size r8l r8h r9l r9h r10l r10h r11l r11h) (by kernel_rfl) (by kernel_rfl) ?_ ?_ ?_ ?_ ?_ ?_ ?_ ?_
  · intro A hA
    obtain ⟨y1, hq1⟩ := put_ex (hA 73 (by simp))
    obtain ⟨y2, hq2⟩ := put_ex (hA 76 (by simp))
    obtain ⟨y3, hq3⟩ := put_ex (hA 77 (by simp))
    obtain ⟨y4, hq4⟩ := put_ex (hA 79 (by simp))
    obtain ⟨z1, hq5⟩ := put_ex (hA 12 (by simp))
    exact ⟨y1, y2, y3, y4, z1, by rw [hq1, hq2, hq3, hq4, hq5], by omega, by omega, by omega, by omega, by simp, OwnF.start M.out 1⟩
  · rintro k p a v ⟨y1, y2, y3, y4, z1, _, _, _, _, _, _, h⟩
    exact ⟨(h.own.nth 6 rfl).two, (h.own.nth 5 rfl).two, (h.own.nth 2 rfl).two⟩
  · intro p a v hJ
    refine op_step (o := _) rfl (fun K hK => ?_)
    obtain ⟨y1, y2, y3, y4, z1, rfl, gg1, h⟩ := rcondJ9_0 hJ
    have h := Lib.hid h
    clear hJ
    go_simp
    refine (d8.out _ _ ((h.out.own.nth 0 rfl))).mono ?_
    rintro rr w5 ⟨rfl, hp⟩
    try go_wp2_with fail
    refine hK.out _ _ ⟨_, y2, y3, y4, z1, ?_, fun _ => rfl, by omega, by omega, by omega, gg1, h.out.putHead hp⟩
    kernel_rfl
  · intro p a v hJ
    refine op_step (o := _) rfl (fun K hK => ?_)
    obtain ⟨y2, y3, y4, z1, rfl, gg1, h⟩ := rcondJ9_1 hJ
    have h := Lib.hid h
    clear hJ
    go_simp
    refine (d9.out _ _ ((h.out.own.nth 0 rfl))).mono ?_
    rintro rr w5 ⟨rfl, hp⟩
    try go_wp2_with fail
    refine hK.out _ _ ⟨_, _, y3, y4, z1, ?_, fun _ => rfl, fun _ => rfl, by omega, by omega, gg1, h.out.putHead hp⟩
    kernel_rfl
  · intro p a v hJ
    refine op_step (o := _) rfl (fun K hK => ?_)
    obtain ⟨y3, y4, z1, rfl, gg1, h⟩ := rcondJ9_2 hJ
    have h := Lib.hid h
    clear hJ
    go_simp
    refine (d10.out _ _ ((h.out.own.nth 0 rfl))).mono ?_
    rintro rr w5 ⟨rfl, hp⟩
    try go_wp2_with fail
    refine hK.out _ _ ⟨_, _, _, y4, z1, ?_, fun _ => rfl, fun _ => rfl, fun _ => rfl, by omega, gg1, h.out.putHead hp⟩
    kernel_rfl
  · intro p a v hJ
    refine op_step (o := _) rfl (fun K hK => ?_)
    obtain ⟨y4, z1, rfl, gg1, h⟩ := rcondJ9_3 hJ
    have h := Lib.hid h
    clear hJ
    go_simp
    refine (d11.out _ _ ((h.out.own.nth 0 rfl))).mono ?_
    rintro rr w5 ⟨rfl, hp⟩
    try go_wp2_with fail
    refine hK.out _ _ ⟨_, _, _, _, z1, ?_, fun _ => rfl, fun _ => rfl, fun _ => rfl, fun _ => rfl, gg1, h.out.putHead hp⟩
    kernel_rfl
  · intro k p a v hp hJ
    refine op_step (o := _) rfl (fun K hK => ?_)
    obtain ⟨y1, y2, y3, y4, z1, rfl, ee1, ee2, ee3, ee4, gg1, h⟩ := hJ
    have h := Lib.hid h
    go_simp
    refine hK.out _ _ ⟨v.heap.size, y1, y2, y3, y4, .pointer (some ⟨v.heap.size, 0, none⟩), ?_, ee1, ee2, ee3, ee4, fun q hq => ptr_set hq, h.out.alloc hp rfl _⟩
    kernel_rfl
  intro p4_1 a v hJ
  obtain ⟨rfl, h⟩ := rcondJ9_fin hJ
  clear hJ
  replace M := Lib.hid h.fin1
  clear h
  refine tails_one (T := []) (i := 12) (o := _) rfl (by kernel_rfl) (fun K hK => ?_)
  have kc := (M.out.nth 0 rfl).2.1
  have kf := (M.out.nth 0 rfl).2.2
  replace M := Lib.hid (M.out.setHead (.float .f64 r11l) (.float .f64 r11h))
  go_simp
  refine hK.out _ _ (Or.inr ⟨(M.out.nth 7 rfl).two, (M.out.nth 6 rfl).two, (M.out.nth 3 rfl).two⟩) (fun hHeld => ?_)
  clear hK K hHeld kc kf
  refine tails_done (by kernel_rfl) ?_ _
  refine NoPanic.normal ?_
  clear hS
  revert M
  generalize ((v.setCell ⟨p4_1, 0, none⟩ (.float .f64 r11l)).setCell ⟨p4_1, 1, none⟩ (.float .f64 r11h)) = W
  intro M
  replace M := Lib.hid M.out.front
  revert M
  generalize W = W4
  intro M
  go_upto_region 10 with fail
  replace M := Lib.hid M.out.drew
  refine wp_region_noPanic ?_
  refine tails_region (S := fun w' => (w'.cell? ⟨p4_1, 0, none⟩ = some (.float .f64 r11l) ∧ w'.cell? ⟨p4_1, 1, none⟩ = some (.float .f64 r11h)) ∧ (w'.cell? ⟨p3_1, 0, none⟩ = some (.float .f64 r7l) ∧ w'.cell? ⟨p3_1, 1, none⟩ = some (.float .f64 r7h))) [] (by kernel_rfl) ?_ (fun hS => ?_)
  · exact ⟨(M.out.nth 1 rfl).two, (M.out.nth 2 rfl).two⟩
  refine tk (x := ?_) 0 rfl (by kernel_rfl) ⟨by rfl, ?_⟩ (fun _ _ _ h => h) hS ?_
  rotate_left; focus (intro w hSw; (try dsimp only at hSw); go_simp; try with_reducible rfl)
  refine tk (x := ?_) 1 rfl (by kernel_rfl) ⟨by rfl, ?_⟩ (fun _ _ _ h => h) hS ?_
  rotate_left; focus (intro w hSw; (try dsimp only at hSw); go_simp; try with_reducible rfl)
  refine tk (x := ?_) 2 rfl (by kernel_rfl) ⟨by rfl, ?_⟩ (fun _ _ _ h => h) hS ?_
  rotate_left; focus (intro w hSw; (try dsimp only at hSw); go_simp; try with_reducible rfl)
  refine tk (x := ?_) 3 rfl (by kernel_rfl) ⟨by rfl, ?_⟩ (fun _ _ _ h => h) hS ?_
  rotate_left; focus (intro w hSw; (try dsimp only at hSw); go_simp; try with_reducible rfl)
  refine tk (x := ?_) 5 rfl (by kernel_rfl) ⟨by rfl, ?_⟩ (fun _ _ _ h => h) hS ?_
  rotate_left; focus (intro w hSw; (try dsimp only at hSw); go_simp; try with_reducible rfl)
  refine tk (x := ?_) 6 rfl (by kernel_rfl) ⟨by rfl, ?_⟩ (fun _ _ _ h => h) hS ?_
  rotate_left; focus (intro w hSw; (try dsimp only at hSw); go_simp; try with_reducible rfl)
  refine tk (x := ?_) 8 rfl (by kernel_rfl) ⟨by rfl, ?_⟩ (fun _ _ _ h => h) hS ?_
  rotate_left; focus (intro w hSw; (try dsimp only at hSw); go_simp; try with_reducible rfl)
  conv => arg 9; simp only [Act.put, go_sem]
  refine lam_5_1 M (T := []) 4 7 9 10 11 12 [84, 87, 89, 90, 91, 13] 1 (rcondJ10 w w6.heap.size r12l r12h r14l r14h r15l r15h r16l r16h) (by kernel_rfl) (by kernel_rfl) ?_ ?_ ?_ ?_ ?_ ?_ ?_ ?_ ?_
  · intro A hA
    obtain ⟨y1, hq1⟩ := put_ex (hA 84 (by simp))
    obtain ⟨y2, hq2⟩ := put_ex (hA 87 (by simp))
    obtain ⟨y3, hq3⟩ := put_ex (hA 89 (by simp))
    obtain ⟨y4, hq4⟩ := put_ex (hA 90 (by simp))
    obtain ⟨y5, hq5⟩ := put_ex (hA 91 (by simp))
    obtain ⟨z1, hq6⟩ := put_ex (hA 13 (by simp))
    exact ⟨y1, y2, y3, y4, y5, z1, by rw [hq1, hq2, hq3, hq4, hq5, hq6], by omega, by omega, by omega, by omega, by omega, by simp, OwnF.start M.out 1⟩
  · rintro k p a v ⟨y1, y2, y3, y4, y5, z1, _, _, _, _, _, _, _, h⟩
    exact ⟨(h.own.nth 1 rfl).two, (h.own.nth 2 rfl).two⟩
  · intro p a v hJ
    refine op_step (o := _) rfl (fun K hK => ?_)
    obtain ⟨y1, y2, y3, y4, y5, z1, rfl, gg1, h⟩ := rcondJ10_0 hJ
    have h := Lib.hid h
    clear hJ
    go_simp
    refine (d12.out _ _ ((h.out.own.nth 0 rfl))).mono ?_
    rintro rr w5 ⟨rfl, hp⟩
    try go_wp2_with fail
    refine hK.out _ _ ⟨_, y2, y3, y4, y5, z1, ?_, fun _ => rfl, by omega, by omega, by omega, by omega, gg1, h.out.putHead hp⟩
    kernel_rfl
  · intro p a v hJ
    refine op_step (o := _) rfl (fun K hK => ?_)
    obtain ⟨y2, y3, y4, y5, z1, rfl, gg1, h⟩ := rcondJ10_1 hJ
    have h := Lib.hid h
    clear hJ
    go_simp
    refine (d13.out _ _ ((h.out.own.nth 0 rfl))).mono ?_
    rintro rr w5 ⟨rfl, hp⟩
    try go_wp2_with fail
    refine hK.out _ _ ⟨_, _, y3, y4, y5, z1, ?_, fun _ => rfl, fun _ => rfl, by omega, by omega, by omega, gg1, h.out.putHead hp⟩
    kernel_rfl
  · intro p a v hJ
    refine op_step (o := _) rfl (fun K hK => ?_)
    obtain ⟨y3, y4, y5, z1, rfl, gg1, h⟩ := rcondJ10_2 hJ
    have h := Lib.hid h
    clear hJ
    go_simp
    refine (d14.out _ _ ((h.out.own.nth 0 rfl))).mono ?_
    rintro rr w5 ⟨rfl, hp⟩
    try go_wp2_with fail
    refine hK.out _ _ ⟨_, _, _, y4, y5, z1, ?_, fun _ => rfl, fun _ => rfl, fun _ => rfl, by omega, by omega, gg1, h.out.putHead hp⟩
    kernel_rfl
  · intro p a v hJ
    refine op_step (o := _) rfl (fun K hK => ?_)
    obtain ⟨y4, y5, z1, rfl, gg1, h⟩ := rcondJ10_3 hJ
    have h := Lib.hid h
    clear hJ
    go_simp
    refine (d15.out _ _ ((h.out.own.nth 0 rfl))).mono ?_
    rintro rr w5 ⟨rfl, hp⟩
    try go_wp2_with fail
    refine hK.out _ _ ⟨_, _, _, _, y5, z1, ?_, fun _ => rfl, fun _ => rfl, fun _ => rfl, fun _ => rfl, by omega, gg1, h.out.putHead hp⟩
    kernel_rfl
  · intro p a v hJ
    refine op_step (o := _) rfl (fun K hK => ?_)
    obtain ⟨y5, z1, rfl, gg1, h⟩ := rcondJ10_4 hJ
    have h := Lib.hid h
    clear hJ
    go_simp
    refine (d16.out _ _ ((h.out.own.nth 0 rfl))).mono ?_
    rintro rr w5 ⟨rfl, hp⟩
    try go_wp2_with fail
    refine hK.out _ _ ⟨_, _, _, _, _, z1, ?_, fun _ => rfl, fun _ => rfl, fun _ => rfl, fun _ => rfl, fun _ => rfl, gg1, h.out.putHead hp⟩
    kernel_rfl
  · intro k p a v hp hJ
    refine op_step (o := _) rfl (fun K hK => ?_)
    obtain ⟨y1, y2, y3, y4, y5, z1, rfl, ee1, ee2, ee3, ee4, ee5, gg1, h⟩ := hJ
    have h := Lib.hid h
    go_simp
    refine hK.out _ _ ⟨v.heap.size, y1, y2, y3, y4, y5, .pointer (some ⟨v.heap.size, 0, none⟩), ?_, ee1, ee2, ee3, ee4, ee5, fun q hq => ptr_set hq, h.out.alloc hp rfl _⟩
    kernel_rfl
  intro p5_1 a v hJ
  obtain ⟨rfl, h⟩ := rcondJ10_fin hJ
  clear hJ
  replace M := Lib.hid h.fin1
  clear h
  refine tails_one (T := []) (i := 13) (o := _) rfl (by kernel_rfl) (fun K hK => ?_)
  have kc := (M.out.nth 0 rfl).2.1
  have kf := (M.out.nth 0 rfl).2.2
  replace M := Lib.hid (M.out.setHead (.float .f64 r16l) (.float .f64 r16h))
  go_simp
  refine hK.out _ _ (Or.inr ⟨(M.out.nth 2 rfl).two, (M.out.nth 3 rfl).two⟩) (fun hHeld => ?_)
  clear hK K hHeld kc kf
  refine tails_done (by kernel_rfl) ?_ _
  refine NoPanic.normal ?_
  clear hS
  revert M
  generalize ((v.setCell ⟨p5_1, 0, none⟩ (.float .f64 r16l)).setCell ⟨p5_1, 1, none⟩ (.float .f64 r16h)) = W
  intro M
  replace M := Lib.hid M.out.front
  revert M
  generalize W = W5
  intro M
  go_upto_region 11 with fail
  replace M := Lib.hid M.out.drew
  refine wp_region_noPanic ?_
  refine tails_region (S := fun w' => (w'.cell? ⟨p5_1, 0, none⟩ = some (.float .f64 r16l) ∧ w'.cell? ⟨p5_1, 1, none⟩ = some (.float .f64 r16h)) ∧ (w'.cell? ⟨p4_1, 0, none⟩ = some (.float .f64 r11l) ∧ w'.cell? ⟨p4_1, 1, none⟩ = some (.float .f64 r11h))) [] (by kernel_rfl) ?_ (fun hS => ?_)
  · exact ⟨(M.out.nth 1 rfl).two, (M.out.nth 2 rfl).two⟩
  refine tk (x := ?_) 0 rfl (by kernel_rfl) ⟨by rfl, ?_⟩ (fun _ _ _ h => h) hS ?_
  rotate_left; focus (intro w hSw; (try dsimp only at hSw); go_simp; try with_reducible rfl)
  refine tk (x := ?_) 1 rfl (by kernel_rfl) ⟨by rfl, ?_⟩ (fun _ _ _ h => h) hS ?_
  rotate_left; focus (intro w hSw; (try dsimp only at hSw); go_simp; try with_reducible rfl)
  refine tk (x := ?_) 2 rfl (by kernel_rfl) ⟨by rfl, ?_⟩ (fun _ _ _ h => h) hS ?_
  rotate_left; focus (intro w hSw; (try dsimp only at hSw); go_simp; try with_reducible rfl)
  refine tk (x := ?_) 4 rfl (by kernel_rfl) ⟨by rfl, ?_⟩ (fun _ _ _ h => h) hS ?_
  rotate_left; focus (intro w hSw; (try dsimp only at hSw); go_simp; try with_reducible rfl)
  refine tk (x := ?_) 5 rfl (by kernel_rfl) ⟨by rfl, ?_⟩ (fun _ _ _ h => h) hS ?_
  rotate_left; focus (intro w hSw; (try dsimp only at hSw); go_simp; try with_reducible rfl)
  refine tk (x := ?_) 6 rfl (by kernel_rfl) ⟨by rfl, ?_⟩ (fun _ _ _ h => h) hS ?_
  rotate_left; focus (intro w hSw; (try dsimp only at hSw); go_simp; try with_reducible rfl)
  refine tk (x := ?_) 7 rfl (by kernel_rfl) ⟨by rfl, ?_⟩ (fun _ _ _ h => h) hS ?_
  rotate_left; focus (intro w hSw; (try dsimp only at hSw); go_simp; try with_reducible rfl)
  refine tk (x := ?_) 9 rfl (by kernel_rfl) ⟨by rfl, ?_⟩ (fun _ _ _ h => h) hS ?_
  rotate_left; focus (intro w hSw; (try dsimp only at hSw); go_simp; try with_reducible rfl)
  conv => arg 9; simp only [Act.put, go_sem]
  refine lam_6_1 M (T := []) 3 8 10 11 12 13 14 [95, 100, 102, 103, 104, 105, 14] 1 (rcondJ11 w w6.heap.size r18l r18h r20l r20h r21l r21h r22l r22h) (by kernel_rfl) (by kernel_rfl) ?_ ?_ ?_ ?_ ?_ ?_ ?_ ?_ ?_ ?_
  · intro A hA
    obtain ⟨y1, hq1⟩ := put_ex (hA 95 (by simp))
    obtain ⟨y2, hq2⟩ := put_ex (hA 100 (by simp))
    obtain ⟨y3, hq3⟩ := put_ex (hA 102 (by simp))
    obtain ⟨y4, hq4⟩ := put_ex (hA 103 (by simp))
    obtain ⟨y5, hq5⟩ := put_ex (hA 104 (by simp))
    obtain ⟨y6, hq6⟩ := put_ex (hA 105 (by simp))
    obtain ⟨z1, hq7⟩ := put_ex (hA 14 (by simp))
    exact ⟨y1, y2, y3, y4, y5, y6, z1, by rw [hq1, hq2, hq3, hq4, hq5, hq6, hq7], by omega, by omega, by omega, by omega, by omega, by omega, by simp, OwnF.start M.out 1⟩
  · rintro k p a v ⟨y1, y2, y3, y4, y5, y6, z1, _, _, _, _, _, _, _, _, h⟩
    exact ⟨(h.own.nth 1 rfl).two, (h.own.nth 2 rfl).two⟩
  · intro p a v hJ
    refine op_step (o := _) rfl (fun K hK => ?_)
    obtain ⟨y1, y2, y3, y4, y5, y6, z1, rfl, gg1, h⟩ := rcondJ11_0 hJ
    have h := Lib.hid h
    clear hJ
    go_simp
    refine (d17.out _ _ ((h.out.own.nth 0 rfl))).mono ?_
    rintro rr w5 ⟨rfl, hp⟩
    try go_wp2_with fail
    refine hK.out _ _ ⟨_, y2, y3, y4, y5, y6, z1, ?_, fun _ => rfl, by omega, by omega, by omega, by omega, by omega, gg1, h.out.putHead hp⟩
    kernel_rfl
  · intro p a v hJ
    refine op_step (o := _) rfl (fun K hK => ?_)
    obtain ⟨y2, y3, y4, y5, y6, z1, rfl, gg1, h⟩ := rcondJ11_1 hJ
    have h := Lib.hid h
    clear hJ
    go_simp
    refine (d18.out _ _ ((h.out.own.nth 0 rfl))).mono ?_
    rintro rr w5 ⟨rfl, hp⟩
    try go_wp2_with fail
    refine hK.out _ _ ⟨_, _, y3, y4, y5, y6, z1, ?_, fun _ => rfl, fun _ => rfl, by omega, by omega, by omega, by omega, gg1, h.out.putHead hp⟩
    kernel_rfl
  · intro p a v hJ
    refine op_step (o := _) rfl (fun K hK => ?_)
    obtain ⟨y3, y4, y5, y6, z1, rfl, gg1, h⟩ := rcondJ11_2 hJ
    have h := Lib.hid h
    clear hJ
    go_simp
    refine (d19.out _ _ ((h.out.own.nth 0 rfl))).mono ?_
    rintro rr w5 ⟨rfl, hp⟩
    try go_wp2_with fail
    refine hK.out _ _ ⟨_, _, _, y4, y5, y6, z1, ?_, fun _ => rfl, fun _ => rfl, fun _ => rfl, by omega, by omega, by omega, gg1, h.out.putHead hp⟩
    kernel_rfl
  · intro p a v hJ
    refine op_step (o := _) rfl (fun K hK => ?_)
    obtain ⟨y4, y5, y6, z1, rfl, gg1, h⟩ := rcondJ11_3 hJ
    have h := Lib.hid h
    clear hJ
    go_simp
    refine (d20.out _ _ ((h.out.own.nth 0 rfl))).mono ?_
    rintro rr w5 ⟨rfl, hp⟩
    try go_wp2_with fail
    refine hK.out _ _ ⟨_, _, _, _, y5, y6, z1, ?_, fun _ => rfl, fun _ => rfl, fun _ => rfl, fun _ => rfl, by omega, by omega, gg1, h.out.putHead hp⟩
    kernel_rfl
  · intro p a v hJ
    refine op_step (o := _) rfl (fun K hK => ?_)
    obtain ⟨y5, y6, z1, rfl, gg1, h⟩ := rcondJ11_4 hJ
    have h := Lib.hid h
    clear hJ
    go_simp
    refine (d21.out _ _ ((h.out.own.nth 0 rfl))).mono ?_
    rintro rr w5 ⟨rfl, hp⟩
    try go_wp2_with fail
    refine hK.out _ _ ⟨_, _, _, _, _, y6, z1, ?_, fun _ => rfl, fun _ => rfl, fun _ => rfl, fun _ => rfl, fun _ => rfl, by omega, gg1, h.out.putHead hp⟩
    kernel_rfl
  · intro p a v hJ
    refine op_step (o := _) rfl (fun K hK => ?_)
    obtain ⟨y6, z1, rfl, gg1, h⟩ := rcondJ11_5 hJ
    have h := Lib.hid h
    clear hJ
    go_simp
    refine (d22.out _ _ ((h.out.own.nth 0 rfl))).mono ?_
    rintro rr w5 ⟨rfl, hp⟩
    try go_wp2_with fail
    refine hK.out _ _ ⟨_, _, _, _, _, _, z1, ?_, fun _ => rfl, fun _ => rfl, fun _ => rfl, fun _ => rfl, fun _ => rfl, fun _ => rfl, gg1, h.out.putHead hp⟩
    kernel_rfl
  · intro k p a v hp hJ
    refine op_step (o := _) rfl (fun K hK => ?_)
    obtain ⟨y1, y2, y3, y4, y5, y6, z1, rfl, ee1, ee2, ee3, ee4, ee5, ee6, gg1, h⟩ := hJ
    have h := Lib.hid h
    go_simp
    refine hK.out _ _ ⟨v.heap.size, y1, y2, y3, y4, y5, y6, .pointer (some ⟨v.heap.size, 0, none⟩), ?_, ee1, ee2, ee3, ee4, ee5, ee6, fun q hq => ptr_set hq, h.out.alloc hp rfl _⟩
    kernel_rfl
  intro p6_1 a v hJ
  obtain ⟨rfl, h⟩ := rcondJ11_fin hJ
  clear hJ
  replace M := Lib.hid h.fin1
  clear h
  refine tails_one (T := []) (i := 15) (o := _) rfl (by kernel_rfl) (fun K hK => ?_)
  have kc := (M.out.nth 0 rfl).2.1
  have kf := (M.out.nth 0 rfl).2.2
  replace M := Lib.hid (M.out.setHead (.float .f64 r22l) (.float .f64 r22h))
  go_simp
  refine hK.out _ _ (Or.inr ⟨(M.out.nth 2 rfl).two, (M.out.nth 3 rfl).two⟩) (fun hHeld => ?_)
  clear hK K hHeld kc kf
  refine tails_done (by kernel_rfl) ?_ _
  refine NoPanic.normal ?_
  clear hS
  revert M
  generalize ((v.setCell ⟨p6_1, 0, none⟩ (.float .f64 r22l)).setCell ⟨p6_1, 1, none⟩ (.float .f64 r22h)) = W
  intro M
  replace M := Lib.hid M.out.front
  revert M
  generalize W = W6
  intro M
  obtain ⟨k1, k2⟩ := (M.out.nth 2 rfl).two
  obtain ⟨k3, k4⟩ := (M.out.nth 6 rfl).two
  go_wp2_with fail
  refine (d23.out _ _ ((M.out.nth 0 rfl))).mono ?_
  rintro r u7 ⟨rfl, hp⟩
  replace M := Lib.hid (M.out.putHead hp)
  clear hp
  clear k1 k2 k3 k4
  replace M := Lib.hid (M.out.made #[.float .f64 r23l, .float .f64 r23h] 24).front
  go_upto_region 13 with fail
  replace M := Lib.hid M.out.drew
  refine wp_region_noPanic ?_
  refine tails_region (S := fun w' => (w'.cell? ⟨p6_1, 0, none⟩ = some (.float .f64 r22l) ∧ w'.cell? ⟨p6_1, 1, none⟩ = some (.float .f64 r22h)) ∧ (w'.cell? ⟨w.heap.size, 0, none⟩ = some (.float .f64 a0l) ∧ w'.cell? ⟨w.heap.size, 1, none⟩ = some (.float .f64 a0h))) [] (by kernel_rfl) ?_ (fun hS => ?_)
  · exact ⟨(M.out.nth 2 rfl).two, (M.out.nth 11 rfl).two⟩
  refine tk (x := ?_) 0 rfl (by kernel_rfl) ⟨by rfl, ?_⟩ (fun _ _ _ h => h) hS ?_
  rotate_left; focus (intro w hSw; (try dsimp only at hSw); go_simp; try with_reducible rfl)
  refine tk (x := ?_) 1 rfl (by kernel_rfl) ⟨by rfl, ?_⟩ (fun _ _ _ h => h) hS ?_
  rotate_left; focus (intro w hSw; (try dsimp only at hSw); go_simp; try with_reducible rfl)
  refine tk (x := ?_) 2 rfl (by kernel_rfl) ⟨by rfl, ?_⟩ (fun _ _ _ h => h) hS ?_
  rotate_left; focus (intro w hSw; (try dsimp only at hSw); go_simp; try with_reducible rfl)
  refine tk (x := ?_) 4 rfl (by kernel_rfl) ⟨by rfl, ?_⟩ (fun _ _ _ h => h) hS ?_
  rotate_left; focus (intro w hSw; (try dsimp only at hSw); go_simp; try with_reducible rfl)
  refine tk (x := ?_) 6 rfl (by kernel_rfl) ⟨by rfl, ?_⟩ (fun _ _ _ h => h) hS ?_
  rotate_left; focus (intro w hSw; (try dsimp only at hSw); go_simp; try with_reducible rfl)
  conv => arg 9; simp only [Act.put, go_sem]
  refine lam_3_1 M (T := []) 3 5 7 8 [113, 115, 117, 16] 1 (rcondJ13 w w6.heap.size r25l r25h r26l r26h) (by kernel_rfl) (by kernel_rfl) ?_ ?_ ?_ ?_ ?_ ?_ ?_
  · intro A hA
    obtain ⟨y1, hq1⟩ := put_ex (hA 113 (by simp))
    obtain ⟨y2, hq2⟩ := put_ex (hA 115 (by simp))
    obtain ⟨y3, hq3⟩ := put_ex (hA 117 (by simp))
    obtain ⟨z1, hq4⟩ := put_ex (hA 16 (by simp))
    exact ⟨y1, y2, y3, z1, by rw [hq1, hq2, hq3, hq4], by omega, by omega, by omega, by simp, OwnF.start M.out 1⟩
  · rintro k p a v ⟨y1, y2, y3, z1, _, _, _, _, _, h⟩
    exact ⟨(h.own.nth 2 rfl).two, (h.own.nth 11 rfl).two⟩
  · intro p a v hJ
    refine op_step (o := _) rfl (fun K hK => ?_)
    obtain ⟨y1, y2, y3, z1, rfl, gg1, h⟩ := rcondJ13_0 hJ
    have h := Lib.hid h
    clear hJ
    go_simp
    refine (d24.out _ _ ((h.out.own.nth 0 rfl))).mono ?_
    rintro rr w5 ⟨rfl, hp⟩
    try go_wp2_with fail
    refine hK.out _ _ ⟨_, y2, y3, z1, ?_, fun _ => rfl, by omega, by omega, gg1, h.out.putHead hp⟩
    kernel_rfl
  · intro p a v hJ
    refine op_step (o := _) rfl (fun K hK => ?_)
    obtain ⟨y2, y3, z1, rfl, gg1, h⟩ := rcondJ13_1 hJ
    have h := Lib.hid h
    clear hJ
    go_simp
    refine (d25.out _ _ ((h.out.own.nth 0 rfl))).mono ?_
    rintro rr w5 ⟨rfl, hp⟩
    try go_wp2_with fail
    refine hK.out _ _ ⟨_, _, y3, z1, ?_, fun _ => rfl, fun _ => rfl, by omega, gg1, h.out.putHead hp⟩
    kernel_rfl
  · intro p a v hJ
    refine op_step (o := _) rfl (fun K hK => ?_)
    obtain ⟨y3, z1, rfl, gg1, h⟩ := rcondJ13_2 hJ
    have h := Lib.hid h
    clear hJ
    go_simp
    refine (d26.out _ _ ((h.out.own.nth 0 rfl))).mono ?_
    rintro rr w5 ⟨rfl, hp⟩
    try go_wp2_with fail
    refine hK.out _ _ ⟨_, _, _, z1, ?_, fun _ => rfl, fun _ => rfl, fun _ => rfl, gg1, h.out.putHead hp⟩
    kernel_rfl
  · intro k p a v hp hJ
    refine op_step (o := _) rfl (fun K hK => ?_)
    obtain ⟨y1, y2, y3, z1, rfl, ee1, ee2, ee3, gg1, h⟩ := hJ
    have h := Lib.hid h
    go_simp
    refine hK.out _ _ ⟨v.heap.size, y1, y2, y3, .pointer (some ⟨v.heap.size, 0, none⟩), ?_, ee1, ee2, ee3, fun q hq => ptr_set hq, h.out.alloc hp rfl _⟩
    kernel_rfl
  intro p8_1 a v hJ
  obtain ⟨rfl, h⟩ := rcondJ13_fin hJ
  clear hJ
  replace M := Lib.hid h.fin1
  clear h
  refine tails_one (T := []) (i := 9) (o := _) rfl (by kernel_rfl) (fun K hK => ?_)
  have kc := (M.out.nth 0 rfl).2.1
  have kf := (M.out.nth 0 rfl).2.2
  replace M := Lib.hid (M.out.setHead (.float .f64 r26l) (.float .f64 r26h))
  go_simp
  refine hK.out _ _ (Or.inr ⟨(M.out.nth 3 rfl).two, (M.out.nth 12 rfl).two⟩) (fun hHeld => ?_)
  clear hK K hHeld kc kf
  refine tails_done (by kernel_rfl) ?_ _
  refine NoPanic.normal ?_
  clear hS
  revert M
  generalize ((v.setCell ⟨p8_1, 0, none⟩ (.float .f64 r26l)).setCell ⟨p8_1, 1, none⟩ (.float .f64 r26h)) = W
  intro M
  replace M := Lib.hid M.out.front
  revert M
  generalize W = W8
  intro M
  go_upto_region 14 with fail
  replace M := Lib.hid M.out.drew
  refine wp_region_noPanic ?_
  refine tails_region (S := fun w' => (w'.cell? ⟨u7.heap.size, 0, none⟩ = some (.float .f64 r23l) ∧ w'.cell? ⟨u7.heap.size, 1, none⟩ = some (.float .f64 r23h)) ∧ (w'.cell? ⟨p8_1, 0, none⟩ = some (.float .f64 r26l) ∧ w'.cell? ⟨p8_1, 1, none⟩ = some (.float .f64 r26h))) [] (by kernel_rfl) ?_ (fun hS => ?_)
  · exact ⟨(M.out.nth 2 rfl).two, (M.out.nth 1 rfl).two⟩
  refine tk (x := ?_) 0 rfl (by kernel_rfl) ⟨by rfl, ?_⟩ (fun _ _ _ h => h) hS ?_
  rotate_left; focus (intro w hSw; (try dsimp only at hSw); go_simp; try with_reducible rfl)
  refine tk (x := ?_) 1 rfl (by kernel_rfl) ⟨by rfl, ?_⟩ (fun _ _ _ h => h) hS ?_
  rotate_left; focus (intro w hSw; (try dsimp only at hSw); go_simp; try with_reducible rfl)
  refine tk (x := ?_) 2 rfl (by kernel_rfl) ⟨by rfl, ?_⟩ (fun _ _ _ h => h) hS ?_
  rotate_left; focus (intro w hSw; (try dsimp only at hSw); go_simp; try with_reducible rfl)
  refine tk (x := ?_) 3 rfl (by kernel_rfl) ⟨by rfl, ?_⟩ (fun _ _ _ h => h) hS ?_
  rotate_left; focus (intro w hSw; (try dsimp only at hSw); go_simp; try with_reducible rfl)
  refine tk (x := ?_) 5 rfl (by kernel_rfl) ⟨by rfl, ?_⟩ (fun _ _ _ h => h) hS ?_
  rotate_left; focus (intro w hSw; (try dsimp only at hSw); go_simp; try with_reducible rfl)
  refine tk (x := ?_) 6 rfl (by kernel_rfl) ⟨by rfl, ?_⟩ (fun _ _ _ h => h) hS ?_
  rotate_left; focus (intro w hSw; (try dsimp only at hSw); go_simp; try with_reducible rfl)
  refine tk (x := ?_) 7 rfl (by kernel_rfl) ⟨by rfl, ?_⟩ (fun _ _ _ h => h) hS ?_
  rotate_left; focus (intro w hSw; (try dsimp only at hSw); go_simp; try with_reducible rfl)
  conv => arg 9; simp only [Act.put, go_sem]
  refine lam_4_1 M (T := []) 4 8 9 10 11 [122, 126, 127, 128, 17] 1 (rcondJ14 w w6.heap.size r27l r27h r28l r28h r29l r29h r30l r30h) (by kernel_rfl) (by kernel_rfl) ?_ ?_ ?_ ?_ ?_ ?_ ?_ ?_
  · intro A hA
    obtain ⟨y1, hq1⟩ := put_ex (hA 122 (by simp))
    obtain ⟨y2, hq2⟩ := put_ex (hA 126 (by simp))
    obtain ⟨y3, hq3⟩ := put_ex (hA 127 (by simp))
    obtain ⟨y4, hq4⟩ := put_ex (hA 128 (by simp))
    obtain ⟨z1, hq5⟩ := put_ex (hA 17 (by simp))
    exact ⟨y1, y2, y3, y4, z1, by rw [hq1, hq2, hq3, hq4, hq5], by omega, by omega, by omega, by omega, by simp, OwnF.start M.out 1⟩
  · rintro k p a v ⟨y1, y2, y3, y4, z1, _, _, _, _, _, _, h⟩
    exact ⟨(h.own.nth 2 rfl).two, (h.own.nth 1 rfl).two⟩
  · intro p a v hJ
    refine op_step (o := _) rfl (fun K hK => ?_)
    obtain ⟨y1, y2, y3, y4, z1, rfl, gg1, h⟩ := rcondJ14_0 hJ
    have h := Lib.hid h
    clear hJ
    go_simp
    refine (d27.out _ _ ((h.out.own.nth 0 rfl))).mono ?_
    rintro rr w5 ⟨rfl, hp⟩
    try go_wp2_with fail
    refine hK.out _ _ ⟨_, y2, y3, y4, z1, ?_, fun _ => rfl, by omega, by omega, by omega, gg1, h.out.putHead hp⟩
    kernel_rfl
  · intro p a v hJ
    refine op_step (o := _) rfl (fun K hK => ?_)
    obtain ⟨y2, y3, y4, z1, rfl, gg1, h⟩ := rcondJ14_1 hJ
    have h := Lib.hid h
    clear hJ
    go_simp
    refine (d28.out _ _ ((h.out.own.nth 0 rfl))).mono ?_
    rintro rr w5 ⟨rfl, hp⟩
    try go_wp2_with fail
    refine hK.out _ _ ⟨_, _, y3, y4, z1, ?_, fun _ => rfl, fun _ => rfl, by omega, by omega, gg1, h.out.putHead hp⟩
    kernel_rfl
  · intro p a v hJ
    refine op_step (o := _) rfl (fun K hK => ?_)
    obtain ⟨y3, y4, z1, rfl, gg1, h⟩ := rcondJ14_2 hJ
    have h := Lib.hid h
    clear hJ
    go_simp
    refine (d29.out _ _ ((h.out.own.nth 0 rfl))).mono ?_
    rintro rr w5 ⟨rfl, hp⟩
    try go_wp2_with fail
    refine hK.out _ _ ⟨_, _, _, y4, z1, ?_, fun _ => rfl, fun _ => rfl, fun _ => rfl, by omega, gg1, h.out.putHead hp⟩
    kernel_rfl
  · intro p a v hJ
    refine op_step (o := _) rfl (fun K hK => ?_)
    obtain ⟨y4, z1, rfl, gg1, h⟩ := rcondJ14_3 hJ
    have h := Lib.hid h
    clear hJ
    go_simp
    refine (d30.out _).mono ?_
    rintro rr w5 ⟨rfl, hp⟩
    try go_wp2_with fail
    refine hK.out _ _ ⟨_, _, _, _, z1, ?_, fun _ => rfl, fun _ => rfl, fun _ => rfl, fun _ => rfl, gg1, h.out.below hp⟩
    kernel_rfl
  · intro k p a v hp hJ
    refine op_step (o := _) rfl (fun K hK => ?_)
    obtain ⟨y1, y2, y3, y4, z1, rfl, ee1, ee2, ee3, ee4, gg1, h⟩ := hJ
    have h := Lib.hid h
    go_simp
    refine hK.out _ _ ⟨v.heap.size, y1, y2, y3, y4, .pointer (some ⟨v.heap.size, 0, none⟩), ?_, ee1, ee2, ee3, ee4, fun q hq => ptr_set hq, h.out.alloc hp rfl _⟩
    kernel_rfl
  intro p9_1 a v hJ
  obtain ⟨rfl, h⟩ := rcondJ14_fin hJ
  clear hJ
  replace M := Lib.hid h.fin1
  clear h
  refine tails_one (T := []) (i := 12) (o := _) rfl (by kernel_rfl) (fun K hK => ?_)
  have kc := (M.out.nth 0 rfl).2.1
  have kf := (M.out.nth 0 rfl).2.2
  replace M := Lib.hid (M.out.setHead (.float .f64 r30l) (.float .f64 r30h))
  go_simp
  refine hK.out _ _ (Or.inr ⟨(M.out.nth 3 rfl).two, (M.out.nth 2 rfl).two⟩) (fun hHeld => ?_)
  clear hK K hHeld kc kf
  refine tails_done (by kernel_rfl) ?_ _
  refine NoPanic.normal ?_
  clear hS
  revert M
  generalize ((v.setCell ⟨p9_1, 0, none⟩ (.float .f64 r30l)).setCell ⟨p9_1, 1, none⟩ (.float .f64 r30h)) = W
  intro M
  replace M := Lib.hid M.out.front
  revert M
  generalize W = W9
  intro M
  go_upto_region 15 with fail
  replace M := Lib.hid M.out.drew
  refine wp_region_noPanic ?_
  refine tails_region (S := fun w' => (w'.cell? ⟨u1.heap.size, 0, none⟩ = some (.float .f64 r1l) ∧ w'.cell? ⟨u1.heap.size, 1, none⟩ = some (.float .f64 r1h)) ∧ (w'.cell? ⟨p5_1, 0, none⟩ = some (.float .f64 r16l) ∧ w'.cell? ⟨p5_1, 1, none⟩ = some (.float .f64 r16h)) ∧ (w'.cell? ⟨p2_1, 0, none⟩ = some (.float .f64 r4l) ∧ w'.cell? ⟨p2_1, 1, none⟩ = some (.float .f64 r4h))) [] (by kernel_rfl) ?_ (fun hS => ?_)
  · exact ⟨(M.out.nth 9 rfl).two, (M.out.nth 5 rfl).two, (M.out.nth 8 rfl).two⟩
  refine tk (x := ?_) 0 rfl (by kernel_rfl) ⟨by rfl, ?_⟩ (fun _ _ _ h => h) hS ?_
  rotate_left; focus (intro w hSw; (try dsimp only at hSw); go_simp; try with_reducible rfl)
  refine tk (x := ?_) 1 rfl (by kernel_rfl) ⟨by rfl, ?_⟩ (fun _ _ _ h => h) hS ?_
  rotate_left; focus (intro w hSw; (try dsimp only at hSw); go_simp; try with_reducible rfl)
  refine tk (x := ?_) 2 rfl (by kernel_rfl) ⟨by rfl, ?_⟩ (fun _ _ _ h => h) hS ?_
  rotate_left; focus (intro w hSw; (try dsimp only at hSw); go_simp; try with_reducible rfl)
  refine tk (x := ?_) 3 rfl (by kernel_rfl) ⟨by rfl, ?_⟩ (fun _ _ _ h => h) hS ?_
  rotate_left; focus (intro w hSw; (try dsimp only at hSw); go_simp; try with_reducible rfl)
  refine tk (x := ?_) 5 rfl (by kernel_rfl) ⟨by rfl, ?_⟩ (fun _ _ _ h => h) hS ?_
  rotate_left; focus (intro w hSw; (try dsimp only at hSw); go_simp; try with_reducible rfl)
  refine tk (x := ?_) 6 rfl (by kernel_rfl) ⟨by rfl, ?_⟩ (fun _ _ _ h => h) hS ?_
  rotate_left; focus (intro w hSw; (try dsimp only at hSw); go_simp; try with_reducible rfl)
  conv => arg 9; simp only [Act.put, go_sem]
  refine lam_3_1 M (T := []) 4 7 8 9 [133, 136, 137, 18] 1 (rcondJ15 w w6.heap.size r31l r31h r32l r32h r33l r33h) (by kernel_rfl) (by kernel_rfl) ?_ ?_ ?_ ?_ ?_ ?_ ?_
  · intro A hA
    obtain ⟨y1, hq1⟩ := put_ex (hA 133 (by simp))
    obtain ⟨y2, hq2⟩ := put_ex (hA 136 (by simp))
    obtain ⟨y3, hq3⟩ := put_ex (hA 137 (by simp))
    obtain ⟨z1, hq4⟩ := put_ex (hA 18 (by simp))
    exact ⟨y1, y2, y3, z1, by rw [hq1, hq2, hq3, hq4], by omega, by omega, by omega, by simp, OwnF.start M.out 1⟩
  · rintro k p a v ⟨y1, y2, y3, z1, _, _, _, _, _, h⟩
    exact ⟨(h.own.nth 9 rfl).two, (h.own.nth 5 rfl).two, (h.own.nth 8 rfl).two⟩
  · intro p a v hJ
    refine op_step (o := _) rfl (fun K hK => ?_)
    obtain ⟨y1, y2, y3, z1, rfl, gg1, h⟩ := rcondJ15_0 hJ
    have h := Lib.hid h
    clear hJ
    go_simp
    refine (d31.out _ _ ((h.out.own.nth 0 rfl))).mono ?_
    rintro rr w5 ⟨rfl, hp⟩
    try go_wp2_with fail
    refine hK.out _ _ ⟨_, y2, y3, z1, ?_, fun _ => rfl, by omega, by omega, gg1, h.out.putHead hp⟩
    kernel_rfl
  · intro p a v hJ
    refine op_step (o := _) rfl (fun K hK => ?_)
    obtain ⟨y2, y3, z1, rfl, gg1, h⟩ := rcondJ15_1 hJ
    have h := Lib.hid h
    clear hJ
    go_simp
    refine (d32.out _ _ ((h.out.own.nth 0 rfl))).mono ?_
    rintro rr w5 ⟨rfl, hp⟩
    try go_wp2_with fail
    refine hK.out _ _ ⟨_, _, y3, z1, ?_, fun _ => rfl, fun _ => rfl, by omega, gg1, h.out.putHead hp⟩
    kernel_rfl
  · intro p a v hJ
    refine op_step (o := _) rfl (fun K hK => ?_)
    obtain ⟨y3, z1, rfl, gg1, h⟩ := rcondJ15_2 hJ
    have h := Lib.hid h
    clear hJ
    go_simp
    refine (d33.out _ _ ((h.out.own.nth 0 rfl))).mono ?_
    rintro rr w5 ⟨rfl, hp⟩
    try go_wp2_with fail
    refine hK.out _ _ ⟨_, _, _, z1, ?_, fun _ => rfl, fun _ => rfl, fun _ => rfl, gg1, h.out.putHead hp⟩
    kernel_rfl
  · intro k p a v hp hJ
    refine op_step (o := _) rfl (fun K hK => ?_)
    obtain ⟨y1, y2, y3, z1, rfl, ee1, ee2, ee3, gg1, h⟩ := hJ
    have h := Lib.hid h
    go_simp
    refine hK.out _ _ ⟨v.heap.size, y1, y2, y3, .pointer (some ⟨v.heap.size, 0, none⟩), ?_, ee1, ee2, ee3, fun q hq => ptr_set hq, h.out.alloc hp rfl _⟩
    kernel_rfl
  intro p10_1 a v hJ
  obtain ⟨rfl, h⟩ := rcondJ15_fin hJ
  clear hJ
  replace M := Lib.hid h.fin1
  clear h
  refine tails_one (T := []) (i := 10) (o := _) rfl (by kernel_rfl) (fun K hK => ?_)
  have kc := (M.out.nth 0 rfl).2.1
  have kf := (M.out.nth 0 rfl).2.2
  replace M := Lib.hid (M.out.setHead (.float .f64 r33l) (.float .f64 r33h))
  go_simp
  refine hK.out _ _ (Or.inr ⟨(M.out.nth 10 rfl).two, (M.out.nth 6 rfl).two, (M.out.nth 9 rfl).two⟩) (fun hHeld => ?_)
  clear hK K hHeld kc kf
  refine tails_done (by kernel_rfl) ?_ _
  refine NoPanic.normal ?_
  clear hS
  revert M
  generalize ((v.setCell ⟨p10_1, 0, none⟩ (.float .f64 r33l)).setCell ⟨p10_1, 1, none⟩ (.float .f64 r33h)) = W
  intro M
  replace M := Lib.hid M.out.front
  revert M
  generalize W = W10
  intro M
  obtain ⟨k1, k2⟩ := (M.out.nth 3 rfl).two
  obtain ⟨k3, k4⟩ := (M.out.nth 9 rfl).two
  go_wp2_with fail
  refine (d34.out _ _ ((M.out.nth 0 rfl))).mono ?_
  rintro r u11 ⟨rfl, hp⟩
  replace M := Lib.hid (M.out.putHead hp)
  clear hp
  clear k1 k2 k3 k4
  replace M := Lib.hid (M.out.made #[.float .f64 r34l, .float .f64 r34h] 24).front
  go_upto_region 17 with fail
  replace M := Lib.hid M.out.drew
  refine wp_region_noPanic ?_
  refine tails_region (S := fun w' => (w'.cell? ⟨p9_1, 0, none⟩ = some (.float .f64 r30l) ∧ w'.cell? ⟨p9_1, 1, none⟩ = some (.float .f64 r30h)) ∧ (w'.cell? ⟨p10_1, 0, none⟩ = some (.float .f64 r33l) ∧ w'.cell? ⟨p10_1, 1, none⟩ = some (.float .f64 r33h)) ∧ (w'.cell? ⟨u11.heap.size, 0, none⟩ = some (.float .f64 r34l) ∧ w'.cell? ⟨u11.heap.size, 1, none⟩ = some (.float .f64 r34h))) [] (by kernel_rfl) ?_ (fun hS => ?_)
  · exact ⟨(M.out.nth 3 rfl).two, (M.out.nth 2 rfl).two, (M.out.nth 1 rfl).two⟩
  refine tk (x := ?_) 0 rfl (by kernel_rfl) ⟨by rfl, ?_⟩ (fun _ _ _ h => h) hS ?_
  rotate_left; focus (intro w hSw; (try dsimp only at hSw); go_simp; try with_reducible rfl)
  refine tk (x := ?_) 1 rfl (by kernel_rfl) ⟨by rfl, ?_⟩ (fun _ _ _ h => h) hS ?_
  rotate_left; focus (intro w hSw; (try dsimp only at hSw); go_simp; try with_reducible rfl)
  refine tk (x := ?_) 2 rfl (by kernel_rfl) ⟨by rfl, ?_⟩ (fun _ _ _ h => h) hS ?_
  rotate_left; focus (intro w hSw; (try dsimp only at hSw); go_simp; try with_reducible rfl)
  refine tk (x := ?_) 3 rfl (by kernel_rfl) ⟨by rfl, ?_⟩ (fun _ _ _ h => h) hS ?_
  rotate_left; focus (intro w hSw; (try dsimp only at hSw); go_simp; try with_reducible rfl)
  refine tk (x := ?_) 4 rfl (by kernel_rfl) ⟨by rfl, ?_⟩ (fun _ _ _ h => h) hS ?_
  rotate_left; focus (intro w hSw; (try dsimp only at hSw); go_simp; try with_reducible rfl)
  refine tk (x := ?_) 5 rfl (by kernel_rfl) ⟨by rfl, ?_⟩ (fun _ _ _ h => h) hS ?_
  rotate_left; focus (intro w hSw; (try dsimp only at hSw); go_simp; try with_reducible rfl)
  refine tk (x := ?_) 7 rfl (by kernel_rfl) ⟨by rfl, ?_⟩ (fun _ _ _ h => h) hS ?_
  rotate_left; focus (intro w hSw; (try dsimp only at hSw); go_simp; try with_reducible rfl)
  refine tk (x := ?_) 8 rfl (by kernel_rfl) ⟨by rfl, ?_⟩ (fun _ _ _ h => h) hS ?_
  rotate_left; focus (intro w hSw; (try dsimp only at hSw); go_simp; try with_reducible rfl)
  refine tk (x := ?_) 9 rfl (by kernel_rfl) ⟨by rfl, ?_⟩ (fun _ _ _ h => h) hS ?_
  rotate_left; focus (intro w hSw; (try dsimp only at hSw); go_simp; try with_reducible rfl)
  conv => arg 9; simp only [Act.put, go_sem]
  refine lam_5_1 M (T := []) 6 10 11 12 13 14 [148, 152, 153, 154, 155, 20] 1 (rcondJ17 w w6.heap.size r35l r35h r36l r36h r37l r37h r38l r38h r39l r39h (fun k => [0, 0, 0, e, e, e].getD k 0)) (by kernel_rfl) (by kernel_rfl) ?_ ?_ ?_ ?_ ?_ ?_ ?_ ?_ ?_
  · intro A hA
    obtain ⟨y1, hq1⟩ := put_ex (hA 148 (by simp))
    obtain ⟨y2, hq2⟩ := put_ex (hA 152 (by simp))
    obtain ⟨y3, hq3⟩ := put_ex (hA 153 (by simp))
    obtain ⟨y4, hq4⟩ := put_ex (hA 154 (by simp))
    obtain ⟨y5, hq5⟩ := put_ex (hA 155 (by simp))
    obtain ⟨z1, hq6⟩ := put_ex (hA 20 (by simp))
    exact ⟨y1, y2, y3, y4, y5, z1, by rw [hq1, hq2, hq3, hq4, hq5, hq6], by omega, by omega, by omega, by omega, by omega, by simp, OwnF.start M.out 1⟩
  · rintro k p a v ⟨y1, y2, y3, y4, y5, z1, _, _, _, _, _, _, _, h⟩
    exact ⟨(h.own.nth 3 rfl).two, (h.own.nth 2 rfl).two, (h.own.nth 1 rfl).two⟩
  · intro p a v hJ
    refine op_step (o := _) rfl (fun K hK => ?_)
    obtain ⟨y1, y2, y3, y4, y5, z1, rfl, gg1, h⟩ := rcondJ17_0 hJ
    have h := Lib.hid h
    clear hJ
    go_simp
    refine (d35.out _ _ ((h.out.own.nth 0 rfl))).mono ?_
    rintro rr w5 ⟨rfl, hp⟩
    try go_wp2_with fail
    refine hK.out _ _ ⟨_, y2, y3, y4, y5, z1, ?_, fun _ => rfl, by omega, by omega, by omega, by omega, gg1, h.out.putHead hp⟩
    kernel_rfl
  · intro p a v hJ
    refine op_step (o := _) rfl (fun K hK => ?_)
    obtain ⟨y2, y3, y4, y5, z1, rfl, gg1, h⟩ := rcondJ17_1 hJ
    have h := Lib.hid h
    clear hJ
    go_simp
    refine (d36.out _ _ ((h.out.own.nth 0 rfl))).mono ?_
    rintro rr w5 ⟨rfl, hp⟩
    try go_wp2_with fail
    refine hK.out _ _ ⟨_, _, y3, y4, y5, z1, ?_, fun _ => rfl, fun _ => rfl, by omega, by omega, by omega, gg1, h.out.putHead hp⟩
    kernel_rfl
  · intro p a v hJ
    refine op_step (o := _) rfl (fun K hK => ?_)
    obtain ⟨y3, y4, y5, z1, rfl, gg1, h⟩ := rcondJ17_2 hJ
    have h := Lib.hid h
    clear hJ
    go_simp
    refine (d37.out _ _ ((h.out.own.nth 0 rfl))).mono ?_
    rintro rr w5 ⟨rfl, hp⟩
    try go_wp2_with fail
    refine hK.out _ _ ⟨_, _, _, y4, y5, z1, ?_, fun _ => rfl, fun _ => rfl, fun _ => rfl, by omega, by omega, gg1, h.out.putHead hp⟩
    kernel_rfl
  · intro p a v hJ
    refine op_step (o := _) rfl (fun K hK => ?_)
    obtain ⟨y4, y5, z1, rfl, gg1, h⟩ := rcondJ17_3 hJ
    have h := Lib.hid h
    clear hJ
    go_simp
    refine (d38.out _ _ ((h.out.own.nth 0 rfl))).mono ?_
    rintro rr w5 ⟨rfl, hp⟩
    try go_wp2_with fail
    refine hK.out _ _ ⟨_, _, _, _, y5, z1, ?_, fun _ => rfl, fun _ => rfl, fun _ => rfl, fun _ => rfl, by omega, gg1, h.out.putHead hp⟩
    kernel_rfl
  · intro p a v hJ
    refine op_step (o := _) rfl (fun K hK => ?_)
    obtain ⟨y5, z1, rfl, gg1, h⟩ := rcondJ17_4 hJ
    have h := Lib.hid h
    clear hJ
    go_simp
    refine (d39.out _).mono ?_
    rintro rr w5 ⟨rfl, hp⟩
    try go_wp2_with fail
    refine hK.out _ _ ⟨_, _, _, _, _, z1, ?_, fun _ => rfl, fun _ => rfl, fun _ => rfl, fun _ => rfl, fun _ => rfl, gg1, h.out.below hp⟩
    kernel_rfl
  · intro k p a v hp hJ
    refine op_step (o := _) rfl (fun K hK => ?_)
    obtain ⟨y1, y2, y3, y4, y5, z1, rfl, ee1, ee2, ee3, ee4, ee5, gg1, h⟩ := hJ
    have h := Lib.hid h
    go_simp
    refine hK.out _ _ ⟨v.heap.size, y1, y2, y3, y4, y5, .pointer (some ⟨v.heap.size, 0, none⟩), ?_, ee1, ee2, ee3, ee4, ee5, fun q hq => ptr_set hq, h.out.alloc hp rfl _⟩
    kernel_rfl
  intro p12_1 a v hJ
  obtain ⟨rfl, h⟩ := rcondJ17_fin hJ
  clear hJ
  replace M := Lib.hid h.fin1
  clear h
  refine tails_one (T := []) (i := 15) (o := _) rfl (by kernel_rfl) (fun K hK => ?_)
  have kc := (M.out.nth 0 rfl).2.1
  have kf := (M.out.nth 0 rfl).2.2
  replace M := Lib.hid (M.out.setHead (.float .f64 r39l) (.float .f64 r39h))
  go_simp
  refine hK.out _ _ (Or.inr ⟨(M.out.nth 4 rfl).two, (M.out.nth 3 rfl).two, (M.out.nth 2 rfl).two⟩) (fun hHeld => ?_)
  clear hK K hHeld kc kf
  refine tails_done (by kernel_rfl) ?_ _
  refine NoPanic.normal ?_
  clear hS
  revert M
  generalize ((v.setCell ⟨p12_1, 0, none⟩ (.float .f64 r39l)).setCell ⟨p12_1, 1, none⟩ (.float .f64 r39h)) = W
  intro M
  replace M : Hid (Own w [(w6.heap.size, #[.int .i64 e]), (p12_1, #[.float .f64 r39l, .float .f64 r39h]), (u11.heap.size, #[.float .f64 r34l, .float .f64 r34h]), (p10_1, #[.float .f64 r33l, .float .f64 r33h]), (p9_1, #[.float .f64 r30l, .float .f64 r30h]), (p8_1, #[.float .f64 r26l, .float .f64 r26h]), (u7.heap.size, #[.float .f64 r23l, .float .f64 r23h]), (p6_1, #[.float .f64 r22l, .float .f64 r22h]), (p5_1, #[.float .f64 r16l, .float .f64 r16h]), (p4_1, #[.float .f64 r11l, .float .f64 r11h]), (p3_1, #[.float .f64 r7l, .float .f64 r7h]), (p2_1, #[.float .f64 r4l, .float .f64 r4h]), (u1.heap.size, #[.float .f64 r1l, .float .f64 r1h]), ((w.heap.size + 1 + 1 + 1), #[.float .f64 0, .float .f64 0]), ((w.heap.size + 1 + 1), #[.float .f64 a2l, .float .f64 a2h]), ((w.heap.size + 1), #[.float .f64 a1l, .float .f64 a1h]), (w.heap.size, #[.float .f64 a0l, .float .f64 a0h])] W) := Lib.hid M.out.front
  revert M
  generalize W = W12
  intro M
  go_upto_region 18 with fail
  replace M := Lib.hid M.out.drew
  refine wp_region_noPanic ?_
  refine tails_region (S := fun w' => (w'.cell? ⟨p9_1, 0, none⟩ = some (.float .f64 r30l) ∧ w'.cell? ⟨p9_1, 1, none⟩ = some (.float .f64 r30h)) ∧ (w'.cell? ⟨p12_1, 0, none⟩ = some (.float .f64 r39l) ∧ w'.cell? ⟨p12_1, 1, none⟩ = some (.float .f64 r39h))) [] (by kernel_rfl) ?_ (fun hS => ?_)
  · exact ⟨(M.out.nth 4 rfl).two, (M.out.nth 1 rfl).two⟩
  refine tk (x := ?_) 0 rfl (by kernel_rfl) ⟨by rfl, ?_⟩ (fun _ _ _ h => h) hS ?_
  rotate_left; focus (intro w hSw; (try dsimp only at hSw); go_simp; try with_reducible rfl)
  refine tk (x := ?_) 1 rfl (by kernel_rfl) ⟨by rfl, ?_⟩ (fun _ _ _ h => h) hS ?_
  rotate_left; focus (intro w hSw; (try dsimp only at hSw); go_simp; try with_reducible rfl)
  refine tk (x := ?_) 3 rfl (by kernel_rfl) ⟨by rfl, ?_⟩ (fun _ _ _ h => h) hS ?_
  rotate_left; focus (intro w hSw; (try dsimp only at hSw); go_simp; try with_reducible rfl)
  refine tk (x := ?_) 4 rfl (by kernel_rfl) ⟨by rfl, ?_⟩ (fun _ _ _ h => h) hS ?_
  rotate_left; focus (intro w hSw; (try dsimp only at hSw); go_simp; try with_reducible rfl)
  refine tk (x := ?_) 5 rfl (by kernel_rfl) ⟨by rfl, ?_⟩ (fun _ _ _ h => h) hS ?_
  rotate_left; focus (intro w hSw; (try dsimp only at hSw); go_simp; try with_reducible rfl)
  conv => arg 9; simp only [Act.put, go_sem]
  refine lam_3_1 M (T := []) 2 6 7 8 [158, 162, 163, 21] 1 (rcondJ18 w w6.heap.size r40l r40h r41l r41h r42l r42h e) (by kernel_rfl) (by kernel_rfl) ?_ ?_ ?_ ?_ ?_ ?_ ?_
  · intro A hA
    obtain ⟨y1, hq1⟩ := put_ex (hA 158 (by simp))
    obtain ⟨y2, hq2⟩ := put_ex (hA 162 (by simp))
    obtain ⟨y3, hq3⟩ := put_ex (hA 163 (by simp))
    obtain ⟨z1, hq4⟩ := put_ex (hA 21 (by simp))
    exact ⟨y1, y2, y3, z1, by rw [hq1, hq2, hq3, hq4], by omega, by omega, by omega, by simp, OwnF.start M.out 1⟩
  · rintro k p a v ⟨y1, y2, y3, z1, _, _, _, _, _, h⟩
    exact ⟨(h.own.nth 4 rfl).two, (h.own.nth 1 rfl).two⟩
  · intro p a v hJ
    refine op_step (o := _) rfl (fun K hK => ?_)
    obtain ⟨y1, y2, y3, z1, rfl, gg1, h⟩ := rcondJ18_0 hJ
    have h := Lib.hid h
    clear hJ
    go_simp
    refine (d40.out _ _ ((h.out.own.nth 0 rfl))).mono ?_
    rintro rr w5 ⟨rfl, hp⟩
    try go_wp2_with fail
    refine hK.out _ _ ⟨_, y2, y3, z1, ?_, fun _ => rfl, by omega, by omega, gg1, h.out.putHead hp⟩
    kernel_rfl
  · intro p a v hJ
    refine op_step (o := _) rfl (fun K hK => ?_)
    obtain ⟨y2, y3, z1, rfl, gg1, h⟩ := rcondJ18_1 hJ
    have h := Lib.hid h
    clear hJ
    go_simp
    refine (d41.out _ _ ((h.out.own.nth 0 rfl))).mono ?_
    rintro rr w5 ⟨rfl, hp⟩
    try go_wp2_with fail
    refine hK.out _ _ ⟨_, _, y3, z1, ?_, fun _ => rfl, fun _ => rfl, by omega, gg1, h.out.putHead hp⟩
    kernel_rfl
  · intro p a v hJ
    refine op_step (o := _) rfl (fun K hK => ?_)
    obtain ⟨y3, z1, rfl, gg1, h⟩ := rcondJ18_2 hJ
    have h := Lib.hid h
    clear hJ
    go_simp
    refine (d42.out _ _ ((h.out.own.nth 0 rfl))).mono ?_
    rintro rr w5 ⟨rfl, hp⟩
    try go_wp2_with fail
    refine hK.out _ _ ⟨_, _, _, z1, ?_, fun _ => rfl, fun _ => rfl, fun _ => rfl, gg1, h.out.putHead hp⟩
    kernel_rfl
  · intro k p a v hp hJ
    refine op_step (o := _) rfl (fun K hK => ?_)
    obtain ⟨y1, y2, y3, z1, rfl, ee1, ee2, ee3, gg1, h⟩ := hJ
    have h := Lib.hid h
    go_simp
    refine hK.out _ _ ⟨v.heap.size, y1, y2, y3, .pointer (some ⟨v.heap.size, 0, none⟩), ?_, ee1, ee2, ee3, fun q hq => ptr_set hq, h.out.alloc hp rfl _⟩
    kernel_rfl
  intro p13_1 a v hJ
  obtain ⟨rfl, h⟩ := rcondJ18_fin hJ
  clear hJ
  replace M := Lib.hid h.fin1
  clear h
  refine tails_one (T := []) (i := 9) (o := _) rfl (by kernel_rfl) (fun K hK => ?_)
  have kc := (M.out.nth 0 rfl).2.1
  have kf := (M.out.nth 0 rfl).2.2
  replace M := Lib.hid (M.out.setHead (.float .f64 r42l) (.float .f64 r42h))
  go_simp
  refine hK.out _ _ (Or.inr ⟨(M.out.nth 5 rfl).two, (M.out.nth 2 rfl).two⟩) (fun hHeld => ?_)
  clear hK K hHeld kc kf
  refine tails_done (by kernel_rfl) ?_ _
  refine NoPanic.normal ?_
  clear hS
  revert M
  generalize ((v.setCell ⟨p13_1, 0, none⟩ (.float .f64 r42l)).setCell ⟨p13_1, 1, none⟩ (.float .f64 r42h)) = W
  intro M
  replace M := Lib.hid M.out.front
  revert M
  generalize W = W13
  intro M
  by_cases he : e = 0
  · subst he
    have kE := (M.out.nth 0 rfl).pc
    obtain ⟨k1, k2⟩ := (M.out.nth 1 rfl).two
    have kc := (M.out.nth 14 rfl).2.1
    have kf := (M.out.nth 14 rfl).2.2
    replace M := Lib.hid (M.out.set2 14 rfl (.float .f64 r42l) (.float .f64 r42h))
    obtain ⟨f1, f2⟩ := (M.out.nth 14 rfl).two
    go_wp2
    exact bodyPost_ret (v := .tuple #[.agg #[.float .f64 r42l, .float .f64 r42h], .int .i64 0]) (by simp [results, Tryz.results21, go_sem, f1, f2]) rfl ⟨rfl, M.out.base⟩
  · obtain ⟨z1, z2⟩ := hz he
    subst z1 z2
    have kE := (M.out.nth 0 rfl).pc
    have hne : (e != 0) = true := by simpa using he
    clear hz he
    go_upto_region 20 with fail
    clear kE hne
    have kd := (M.out.nth 14 rfl).2.1
    have ke := (M.out.nth 14 rfl).2.2
    replace M := Lib.hid M.out.drew
    refine wp_region_noPanic ?_
    refine tails_region (S := fun w' => w'.cell? ⟨w6.heap.size, 0, none⟩ = some (.int .i64 e)) [] (by kernel_rfl) ?_ (fun hS => ?_)
    · exact (M.out.nth 0 rfl).pc
    refine tails_take (T := []) (i := 0) (o := _) (x := ?_) rfl (by kernel_rfl) (by kernel_rfl) (by kernel_rfl) (by kernel_rfl) (fun _ _ _ h => h) (Or.inl ⟨by rfl, ?_⟩) (by assumption) ?_
    rotate_left; focus (intro w hSw; (try dsimp only at hSw); go_simp; first | done | with_reducible rfl)
    refine tails_take (T := []) (i := 1) (o := _) (x := ?_) rfl (by kernel_rfl) (by kernel_rfl) (by kernel_rfl) (by kernel_rfl) (fun _ _ _ h => h) (Or.inl ⟨by rfl, ?_⟩) (by assumption) ?_
    rotate_left; focus (intro w hSw; (try dsimp only at hSw); go_simp; first | done | with_reducible rfl)
    refine tails_take (T := []) (i := 2) (o := _) (x := ?_) rfl (by kernel_rfl) (by kernel_rfl) (by kernel_rfl) (by kernel_rfl) (fun _ _ _ h => h) (Or.inl ⟨by rfl, ?_⟩) (by assumption) ?_
    rotate_left; focus (intro w hSw; (try dsimp only at hSw); go_simp; first | done | with_reducible rfl)
    refine tails_take (T := []) (i := 3) (o := _) (x := ?_) rfl (by kernel_rfl) (by kernel_rfl) (by kernel_rfl) (by kernel_rfl) (fun _ _ _ h => h) (Or.inl ⟨by rfl, ?_⟩) (by assumption) ?_
    rotate_left; focus (intro w hSw; (try dsimp only at hSw); go_simp; first | done | with_reducible rfl)
    refine tails_take (T := []) (i := 4) (o := _) (x := ?_) rfl (by kernel_rfl) (by kernel_rfl) (by kernel_rfl) (by kernel_rfl) (fun _ _ _ h => h) (Or.inl ⟨by rfl, ?_⟩) (by assumption) ?_
    rotate_left; focus (intro w hSw; (try dsimp only at hSw); go_simp; first | done | with_reducible rfl)
    conv => arg 9; simp only [Act.put, go_sem]
    refine tails_one (T := []) (i := 5) (o := _) rfl (by kernel_rfl) (fun K hK => ?_)
    have kc := (M.out.nth 14 rfl).2.1
    have kf := (M.out.nth 14 rfl).2.2
    replace M := Lib.hid (M.out.set2 14 rfl (.float .f64 0) (.float .f64 0))
    go_simp
    refine hK.out _ _ (Or.inr (M.out.nth 0 rfl).pc) (fun hHeld => ?_)
    clear hK K hHeld kc kf kd ke
    refine tails_one (T := []) (i := 6) (o := _) rfl (by kernel_rfl) (fun K hK => ?_)
    go_simp
    refine hK.out _ _ (Or.inr (M.out.nth 0 rfl).pc) (fun hHeld => ?_)
    clear hK K hHeld
    refine tails_done (by kernel_rfl) ?_ _
    refine NoPanic.normal ?_
    clear hS
    replace M : Hid (Own w _ ((W13.setCell ⟨w.heap.size + 1 + 1 + 1, 0, none⟩ (.float .f64 0)).setCell ⟨w.heap.size + 1 + 1 + 1, 1, none⟩ (.float .f64 0)).drew) := M
    revert M
    generalize ((W13.setCell ⟨w.heap.size + 1 + 1 + 1, 0, none⟩ (.float .f64 0)).setCell ⟨w.heap.size + 1 + 1 + 1, 1, none⟩ (.float .f64 0)).drew = V
    intro M
    obtain ⟨f1, f2⟩ := (M.out.nth 14 rfl).two
    go_wp2
    exact bodyPost_ret (v := .tuple #[.agg #[.float .f64 0, .float .f64 0], .int .i64 e]) (by simp [results, Tryz.results21, go_sem, f1, f2]) rfl ⟨rfl, M.out.base⟩

end Go.Proofs.YtcfgahlaiiibiaaGreat
