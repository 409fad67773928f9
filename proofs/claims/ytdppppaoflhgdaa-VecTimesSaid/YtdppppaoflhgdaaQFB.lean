
/- Package fresnel: Conductor, by letters. -/
import Derived.Test.YtdppppaoflhgdaaQFA
namespace Go.Proofs.Ytdppppaoflhgdaa
open Go.RowKit
attribute [local go_sem] run_store_float

/-- Region 6: the calls done so far, and the blocks made so far. -/
def dielJ6 (w : World) (pb : Nat) (r2l r2h r3l r3h r4l r4h r5l r5h r6l r6h : Nat) (l : RowL) (a0 : Act) (k : Nat) (p : List (Option Nat)) (a : Act) (v : World) : Prop :=
  ∃ y1 y2 y3 y4 y5 z1 : Value, a = ((((((a0.put (some 26) y1).put (some 28) y2).put (some 30) y3).put (some 31) y4).put (some 32) y5).put (some 9) z1) ∧ (0 < k → y1 = .agg #[.float .f64 r2l, .float .f64 r2h]) ∧ (1 < k → y2 = .agg #[.float .f64 r3l, .float .f64 r3h]) ∧ (2 < k → y3 = .agg #[.float .f64 r4l, .float .f64 r4h]) ∧ (3 < k → y4 = .agg #[.float .f64 r5l, .float .f64 r5h]) ∧ (4 < k → y5 = .agg #[.float .f64 r6l, .float .f64 r6h]) ∧ (∀ q, p[0]? = some (some q) → z1 = .pointer (some ⟨q, 0, none⟩)) ∧ OwnF w ((pb, #[.int .i64 0]) :: l) [#[.float .f64 0, .float .f64 0]] p v
section
variable {w v : World} {pb : Nat} {r2l r2h r3l r3h r4l r4h r5l r5h r6l r6h : Nat} {l : RowL} {a0 a : Act} {p : List (Option Nat)}
theorem dielJ6_0 (h : dielJ6 w pb r2l r2h r3l r3h r4l r4h r5l r5h r6l r6h l a0 0 p a v) : ∃ y1 y2 y3 y4 y5 z1 : Value, a = ((((((a0.put (some 26) y1).put (some 28) y2).put (some 30) y3).put (some 31) y4).put (some 32) y5).put (some 9) z1) ∧ (∀ q, p[0]? = some (some q) → z1 = .pointer (some ⟨q, 0, none⟩)) ∧ OwnF w ((pb, #[.int .i64 0]) :: l) [#[.float .f64 0, .float .f64 0]] p v := by
  obtain ⟨y1, y2, y3, y4, y5, z1, ha, E1, E2, E3, E4, E5, G1, h⟩ := h
  exact ⟨y1, y2, y3, y4, y5, z1, ha, G1, h⟩
theorem dielJ6_1 (h : dielJ6 w pb r2l r2h r3l r3h r4l r4h r5l r5h r6l r6h l a0 1 p a v) : ∃ y2 y3 y4 y5 z1 : Value, a = ((((((a0.put (some 26) (.agg #[.float .f64 r2l, .float .f64 r2h])).put (some 28) y2).put (some 30) y3).put (some 31) y4).put (some 32) y5).put (some 9) z1) ∧ (∀ q, p[0]? = some (some q) → z1 = .pointer (some ⟨q, 0, none⟩)) ∧ OwnF w ((pb, #[.int .i64 0]) :: l) [#[.float .f64 0, .float .f64 0]] p v := by
  obtain ⟨y1, y2, y3, y4, y5, z1, ha, E1, E2, E3, E4, E5, G1, h⟩ := h
  obtain rfl := E1 (by decide)
  exact ⟨y2, y3, y4, y5, z1, ha, G1, h⟩
theorem dielJ6_2 (h : dielJ6 w pb r2l r2h r3l r3h r4l r4h r5l r5h r6l r6h l a0 2 p a v) : ∃ y3 y4 y5 z1 : Value, a = ((((((a0.put (some 26) (.agg #[.float .f64 r2l, .float .f64 r2h])).put (some 28) (.agg #[.float .f64 r3l, .float .f64 r3h])).put (some 30) y3).put (some 31) y4).put (some 32) y5).put (some 9) z1) ∧ (∀ q, p[0]? = some (some q) → z1 = .pointer (some ⟨q, 0, none⟩)) ∧ OwnF w ((pb, #[.int .i64 0]) :: l) [#[.float .f64 0, .float .f64 0]] p v := by
  obtain ⟨y1, y2, y3, y4, y5, z1, ha, E1, E2, E3, E4, E5, G1, h⟩ := h
  obtain rfl := E1 (by decide)
  obtain rfl := E2 (by decide)
  exact ⟨y3, y4, y5, z1, ha, G1, h⟩
theorem dielJ6_3 (h : dielJ6 w pb r2l r2h r3l r3h r4l r4h r5l r5h r6l r6h l a0 3 p a v) : ∃ y4 y5 z1 : Value, a = ((((((a0.put (some 26) (.agg #[.float .f64 r2l, .float .f64 r2h])).put (some 28) (.agg #[.float .f64 r3l, .float .f64 r3h])).put (some 30) (.agg #[.float .f64 r4l, .float .f64 r4h])).put (some 31) y4).put (some 32) y5).put (some 9) z1) ∧ (∀ q, p[0]? = some (some q) → z1 = .pointer (some ⟨q, 0, none⟩)) ∧ OwnF w ((pb, #[.int .i64 0]) :: l) [#[.float .f64 0, .float .f64 0]] p v := by
  obtain ⟨y1, y2, y3, y4, y5, z1, ha, E1, E2, E3, E4, E5, G1, h⟩ := h
  obtain rfl := E1 (by decide)
  obtain rfl := E2 (by decide)
  obtain rfl := E3 (by decide)
  exact ⟨y4, y5, z1, ha, G1, h⟩
theorem dielJ6_4 (h : dielJ6 w pb r2l r2h r3l r3h r4l r4h r5l r5h r6l r6h l a0 4 p a v) : ∃ y5 z1 : Value, a = ((((((a0.put (some 26) (.agg #[.float .f64 r2l, .float .f64 r2h])).put (some 28) (.agg #[.float .f64 r3l, .float .f64 r3h])).put (some 30) (.agg #[.float .f64 r4l, .float .f64 r4h])).put (some 31) (.agg #[.float .f64 r5l, .float .f64 r5h])).put (some 32) y5).put (some 9) z1) ∧ (∀ q, p[0]? = some (some q) → z1 = .pointer (some ⟨q, 0, none⟩)) ∧ OwnF w ((pb, #[.int .i64 0]) :: l) [#[.float .f64 0, .float .f64 0]] p v := by
  obtain ⟨y1, y2, y3, y4, y5, z1, ha, E1, E2, E3, E4, E5, G1, h⟩ := h
  obtain rfl := E1 (by decide)
  obtain rfl := E2 (by decide)
  obtain rfl := E3 (by decide)
  obtain rfl := E4 (by decide)
  exact ⟨y5, z1, ha, G1, h⟩
theorem dielJ6_fin {q1 : Nat} (h : dielJ6 w pb r2l r2h r3l r3h r4l r4h r5l r5h r6l r6h l a0 5 [some q1] a v) : a = ((((((a0.put (some 26) (.agg #[.float .f64 r2l, .float .f64 r2h])).put (some 28) (.agg #[.float .f64 r3l, .float .f64 r3h])).put (some 30) (.agg #[.float .f64 r4l, .float .f64 r4h])).put (some 31) (.agg #[.float .f64 r5l, .float .f64 r5h])).put (some 32) (.agg #[.float .f64 r6l, .float .f64 r6h])).put (some 9) (.pointer (some ⟨q1, 0, none⟩))) ∧ OwnF w ((pb, #[.int .i64 0]) :: l) [#[.float .f64 0, .float .f64 0]] [some q1] v := by
  obtain ⟨y1, y2, y3, y4, y5, z1, ha, E1, E2, E3, E4, E5, G1, h⟩ := h
  obtain rfl := E1 (by decide)
  obtain rfl := E2 (by decide)
  obtain rfl := E3 (by decide)
  obtain rfl := E4 (by decide)
  obtain rfl := E5 (by decide)
  obtain rfl := G1 _ rfl
  exact ⟨ha, h⟩
end

/-- Region 7: the calls done so far, and the blocks made so far. -/
def dielJ7 (w : World) (pb : Nat) (r7l r7h r8l r8h : Nat) (l : RowL) (a0 : Act) (k : Nat) (p : List (Option Nat)) (a : Act) (v : World) : Prop :=
  ∃ y1 y2 z1 z2 : Value, a = ((((a0.put (some 35) y1).put (some 38) y2).put (some 10) z1).put (some 11) z2) ∧ (0 < k → y1 = .agg #[.float .f64 r7l, .float .f64 r7h]) ∧ (1 < k → y2 = .agg #[.float .f64 r8l, .float .f64 r8h]) ∧ (∀ q, p[0]? = some (some q) → z1 = .pointer (some ⟨q, 0, none⟩)) ∧ (∀ q, p[1]? = some (some q) → z2 = .pointer (some ⟨q, 0, none⟩)) ∧ OwnF w ((pb, #[.int .i64 0]) :: l) [#[.float .f64 0, .float .f64 0], #[.float .f64 0, .float .f64 0]] p v
section
variable {w v : World} {pb : Nat} {r7l r7h r8l r8h : Nat} {l : RowL} {a0 a : Act} {p : List (Option Nat)}
theorem dielJ7_0 (h : dielJ7 w pb r7l r7h r8l r8h l a0 0 p a v) : ∃ y1 y2 z1 z2 : Value, a = ((((a0.put (some 35) y1).put (some 38) y2).put (some 10) z1).put (some 11) z2) ∧ (∀ q, p[0]? = some (some q) → z1 = .pointer (some ⟨q, 0, none⟩)) ∧ (∀ q, p[1]? = some (some q) → z2 = .pointer (some ⟨q, 0, none⟩)) ∧ OwnF w ((pb, #[.int .i64 0]) :: l) [#[.float .f64 0, .float .f64 0], #[.float .f64 0, .float .f64 0]] p v := by
  obtain ⟨y1, y2, z1, z2, ha, E1, E2, G1, G2, h⟩ := h
  exact ⟨y1, y2, z1, z2, ha, G1, G2, h⟩
theorem dielJ7_1 (h : dielJ7 w pb r7l r7h r8l r8h l a0 1 p a v) : ∃ y2 z1 z2 : Value, a = ((((a0.put (some 35) (.agg #[.float .f64 r7l, .float .f64 r7h])).put (some 38) y2).put (some 10) z1).put (some 11) z2) ∧ (∀ q, p[0]? = some (some q) → z1 = .pointer (some ⟨q, 0, none⟩)) ∧ (∀ q, p[1]? = some (some q) → z2 = .pointer (some ⟨q, 0, none⟩)) ∧ OwnF w ((pb, #[.int .i64 0]) :: l) [#[.float .f64 0, .float .f64 0], #[.float .f64 0, .float .f64 0]] p v := by
  obtain ⟨y1, y2, z1, z2, ha, E1, E2, G1, G2, h⟩ := h
  obtain rfl := E1 (by decide)
  exact ⟨y2, z1, z2, ha, G1, G2, h⟩
theorem dielJ7_fin {q1 q2 : Nat} (h : dielJ7 w pb r7l r7h r8l r8h l a0 2 [some q1, some q2] a v) : a = ((((a0.put (some 35) (.agg #[.float .f64 r7l, .float .f64 r7h])).put (some 38) (.agg #[.float .f64 r8l, .float .f64 r8h])).put (some 10) (.pointer (some ⟨q1, 0, none⟩))).put (some 11) (.pointer (some ⟨q2, 0, none⟩))) ∧ OwnF w ((pb, #[.int .i64 0]) :: l) [#[.float .f64 0, .float .f64 0], #[.float .f64 0, .float .f64 0]] [some q1, some q2] v := by
  obtain ⟨y1, y2, z1, z2, ha, E1, E2, G1, G2, h⟩ := h
  obtain rfl := E1 (by decide)
  obtain rfl := E2 (by decide)
  obtain rfl := G1 _ rfl
  obtain rfl := G2 _ rfl
  exact ⟨ha, h⟩
end

/-- Region 9: the calls done so far, and the blocks made so far. -/
def dielJ9 (w : World) (pb : Nat) (r11l r11h r12l r12h r13l r13h r14l r14h r15l r15h r16l r16h : Nat) (l : RowL) (a0 : Act) (k : Nat) (p : List (Option Nat)) (a : Act) (v : World) : Prop :=
  ∃ y1 y2 y3 y4 y5 y6 z1 : Value, a = (((((((a0.put (some 45) y1).put (some 47) y2).put (some 50) y3).put (some 52) y4).put (some 53) y5).put (some 54) y6).put (some 13) z1) ∧ (0 < k → y1 = .agg #[.float .f64 r11l, .float .f64 r11h]) ∧ (1 < k → y2 = .agg #[.float .f64 r12l, .float .f64 r12h]) ∧ (2 < k → y3 = .agg #[.float .f64 r13l, .float .f64 r13h]) ∧ (3 < k → y4 = .agg #[.float .f64 r14l, .float .f64 r14h]) ∧ (4 < k → y5 = .agg #[.float .f64 r15l, .float .f64 r15h]) ∧ (5 < k → y6 = .agg #[.float .f64 r16l, .float .f64 r16h]) ∧ (∀ q, p[0]? = some (some q) → z1 = .pointer (some ⟨q, 0, none⟩)) ∧ OwnF w ((pb, #[.int .i64 0]) :: l) [#[.float .f64 0, .float .f64 0]] p v
section
variable {w v : World} {pb : Nat} {r11l r11h r12l r12h r13l r13h r14l r14h r15l r15h r16l r16h : Nat} {l : RowL} {a0 a : Act} {p : List (Option Nat)}
theorem dielJ9_0 (h : dielJ9 w pb r11l r11h r12l r12h r13l r13h r14l r14h r15l r15h r16l r16h l a0 0 p a v) : ∃ y1 y2 y3 y4 y5 y6 z1 : Value, a = (((((((a0.put (some 45) y1).put (some 47) y2).put (some 50) y3).put (some 52) y4).put (some 53) y5).put (some 54) y6).put (some 13) z1) ∧ (∀ q, p[0]? = some (some q) → z1 = .pointer (some ⟨q, 0, none⟩)) ∧ OwnF w ((pb, #[.int .i64 0]) :: l) [#[.float .f64 0, .float .f64 0]] p v := by
  obtain ⟨y1, y2, y3, y4, y5, y6, z1, ha, E1, E2, E3, E4, E5, E6, G1, h⟩ := h
  exact ⟨y1, y2, y3, y4, y5, y6, z1, ha, G1, h⟩
theorem dielJ9_1 (h : dielJ9 w pb r11l r11h r12l r12h r13l r13h r14l r14h r15l r15h r16l r16h l a0 1 p a v) : ∃ y2 y3 y4 y5 y6 z1 : Value, a = (((((((a0.put (some 45) (.agg #[.float .f64 r11l, .float .f64 r11h])).put (some 47) y2).put (some 50) y3).put (some 52) y4).put (some 53) y5).put (some 54) y6).put (some 13) z1) ∧ (∀ q, p[0]? = some (some q) → z1 = .pointer (some ⟨q, 0, none⟩)) ∧ OwnF w ((pb, #[.int .i64 0]) :: l) [#[.float .f64 0, .float .f64 0]] p v := by
  obtain ⟨y1, y2, y3, y4, y5, y6, z1, ha, E1, E2, E3, E4, E5, E6, G1, h⟩ := h
  obtain rfl := E1 (by decide)
  exact ⟨y2, y3, y4, y5, y6, z1, ha, G1, h⟩
theorem dielJ9_2 (h : dielJ9 w pb r11l r11h r12l r12h r13l r13h r14l r14h r15l r15h r16l r16h l a0 2 p a v) : ∃ y3 y4 y5 y6 z1 : Value, a = (((((((a0.put (some 45) (.agg #[.float .f64 r11l, .float .f64 r11h])).put (some 47) (.agg #[.float .f64 r12l, .float .f64 r12h])).put (some 50) y3).put (some 52) y4).put (some 53) y5).put (some 54) y6).put (some 13) z1) ∧ (∀ q, p[0]? = some (some q) → z1 = .pointer (some ⟨q, 0, none⟩)) ∧ OwnF w ((pb, #[.int .i64 0]) :: l) [#[.float .f64 0, .float .f64 0]] p v := by
  obtain ⟨y1, y2, y3, y4, y5, y6, z1, ha, E1, E2, E3, E4, E5, E6, G1, h⟩ := h
  obtain rfl := E1 (by decide)
  obtain rfl := E2 (by decide)
  exact ⟨y3, y4, y5, y6, z1, ha, G1, h⟩
theorem dielJ9_3 (h : dielJ9 w pb r11l r11h r12l r12h r13l r13h r14l r14h r15l r15h r16l r16h l a0 3 p a v) : ∃ y4 y5 y6 z1 : Value, a = (((((((a0.put (some 45) (.agg #[.float .f64 r11l, .float .f64 r11h])).put (some 47) (.agg #[.float .f64 r12l, .float .f64 r12h])).put (some 50) (.agg #[.float .f64 r13l, .float .f64 r13h])).put (some 52) y4).put (some 53) y5).put (some 54) y6).put (some 13) z1) ∧ (∀ q, p[0]? = some (some q) → z1 = .pointer (some ⟨q, 0, none⟩)) ∧ OwnF w ((pb, #[.int .i64 0]) :: l) [#[.float .f64 0, .float .f64 0]] p v := by
  obtain ⟨y1, y2, y3, y4, y5, y6, z1, ha, E1, E2, E3, E4, E5, E6, G1, h⟩ := h
  obtain rfl := E1 (by decide)
  obtain rfl := E2 (by decide)
  obtain rfl := E3 (by decide)
  exact ⟨y4, y5, y6, z1, ha, G1, h⟩
theorem dielJ9_4 (h : dielJ9 w pb r11l r11h r12l r12h r13l r13h r14l r14h r15l r15h r16l r16h l a0 4 p a v) : ∃ y5 y6 z1 : Value, a = (((((((a0.put (some 45) (.agg #[.float .f64 r11l, .float .f64 r11h])).put (some 47) (.agg #[.float .f64 r12l, .float .f64 r12h])).put (some 50) (.agg #[.float .f64 r13l, .float .f64 r13h])).put (some 52) (.agg #[.float .f64 r14l, .float .f64 r14h])).put (some 53) y5).put (some 54) y6).put (some 13) z1) ∧ (∀ q, p[0]? = some (some q) → z1 = .pointer (some ⟨q, 0, none⟩)) ∧ OwnF w ((pb, #[.int .i64 0]) :: l) [#[.float .f64 0, .float .f64 0]] p v := by
  obtain ⟨y1, y2, y3, y4, y5, y6, z1, ha, E1, E2, E3, E4, E5, E6, G1, h⟩ := h
  obtain rfl := E1 (by decide)
  obtain rfl := E2 (by decide)
  obtain rfl := E3 (by decide)
  obtain rfl := E4 (by decide)
  exact ⟨y5, y6, z1, ha, G1, h⟩
theorem dielJ9_5 (h : dielJ9 w pb r11l r11h r12l r12h r13l r13h r14l r14h r15l r15h r16l r16h l a0 5 p a v) : ∃ y6 z1 : Value, a = (((((((a0.put (some 45) (.agg #[.float .f64 r11l, .float .f64 r11h])).put (some 47) (.agg #[.float .f64 r12l, .float .f64 r12h])).put (some 50) (.agg #[.float .f64 r13l, .float .f64 r13h])).put (some 52) (.agg #[.float .f64 r14l, .float .f64 r14h])).put (some 53) (.agg #[.float .f64 r15l, .float .f64 r15h])).put (some 54) y6).put (some 13) z1) ∧ (∀ q, p[0]? = some (some q) → z1 = .pointer (some ⟨q, 0, none⟩)) ∧ OwnF w ((pb, #[.int .i64 0]) :: l) [#[.float .f64 0, .float .f64 0]] p v := by
  obtain ⟨y1, y2, y3, y4, y5, y6, z1, ha, E1, E2, E3, E4, E5, E6, G1, h⟩ := h
  obtain rfl := E1 (by decide)
  obtain rfl := E2 (by decide)
  obtain rfl := E3 (by decide)
  obtain rfl := E4 (by decide)
  obtain rfl := E5 (by decide)
  exact ⟨y6, z1, ha, G1, h⟩
theorem dielJ9_fin {q1 : Nat} (h : dielJ9 w pb r11l r11h r12l r12h r13l r13h r14l r14h r15l r15h r16l r16h l a0 6 [some q1] a v) : a = (((((((a0.put (some 45) (.agg #[.float .f64 r11l, .float .f64 r11h])).put (some 47) (.agg #[.float .f64 r12l, .float .f64 r12h])).put (some 50) (.agg #[.float .f64 r13l, .float .f64 r13h])).put (some 52) (.agg #[.float .f64 r14l, .float .f64 r14h])).put (some 53) (.agg #[.float .f64 r15l, .float .f64 r15h])).put (some 54) (.agg #[.float .f64 r16l, .float .f64 r16h])).put (some 13) (.pointer (some ⟨q1, 0, none⟩))) ∧ OwnF w ((pb, #[.int .i64 0]) :: l) [#[.float .f64 0, .float .f64 0]] [some q1] v := by
  obtain ⟨y1, y2, y3, y4, y5, y6, z1, ha, E1, E2, E3, E4, E5, E6, G1, h⟩ := h
  obtain rfl := E1 (by decide)
  obtain rfl := E2 (by decide)
  obtain rfl := E3 (by decide)
  obtain rfl := E4 (by decide)
  obtain rfl := E5 (by decide)
  obtain rfl := E6 (by decide)
  obtain rfl := G1 _ rfl
  exact ⟨ha, h⟩
end

/-- Region 10: the calls done so far, and the blocks made so far. -/
def dielJ10 (w : World) (pb : Nat) (r18l r18h r19l r19h r20l r20h r21l r21h : Nat) (l : RowL) (a0 : Act) (k : Nat) (p : List (Option Nat)) (a : Act) (v : World) : Prop :=
  ∃ y1 y2 y3 y4 y5 y6 : Value, a = ((((((a0.put (some 55) y1).put (some 57) y2).put (some 60) y3).put (some 61) y4).put (some 62) y5).put (some 63) y6) ∧ (0 < k → y1 = .agg #[.float .f64 4602678819172646912, .float .f64 4602678819172646912]) ∧ (1 < k → y2 = .agg #[.float .f64 r18l, .float .f64 r18h]) ∧ (2 < k → y3 = .agg #[.float .f64 r19l, .float .f64 r19h]) ∧ (3 < k → y4 = .agg #[.float .f64 r20l, .float .f64 r20h]) ∧ (4 < k → y5 = .agg #[.float .f64 r21l, .float .f64 r21h]) ∧ (5 < k → y6 = .int .i64 0) ∧ OwnF w ((pb, #[.int .i64 0]) :: l) [] p v
section
variable {w v : World} {pb : Nat} {r18l r18h r19l r19h r20l r20h r21l r21h : Nat} {l : RowL} {a0 a : Act} {p : List (Option Nat)}
theorem dielJ10_0 (h : dielJ10 w pb r18l r18h r19l r19h r20l r20h r21l r21h l a0 0 p a v) : ∃ y1 y2 y3 y4 y5 y6 : Value, a = ((((((a0.put (some 55) y1).put (some 57) y2).put (some 60) y3).put (some 61) y4).put (some 62) y5).put (some 63) y6) ∧ OwnF w ((pb, #[.int .i64 0]) :: l) [] p v := by
  obtain ⟨y1, y2, y3, y4, y5, y6, ha, E1, E2, E3, E4, E5, E6, h⟩ := h
  exact ⟨y1, y2, y3, y4, y5, y6, ha, h⟩
theorem dielJ10_1 (h : dielJ10 w pb r18l r18h r19l r19h r20l r20h r21l r21h l a0 1 p a v) : ∃ y2 y3 y4 y5 y6 : Value, a = ((((((a0.put (some 55) (.agg #[.float .f64 4602678819172646912, .float .f64 4602678819172646912])).put (some 57) y2).put (some 60) y3).put (some 61) y4).put (some 62) y5).put (some 63) y6) ∧ OwnF w ((pb, #[.int .i64 0]) :: l) [] p v := by
  obtain ⟨y1, y2, y3, y4, y5, y6, ha, E1, E2, E3, E4, E5, E6, h⟩ := h
  obtain rfl := E1 (by decide)
  exact ⟨y2, y3, y4, y5, y6, ha, h⟩
theorem dielJ10_2 (h : dielJ10 w pb r18l r18h r19l r19h r20l r20h r21l r21h l a0 2 p a v) : ∃ y3 y4 y5 y6 : Value, a = ((((((a0.put (some 55) (.agg #[.float .f64 4602678819172646912, .float .f64 4602678819172646912])).put (some 57) (.agg #[.float .f64 r18l, .float .f64 r18h])).put (some 60) y3).put (some 61) y4).put (some 62) y5).put (some 63) y6) ∧ OwnF w ((pb, #[.int .i64 0]) :: l) [] p v := by
  obtain ⟨y1, y2, y3, y4, y5, y6, ha, E1, E2, E3, E4, E5, E6, h⟩ := h
  obtain rfl := E1 (by decide)
  obtain rfl := E2 (by decide)
  exact ⟨y3, y4, y5, y6, ha, h⟩
theorem dielJ10_3 (h : dielJ10 w pb r18l r18h r19l r19h r20l r20h r21l r21h l a0 3 p a v) : ∃ y4 y5 y6 : Value, a = ((((((a0.put (some 55) (.agg #[.float .f64 4602678819172646912, .float .f64 4602678819172646912])).put (some 57) (.agg #[.float .f64 r18l, .float .f64 r18h])).put (some 60) (.agg #[.float .f64 r19l, .float .f64 r19h])).put (some 61) y4).put (some 62) y5).put (some 63) y6) ∧ OwnF w ((pb, #[.int .i64 0]) :: l) [] p v := by
  obtain ⟨y1, y2, y3, y4, y5, y6, ha, E1, E2, E3, E4, E5, E6, h⟩ := h
  obtain rfl := E1 (by decide)
  obtain rfl := E2 (by decide)
  obtain rfl := E3 (by decide)
  exact ⟨y4, y5, y6, ha, h⟩
theorem dielJ10_4 (h : dielJ10 w pb r18l r18h r19l r19h r20l r20h r21l r21h l a0 4 p a v) : ∃ y5 y6 : Value, a = ((((((a0.put (some 55) (.agg #[.float .f64 4602678819172646912, .float .f64 4602678819172646912])).put (some 57) (.agg #[.float .f64 r18l, .float .f64 r18h])).put (some 60) (.agg #[.float .f64 r19l, .float .f64 r19h])).put (some 61) (.agg #[.float .f64 r20l, .float .f64 r20h])).put (some 62) y5).put (some 63) y6) ∧ OwnF w ((pb, #[.int .i64 0]) :: l) [] p v := by
  obtain ⟨y1, y2, y3, y4, y5, y6, ha, E1, E2, E3, E4, E5, E6, h⟩ := h
  obtain rfl := E1 (by decide)
  obtain rfl := E2 (by decide)
  obtain rfl := E3 (by decide)
  obtain rfl := E4 (by decide)
  exact ⟨y5, y6, ha, h⟩
theorem dielJ10_5 (h : dielJ10 w pb r18l r18h r19l r19h r20l r20h r21l r21h l a0 5 p a v) : ∃ y6 : Value, a = ((((((a0.put (some 55) (.agg #[.float .f64 4602678819172646912, .float .f64 4602678819172646912])).put (some 57) (.agg #[.float .f64 r18l, .float .f64 r18h])).put (some 60) (.agg #[.float .f64 r19l, .float .f64 r19h])).put (some 61) (.agg #[.float .f64 r20l, .float .f64 r20h])).put (some 62) (.agg #[.float .f64 r21l, .float .f64 r21h])).put (some 63) y6) ∧ OwnF w ((pb, #[.int .i64 0]) :: l) [] p v := by
  obtain ⟨y1, y2, y3, y4, y5, y6, ha, E1, E2, E3, E4, E5, E6, h⟩ := h
  obtain rfl := E1 (by decide)
  obtain rfl := E2 (by decide)
  obtain rfl := E3 (by decide)
  obtain rfl := E4 (by decide)
  obtain rfl := E5 (by decide)
  exact ⟨y6, ha, h⟩
theorem dielJ10_fin (h : dielJ10 w pb r18l r18h r19l r19h r20l r20h r21l r21h l a0 6 [] a v) : a = ((((((a0.put (some 55) (.agg #[.float .f64 4602678819172646912, .float .f64 4602678819172646912])).put (some 57) (.agg #[.float .f64 r18l, .float .f64 r18h])).put (some 60) (.agg #[.float .f64 r19l, .float .f64 r19h])).put (some 61) (.agg #[.float .f64 r20l, .float .f64 r20h])).put (some 62) (.agg #[.float .f64 r21l, .float .f64 r21h])).put (some 63) (.int .i64 0)) ∧ OwnF w ((pb, #[.int .i64 0]) :: l) [] [] v := by
  obtain ⟨y1, y2, y3, y4, y5, y6, ha, E1, E2, E3, E4, E5, E6, h⟩ := h
  obtain rfl := E1 (by decide)
  obtain rfl := E2 (by decide)
  obtain rfl := E3 (by decide)
  obtain rfl := E4 (by decide)
  obtain rfl := E5 (by decide)
  obtain rfl := E6 (by decide)
  exact ⟨ha, h⟩
end

end Go.Proofs.Ytdppppaoflhgdaa

namespace Go.Proofs.Ytdppppaoflhgdaa
open Go.RowKit
attribute [local go_sem] run_store_float

/-- Region 7: the calls done so far, and the blocks made so far. -/
def condJ7 (w : World) (pb : Nat) (r4l r4h r5l r5h : Nat) (l : RowL) (a0 : Act) (k : Nat) (p : List (Option Nat)) (a : Act) (v : World) : Prop :=
  ∃ y1 y2 y3 z1 : Value, a = ((((a0.put (some 38) y1).put (some 40) y2).put (some 41) y3).put (some 12) z1) ∧ (0 < k → y1 = .agg #[.float .f64 4607182418800017408, .float .f64 4607182418800017408]) ∧ (1 < k → y2 = .agg #[.float .f64 r4l, .float .f64 r4h]) ∧ (2 < k → y3 = .agg #[.float .f64 r5l, .float .f64 r5h]) ∧ (∀ q, p[0]? = some (some q) → z1 = .pointer (some ⟨q, 0, none⟩)) ∧ OwnF w ((pb, #[.int .i64 0]) :: l) [#[.float .f64 0, .float .f64 0]] p v
section
variable {w v : World} {pb : Nat} {r4l r4h r5l r5h : Nat} {l : RowL} {a0 a : Act} {p : List (Option Nat)}
theorem condJ7_0 (h : condJ7 w pb r4l r4h r5l r5h l a0 0 p a v) : ∃ y1 y2 y3 z1 : Value, a = ((((a0.put (some 38) y1).put (some 40) y2).put (some 41) y3).put (some 12) z1) ∧ (∀ q, p[0]? = some (some q) → z1 = .pointer (some ⟨q, 0, none⟩)) ∧ OwnF w ((pb, #[.int .i64 0]) :: l) [#[.float .f64 0, .float .f64 0]] p v := by
  obtain ⟨y1, y2, y3, z1, ha, E1, E2, E3, G1, h⟩ := h
  exact ⟨y1, y2, y3, z1, ha, G1, h⟩
theorem condJ7_1 (h : condJ7 w pb r4l r4h r5l r5h l a0 1 p a v) : ∃ y2 y3 z1 : Value, a = ((((a0.put (some 38) (.agg #[.float .f64 4607182418800017408, .float .f64 4607182418800017408])).put (some 40) y2).put (some 41) y3).put (some 12) z1) ∧ (∀ q, p[0]? = some (some q) → z1 = .pointer (some ⟨q, 0, none⟩)) ∧ OwnF w ((pb, #[.int .i64 0]) :: l) [#[.float .f64 0, .float .f64 0]] p v := by
  obtain ⟨y1, y2, y3, z1, ha, E1, E2, E3, G1, h⟩ := h
  obtain rfl := E1 (by decide)
  exact ⟨y2, y3, z1, ha, G1, h⟩
theorem condJ7_2 (h : condJ7 w pb r4l r4h r5l r5h l a0 2 p a v) : ∃ y3 z1 : Value, a = ((((a0.put (some 38) (.agg #[.float .f64 4607182418800017408, .float .f64 4607182418800017408])).put (some 40) (.agg #[.float .f64 r4l, .float .f64 r4h])).put (some 41) y3).put (some 12) z1) ∧ (∀ q, p[0]? = some (some q) → z1 = .pointer (some ⟨q, 0, none⟩)) ∧ OwnF w ((pb, #[.int .i64 0]) :: l) [#[.float .f64 0, .float .f64 0]] p v := by
  obtain ⟨y1, y2, y3, z1, ha, E1, E2, E3, G1, h⟩ := h
  obtain rfl := E1 (by decide)
  obtain rfl := E2 (by decide)
  exact ⟨y3, z1, ha, G1, h⟩
theorem condJ7_fin {q1 : Nat} (h : condJ7 w pb r4l r4h r5l r5h l a0 3 [some q1] a v) : a = ((((a0.put (some 38) (.agg #[.float .f64 4607182418800017408, .float .f64 4607182418800017408])).put (some 40) (.agg #[.float .f64 r4l, .float .f64 r4h])).put (some 41) (.agg #[.float .f64 r5l, .float .f64 r5h])).put (some 12) (.pointer (some ⟨q1, 0, none⟩))) ∧ OwnF w ((pb, #[.int .i64 0]) :: l) [#[.float .f64 0, .float .f64 0]] [some q1] v := by
  obtain ⟨y1, y2, y3, z1, ha, E1, E2, E3, G1, h⟩ := h
  obtain rfl := E1 (by decide)
  obtain rfl := E2 (by decide)
  obtain rfl := E3 (by decide)
  obtain rfl := G1 _ rfl
  exact ⟨ha, h⟩
end

/-- Region 8: the calls done so far, and the blocks made so far. -/
def condJ8 (w : World) (pb : Nat) (r6l r6h r7l r7h r8l r8h : Nat) (l : RowL) (a0 : Act) (k : Nat) (p : List (Option Nat)) (a : Act) (v : World) : Prop :=
  ∃ y1 y2 y3 z1 : Value, a = ((((a0.put (some 43) y1).put (some 45) y2).put (some 46) y3).put (some 13) z1) ∧ (0 < k → y1 = .agg #[.float .f64 r6l, .float .f64 r6h]) ∧ (1 < k → y2 = .agg #[.float .f64 r7l, .float .f64 r7h]) ∧ (2 < k → y3 = .agg #[.float .f64 r8l, .float .f64 r8h]) ∧ (∀ q, p[0]? = some (some q) → z1 = .pointer (some ⟨q, 0, none⟩)) ∧ OwnF w ((pb, #[.int .i64 0]) :: l) [#[.float .f64 0, .float .f64 0]] p v
section
variable {w v : World} {pb : Nat} {r6l r6h r7l r7h r8l r8h : Nat} {l : RowL} {a0 a : Act} {p : List (Option Nat)}
theorem condJ8_0 (h : condJ8 w pb r6l r6h r7l r7h r8l r8h l a0 0 p a v) : ∃ y1 y2 y3 z1 : Value, a = ((((a0.put (some 43) y1).put (some 45) y2).put (some 46) y3).put (some 13) z1) ∧ (∀ q, p[0]? = some (some q) → z1 = .pointer (some ⟨q, 0, none⟩)) ∧ OwnF w ((pb, #[.int .i64 0]) :: l) [#[.float .f64 0, .float .f64 0]] p v := by
  obtain ⟨y1, y2, y3, z1, ha, E1, E2, E3, G1, h⟩ := h
  exact ⟨y1, y2, y3, z1, ha, G1, h⟩
theorem condJ8_1 (h : condJ8 w pb r6l r6h r7l r7h r8l r8h l a0 1 p a v) : ∃ y2 y3 z1 : Value, a = ((((a0.put (some 43) (.agg #[.float .f64 r6l, .float .f64 r6h])).put (some 45) y2).put (some 46) y3).put (some 13) z1) ∧ (∀ q, p[0]? = some (some q) → z1 = .pointer (some ⟨q, 0, none⟩)) ∧ OwnF w ((pb, #[.int .i64 0]) :: l) [#[.float .f64 0, .float .f64 0]] p v := by
  obtain ⟨y1, y2, y3, z1, ha, E1, E2, E3, G1, h⟩ := h
  obtain rfl := E1 (by decide)
  exact ⟨y2, y3, z1, ha, G1, h⟩
theorem condJ8_2 (h : condJ8 w pb r6l r6h r7l r7h r8l r8h l a0 2 p a v) : ∃ y3 z1 : Value, a = ((((a0.put (some 43) (.agg #[.float .f64 r6l, .float .f64 r6h])).put (some 45) (.agg #[.float .f64 r7l, .float .f64 r7h])).put (some 46) y3).put (some 13) z1) ∧ (∀ q, p[0]? = some (some q) → z1 = .pointer (some ⟨q, 0, none⟩)) ∧ OwnF w ((pb, #[.int .i64 0]) :: l) [#[.float .f64 0, .float .f64 0]] p v := by
  obtain ⟨y1, y2, y3, z1, ha, E1, E2, E3, G1, h⟩ := h
  obtain rfl := E1 (by decide)
  obtain rfl := E2 (by decide)
  exact ⟨y3, z1, ha, G1, h⟩
theorem condJ8_fin {q1 : Nat} (h : condJ8 w pb r6l r6h r7l r7h r8l r8h l a0 3 [some q1] a v) : a = ((((a0.put (some 43) (.agg #[.float .f64 r6l, .float .f64 r6h])).put (some 45) (.agg #[.float .f64 r7l, .float .f64 r7h])).put (some 46) (.agg #[.float .f64 r8l, .float .f64 r8h])).put (some 13) (.pointer (some ⟨q1, 0, none⟩))) ∧ OwnF w ((pb, #[.int .i64 0]) :: l) [#[.float .f64 0, .float .f64 0]] [some q1] v := by
  obtain ⟨y1, y2, y3, z1, ha, E1, E2, E3, G1, h⟩ := h
  obtain rfl := E1 (by decide)
  obtain rfl := E2 (by decide)
  obtain rfl := E3 (by decide)
  obtain rfl := G1 _ rfl
  exact ⟨ha, h⟩
end

/-- Region 9: the calls done so far, and the blocks made so far. -/
def condJ9 (w : World) (pb : Nat) (r9l r9h r10l r10h r11l r11h r12l r12h : Nat) (l : RowL) (a0 : Act) (k : Nat) (p : List (Option Nat)) (a : Act) (v : World) : Prop :=
  ∃ y1 y2 y3 y4 z1 : Value, a = (((((a0.put (some 48) y1).put (some 50) y2).put (some 51) y3).put (some 53) y4).put (some 14) z1) ∧ (0 < k → y1 = .agg #[.float .f64 r9l, .float .f64 r9h]) ∧ (1 < k → y2 = .agg #[.float .f64 r10l, .float .f64 r10h]) ∧ (2 < k → y3 = .agg #[.float .f64 r11l, .float .f64 r11h]) ∧ (3 < k → y4 = .agg #[.float .f64 r12l, .float .f64 r12h]) ∧ (∀ q, p[0]? = some (some q) → z1 = .pointer (some ⟨q, 0, none⟩)) ∧ OwnF w ((pb, #[.int .i64 0]) :: l) [#[.float .f64 0, .float .f64 0]] p v
section
variable {w v : World} {pb : Nat} {r9l r9h r10l r10h r11l r11h r12l r12h : Nat} {l : RowL} {a0 a : Act} {p : List (Option Nat)}
theorem condJ9_0 (h : condJ9 w pb r9l r9h r10l r10h r11l r11h r12l r12h l a0 0 p a v) : ∃ y1 y2 y3 y4 z1 : Value, a = (((((a0.put (some 48) y1).put (some 50) y2).put (some 51) y3).put (some 53) y4).put (some 14) z1) ∧ (∀ q, p[0]? = some (some q) → z1 = .pointer (some ⟨q, 0, none⟩)) ∧ OwnF w ((pb, #[.int .i64 0]) :: l) [#[.float .f64 0, .float .f64 0]] p v := by
  obtain ⟨y1, y2, y3, y4, z1, ha, E1, E2, E3, E4, G1, h⟩ := h
  exact ⟨y1, y2, y3, y4, z1, ha, G1, h⟩
theorem condJ9_1 (h : condJ9 w pb r9l r9h r10l r10h r11l r11h r12l r12h l a0 1 p a v) : ∃ y2 y3 y4 z1 : Value, a = (((((a0.put (some 48) (.agg #[.float .f64 r9l, .float .f64 r9h])).put (some 50) y2).put (some 51) y3).put (some 53) y4).put (some 14) z1) ∧ (∀ q, p[0]? = some (some q) → z1 = .pointer (some ⟨q, 0, none⟩)) ∧ OwnF w ((pb, #[.int .i64 0]) :: l) [#[.float .f64 0, .float .f64 0]] p v := by
  obtain ⟨y1, y2, y3, y4, z1, ha, E1, E2, E3, E4, G1, h⟩ := h
  obtain rfl := E1 (by decide)
  exact ⟨y2, y3, y4, z1, ha, G1, h⟩
theorem condJ9_2 (h : condJ9 w pb r9l r9h r10l r10h r11l r11h r12l r12h l a0 2 p a v) : ∃ y3 y4 z1 : Value, a = (((((a0.put (some 48) (.agg #[.float .f64 r9l, .float .f64 r9h])).put (some 50) (.agg #[.float .f64 r10l, .float .f64 r10h])).put (some 51) y3).put (some 53) y4).put (some 14) z1) ∧ (∀ q, p[0]? = some (some q) → z1 = .pointer (some ⟨q, 0, none⟩)) ∧ OwnF w ((pb, #[.int .i64 0]) :: l) [#[.float .f64 0, .float .f64 0]] p v := by
  obtain ⟨y1, y2, y3, y4, z1, ha, E1, E2, E3, E4, G1, h⟩ := h
  obtain rfl := E1 (by decide)
  obtain rfl := E2 (by decide)
  exact ⟨y3, y4, z1, ha, G1, h⟩
theorem condJ9_3 (h : condJ9 w pb r9l r9h r10l r10h r11l r11h r12l r12h l a0 3 p a v) : ∃ y4 z1 : Value, a = (((((a0.put (some 48) (.agg #[.float .f64 r9l, .float .f64 r9h])).put (some 50) (.agg #[.float .f64 r10l, .float .f64 r10h])).put (some 51) (.agg #[.float .f64 r11l, .float .f64 r11h])).put (some 53) y4).put (some 14) z1) ∧ (∀ q, p[0]? = some (some q) → z1 = .pointer (some ⟨q, 0, none⟩)) ∧ OwnF w ((pb, #[.int .i64 0]) :: l) [#[.float .f64 0, .float .f64 0]] p v := by
  obtain ⟨y1, y2, y3, y4, z1, ha, E1, E2, E3, E4, G1, h⟩ := h
  obtain rfl := E1 (by decide)
  obtain rfl := E2 (by decide)
  obtain rfl := E3 (by decide)
  exact ⟨y4, z1, ha, G1, h⟩
theorem condJ9_fin {q1 : Nat} (h : condJ9 w pb r9l r9h r10l r10h r11l r11h r12l r12h l a0 4 [some q1] a v) : a = (((((a0.put (some 48) (.agg #[.float .f64 r9l, .float .f64 r9h])).put (some 50) (.agg #[.float .f64 r10l, .float .f64 r10h])).put (some 51) (.agg #[.float .f64 r11l, .float .f64 r11h])).put (some 53) (.agg #[.float .f64 r12l, .float .f64 r12h])).put (some 14) (.pointer (some ⟨q1, 0, none⟩))) ∧ OwnF w ((pb, #[.int .i64 0]) :: l) [#[.float .f64 0, .float .f64 0]] [some q1] v := by
  obtain ⟨y1, y2, y3, y4, z1, ha, E1, E2, E3, E4, G1, h⟩ := h
  obtain rfl := E1 (by decide)
  obtain rfl := E2 (by decide)
  obtain rfl := E3 (by decide)
  obtain rfl := E4 (by decide)
  obtain rfl := G1 _ rfl
  exact ⟨ha, h⟩
end

/-- Region 10: the calls done so far, and the blocks made so far. -/
def condJ10 (w : World) (pb : Nat) (r13l r13h r15l r15h r16l r16h r17l r17h : Nat) (l : RowL) (a0 : Act) (k : Nat) (p : List (Option Nat)) (a : Act) (v : World) : Prop :=
  ∃ y1 y2 y3 y4 y5 z1 : Value, a = ((((((a0.put (some 55) y1).put (some 56) y2).put (some 58) y3).put (some 59) y4).put (some 60) y5).put (some 15) z1) ∧ (0 < k → y1 = .agg #[.float .f64 r13l, .float .f64 r13h]) ∧ (1 < k → y2 = .agg #[.float .f64 4616189618054758400, .float .f64 4616189618054758400]) ∧ (2 < k → y3 = .agg #[.float .f64 r15l, .float .f64 r15h]) ∧ (3 < k → y4 = .agg #[.float .f64 r16l, .float .f64 r16h]) ∧ (4 < k → y5 = .agg #[.float .f64 r17l, .float .f64 r17h]) ∧ (∀ q, p[0]? = some (some q) → z1 = .pointer (some ⟨q, 0, none⟩)) ∧ OwnF w ((pb, #[.int .i64 0]) :: l) [#[.float .f64 0, .float .f64 0]] p v
section
variable {w v : World} {pb : Nat} {r13l r13h r15l r15h r16l r16h r17l r17h : Nat} {l : RowL} {a0 a : Act} {p : List (Option Nat)}
theorem condJ10_0 (h : condJ10 w pb r13l r13h r15l r15h r16l r16h r17l r17h l a0 0 p a v) : ∃ y1 y2 y3 y4 y5 z1 : Value, a = ((((((a0.put (some 55) y1).put (some 56) y2).put (some 58) y3).put (some 59) y4).put (some 60) y5).put (some 15) z1) ∧ (∀ q, p[0]? = some (some q) → z1 = .pointer (some ⟨q, 0, none⟩)) ∧ OwnF w ((pb, #[.int .i64 0]) :: l) [#[.float .f64 0, .float .f64 0]] p v := by
  obtain ⟨y1, y2, y3, y4, y5, z1, ha, E1, E2, E3, E4, E5, G1, h⟩ := h
  exact ⟨y1, y2, y3, y4, y5, z1, ha, G1, h⟩
theorem condJ10_1 (h : condJ10 w pb r13l r13h r15l r15h r16l r16h r17l r17h l a0 1 p a v) : ∃ y2 y3 y4 y5 z1 : Value, a = ((((((a0.put (some 55) (.agg #[.float .f64 r13l, .float .f64 r13h])).put (some 56) y2).put (some 58) y3).put (some 59) y4).put (some 60) y5).put (some 15) z1) ∧ (∀ q, p[0]? = some (some q) → z1 = .pointer (some ⟨q, 0, none⟩)) ∧ OwnF w ((pb, #[.int .i64 0]) :: l) [#[.float .f64 0, .float .f64 0]] p v := by
  obtain ⟨y1, y2, y3, y4, y5, z1, ha, E1, E2, E3, E4, E5, G1, h⟩ := h
  obtain rfl := E1 (by decide)
  exact ⟨y2, y3, y4, y5, z1, ha, G1, h⟩
theorem condJ10_2 (h : condJ10 w pb r13l r13h r15l r15h r16l r16h r17l r17h l a0 2 p a v) : ∃ y3 y4 y5 z1 : Value, a = ((((((a0.put (some 55) (.agg #[.float .f64 r13l, .float .f64 r13h])).put (some 56) (.agg #[.float .f64 4616189618054758400, .float .f64 4616189618054758400])).put (some 58) y3).put (some 59) y4).put (some 60) y5).put (some 15) z1) ∧ (∀ q, p[0]? = some (some q) → z1 = .pointer (some ⟨q, 0, none⟩)) ∧ OwnF w ((pb, #[.int .i64 0]) :: l) [#[.float .f64 0, .float .f64 0]] p v := by
  obtain ⟨y1, y2, y3, y4, y5, z1, ha, E1, E2, E3, E4, E5, G1, h⟩ := h
  obtain rfl := E1 (by decide)
  obtain rfl := E2 (by decide)
  exact ⟨y3, y4, y5, z1, ha, G1, h⟩
theorem condJ10_3 (h : condJ10 w pb r13l r13h r15l r15h r16l r16h r17l r17h l a0 3 p a v) : ∃ y4 y5 z1 : Value, a = ((((((a0.put (some 55) (.agg #[.float .f64 r13l, .float .f64 r13h])).put (some 56) (.agg #[.float .f64 4616189618054758400, .float .f64 4616189618054758400])).put (some 58) (.agg #[.float .f64 r15l, .float .f64 r15h])).put (some 59) y4).put (some 60) y5).put (some 15) z1) ∧ (∀ q, p[0]? = some (some q) → z1 = .pointer (some ⟨q, 0, none⟩)) ∧ OwnF w ((pb, #[.int .i64 0]) :: l) [#[.float .f64 0, .float .f64 0]] p v := by
  obtain ⟨y1, y2, y3, y4, y5, z1, ha, E1, E2, E3, E4, E5, G1, h⟩ := h
  obtain rfl := E1 (by decide)
  obtain rfl := E2 (by decide)
  obtain rfl := E3 (by decide)
  exact ⟨y4, y5, z1, ha, G1, h⟩
theorem condJ10_4 (h : condJ10 w pb r13l r13h r15l r15h r16l r16h r17l r17h l a0 4 p a v) : ∃ y5 z1 : Value, a = ((((((a0.put (some 55) (.agg #[.float .f64 r13l, .float .f64 r13h])).put (some 56) (.agg #[.float .f64 4616189618054758400, .float .f64 4616189618054758400])).put (some 58) (.agg #[.float .f64 r15l, .float .f64 r15h])).put (some 59) (.agg #[.float .f64 r16l, .float .f64 r16h])).put (some 60) y5).put (some 15) z1) ∧ (∀ q, p[0]? = some (some q) → z1 = .pointer (some ⟨q, 0, none⟩)) ∧ OwnF w ((pb, #[.int .i64 0]) :: l) [#[.float .f64 0, .float .f64 0]] p v := by
  obtain ⟨y1, y2, y3, y4, y5, z1, ha, E1, E2, E3, E4, E5, G1, h⟩ := h
  obtain rfl := E1 (by decide)
  obtain rfl := E2 (by decide)
  obtain rfl := E3 (by decide)
  obtain rfl := E4 (by decide)
  exact ⟨y5, z1, ha, G1, h⟩
theorem condJ10_fin {q1 : Nat} (h : condJ10 w pb r13l r13h r15l r15h r16l r16h r17l r17h l a0 5 [some q1] a v) : a = ((((((a0.put (some 55) (.agg #[.float .f64 r13l, .float .f64 r13h])).put (some 56) (.agg #[.float .f64 4616189618054758400, .float .f64 4616189618054758400])).put (some 58) (.agg #[.float .f64 r15l, .float .f64 r15h])).put (some 59) (.agg #[.float .f64 r16l, .float .f64 r16h])).put (some 60) (.agg #[.float .f64 r17l, .float .f64 r17h])).put (some 15) (.pointer (some ⟨q1, 0, none⟩))) ∧ OwnF w ((pb, #[.int .i64 0]) :: l) [#[.float .f64 0, .float .f64 0]] [some q1] v := by
  obtain ⟨y1, y2, y3, y4, y5, z1, ha, E1, E2, E3, E4, E5, G1, h⟩ := h
  obtain rfl := E1 (by decide)
  obtain rfl := E2 (by decide)
  obtain rfl := E3 (by decide)
  obtain rfl := E4 (by decide)
  obtain rfl := E5 (by decide)
  obtain rfl := G1 _ rfl
  exact ⟨ha, h⟩
end

/-- Region 11: the calls done so far, and the blocks made so far. -/
def condJ11 (w : World) (pb : Nat) (r18l r18h r20l r20h r21l r21h r22l r22h : Nat) (l : RowL) (a0 : Act) (k : Nat) (p : List (Option Nat)) (a : Act) (v : World) : Prop :=
  ∃ y1 y2 y3 y4 y5 z1 : Value, a = ((((((a0.put (some 64) y1).put (some 65) y2).put (some 66) y3).put (some 67) y4).put (some 68) y5).put (some 16) z1) ∧ (0 < k → y1 = .agg #[.float .f64 r18l, .float .f64 r18h]) ∧ (1 < k → y2 = .agg #[.float .f64 0, .float .f64 0]) ∧ (2 < k → y3 = .agg #[.float .f64 r20l, .float .f64 r20h]) ∧ (3 < k → y4 = .agg #[.float .f64 r21l, .float .f64 r21h]) ∧ (4 < k → y5 = .agg #[.float .f64 r22l, .float .f64 r22h]) ∧ (∀ q, p[0]? = some (some q) → z1 = .pointer (some ⟨q, 0, none⟩)) ∧ OwnF w ((pb, #[.int .i64 0]) :: l) [#[.float .f64 0, .float .f64 0]] p v
section
variable {w v : World} {pb : Nat} {r18l r18h r20l r20h r21l r21h r22l r22h : Nat} {l : RowL} {a0 a : Act} {p : List (Option Nat)}
theorem condJ11_0 (h : condJ11 w pb r18l r18h r20l r20h r21l r21h r22l r22h l a0 0 p a v) : ∃ y1 y2 y3 y4 y5 z1 : Value, a = ((((((a0.put (some 64) y1).put (some 65) y2).put (some 66) y3).put (some 67) y4).put (some 68) y5).put (some 16) z1) ∧ (∀ q, p[0]? = some (some q) → z1 = .pointer (some ⟨q, 0, none⟩)) ∧ OwnF w ((pb, #[.int .i64 0]) :: l) [#[.float .f64 0, .float .f64 0]] p v := by
  obtain ⟨y1, y2, y3, y4, y5, z1, ha, E1, E2, E3, E4, E5, G1, h⟩ := h
  exact ⟨y1, y2, y3, y4, y5, z1, ha, G1, h⟩
theorem condJ11_1 (h : condJ11 w pb r18l r18h r20l r20h r21l r21h r22l r22h l a0 1 p a v) : ∃ y2 y3 y4 y5 z1 : Value, a = ((((((a0.put (some 64) (.agg #[.float .f64 r18l, .float .f64 r18h])).put (some 65) y2).put (some 66) y3).put (some 67) y4).put (some 68) y5).put (some 16) z1) ∧ (∀ q, p[0]? = some (some q) → z1 = .pointer (some ⟨q, 0, none⟩)) ∧ OwnF w ((pb, #[.int .i64 0]) :: l) [#[.float .f64 0, .float .f64 0]] p v := by
  obtain ⟨y1, y2, y3, y4, y5, z1, ha, E1, E2, E3, E4, E5, G1, h⟩ := h
  obtain rfl := E1 (by decide)
  exact ⟨y2, y3, y4, y5, z1, ha, G1, h⟩
theorem condJ11_2 (h : condJ11 w pb r18l r18h r20l r20h r21l r21h r22l r22h l a0 2 p a v) : ∃ y3 y4 y5 z1 : Value, a = ((((((a0.put (some 64) (.agg #[.float .f64 r18l, .float .f64 r18h])).put (some 65) (.agg #[.float .f64 0, .float .f64 0])).put (some 66) y3).put (some 67) y4).put (some 68) y5).put (some 16) z1) ∧ (∀ q, p[0]? = some (some q) → z1 = .pointer (some ⟨q, 0, none⟩)) ∧ OwnF w ((pb, #[.int .i64 0]) :: l) [#[.float .f64 0, .float .f64 0]] p v := by
  obtain ⟨y1, y2, y3, y4, y5, z1, ha, E1, E2, E3, E4, E5, G1, h⟩ := h
  obtain rfl := E1 (by decide)
  obtain rfl := E2 (by decide)
  exact ⟨y3, y4, y5, z1, ha, G1, h⟩
theorem condJ11_3 (h : condJ11 w pb r18l r18h r20l r20h r21l r21h r22l r22h l a0 3 p a v) : ∃ y4 y5 z1 : Value, a = ((((((a0.put (some 64) (.agg #[.float .f64 r18l, .float .f64 r18h])).put (some 65) (.agg #[.float .f64 0, .float .f64 0])).put (some 66) (.agg #[.float .f64 r20l, .float .f64 r20h])).put (some 67) y4).put (some 68) y5).put (some 16) z1) ∧ (∀ q, p[0]? = some (some q) → z1 = .pointer (some ⟨q, 0, none⟩)) ∧ OwnF w ((pb, #[.int .i64 0]) :: l) [#[.float .f64 0, .float .f64 0]] p v := by
  obtain ⟨y1, y2, y3, y4, y5, z1, ha, E1, E2, E3, E4, E5, G1, h⟩ := h
  obtain rfl := E1 (by decide)
  obtain rfl := E2 (by decide)
  obtain rfl := E3 (by decide)
  exact ⟨y4, y5, z1, ha, G1, h⟩
theorem condJ11_4 (h : condJ11 w pb r18l r18h r20l r20h r21l r21h r22l r22h l a0 4 p a v) : ∃ y5 z1 : Value, a = ((((((a0.put (some 64) (.agg #[.float .f64 r18l, .float .f64 r18h])).put (some 65) (.agg #[.float .f64 0, .float .f64 0])).put (some 66) (.agg #[.float .f64 r20l, .float .f64 r20h])).put (some 67) (.agg #[.float .f64 r21l, .float .f64 r21h])).put (some 68) y5).put (some 16) z1) ∧ (∀ q, p[0]? = some (some q) → z1 = .pointer (some ⟨q, 0, none⟩)) ∧ OwnF w ((pb, #[.int .i64 0]) :: l) [#[.float .f64 0, .float .f64 0]] p v := by
  obtain ⟨y1, y2, y3, y4, y5, z1, ha, E1, E2, E3, E4, E5, G1, h⟩ := h
  obtain rfl := E1 (by decide)
  obtain rfl := E2 (by decide)
  obtain rfl := E3 (by decide)
  obtain rfl := E4 (by decide)
  exact ⟨y5, z1, ha, G1, h⟩
theorem condJ11_fin {q1 : Nat} (h : condJ11 w pb r18l r18h r20l r20h r21l r21h r22l r22h l a0 5 [some q1] a v) : a = ((((((a0.put (some 64) (.agg #[.float .f64 r18l, .float .f64 r18h])).put (some 65) (.agg #[.float .f64 0, .float .f64 0])).put (some 66) (.agg #[.float .f64 r20l, .float .f64 r20h])).put (some 67) (.agg #[.float .f64 r21l, .float .f64 r21h])).put (some 68) (.agg #[.float .f64 r22l, .float .f64 r22h])).put (some 16) (.pointer (some ⟨q1, 0, none⟩))) ∧ OwnF w ((pb, #[.int .i64 0]) :: l) [#[.float .f64 0, .float .f64 0]] [some q1] v := by
  obtain ⟨y1, y2, y3, y4, y5, z1, ha, E1, E2, E3, E4, E5, G1, h⟩ := h
  obtain rfl := E1 (by decide)
  obtain rfl := E2 (by decide)
  obtain rfl := E3 (by decide)
  obtain rfl := E4 (by decide)
  obtain rfl := E5 (by decide)
  obtain rfl := G1 _ rfl
  exact ⟨ha, h⟩
end

/-- Region 13: the calls done so far, and the blocks made so far. -/
def condJ13 (w : World) (pb : Nat) (r25l r25h r26l r26h : Nat) (l : RowL) (a0 : Act) (k : Nat) (p : List (Option Nat)) (a : Act) (v : World) : Prop :=
  ∃ y1 y2 y3 z1 : Value, a = ((((a0.put (some 72) y1).put (some 74) y2).put (some 76) y3).put (some 18) z1) ∧ (0 < k → y1 = .agg #[.float .f64 4611686018427387904, .float .f64 4611686018427387904]) ∧ (1 < k → y2 = .agg #[.float .f64 r25l, .float .f64 r25h]) ∧ (2 < k → y3 = .agg #[.float .f64 r26l, .float .f64 r26h]) ∧ (∀ q, p[0]? = some (some q) → z1 = .pointer (some ⟨q, 0, none⟩)) ∧ OwnF w ((pb, #[.int .i64 0]) :: l) [#[.float .f64 0, .float .f64 0]] p v
section
variable {w v : World} {pb : Nat} {r25l r25h r26l r26h : Nat} {l : RowL} {a0 a : Act} {p : List (Option Nat)}
theorem condJ13_0 (h : condJ13 w pb r25l r25h r26l r26h l a0 0 p a v) : ∃ y1 y2 y3 z1 : Value, a = ((((a0.put (some 72) y1).put (some 74) y2).put (some 76) y3).put (some 18) z1) ∧ (∀ q, p[0]? = some (some q) → z1 = .pointer (some ⟨q, 0, none⟩)) ∧ OwnF w ((pb, #[.int .i64 0]) :: l) [#[.float .f64 0, .float .f64 0]] p v := by
  obtain ⟨y1, y2, y3, z1, ha, E1, E2, E3, G1, h⟩ := h
  exact ⟨y1, y2, y3, z1, ha, G1, h⟩
theorem condJ13_1 (h : condJ13 w pb r25l r25h r26l r26h l a0 1 p a v) : ∃ y2 y3 z1 : Value, a = ((((a0.put (some 72) (.agg #[.float .f64 4611686018427387904, .float .f64 4611686018427387904])).put (some 74) y2).put (some 76) y3).put (some 18) z1) ∧ (∀ q, p[0]? = some (some q) → z1 = .pointer (some ⟨q, 0, none⟩)) ∧ OwnF w ((pb, #[.int .i64 0]) :: l) [#[.float .f64 0, .float .f64 0]] p v := by
  obtain ⟨y1, y2, y3, z1, ha, E1, E2, E3, G1, h⟩ := h
  obtain rfl := E1 (by decide)
  exact ⟨y2, y3, z1, ha, G1, h⟩
theorem condJ13_2 (h : condJ13 w pb r25l r25h r26l r26h l a0 2 p a v) : ∃ y3 z1 : Value, a = ((((a0.put (some 72) (.agg #[.float .f64 4611686018427387904, .float .f64 4611686018427387904])).put (some 74) (.agg #[.float .f64 r25l, .float .f64 r25h])).put (some 76) y3).put (some 18) z1) ∧ (∀ q, p[0]? = some (some q) → z1 = .pointer (some ⟨q, 0, none⟩)) ∧ OwnF w ((pb, #[.int .i64 0]) :: l) [#[.float .f64 0, .float .f64 0]] p v := by
  obtain ⟨y1, y2, y3, z1, ha, E1, E2, E3, G1, h⟩ := h
  obtain rfl := E1 (by decide)
  obtain rfl := E2 (by decide)
  exact ⟨y3, z1, ha, G1, h⟩
theorem condJ13_fin {q1 : Nat} (h : condJ13 w pb r25l r25h r26l r26h l a0 3 [some q1] a v) : a = ((((a0.put (some 72) (.agg #[.float .f64 4611686018427387904, .float .f64 4611686018427387904])).put (some 74) (.agg #[.float .f64 r25l, .float .f64 r25h])).put (some 76) (.agg #[.float .f64 r26l, .float .f64 r26h])).put (some 18) (.pointer (some ⟨q1, 0, none⟩))) ∧ OwnF w ((pb, #[.int .i64 0]) :: l) [#[.float .f64 0, .float .f64 0]] [some q1] v := by
  obtain ⟨y1, y2, y3, z1, ha, E1, E2, E3, G1, h⟩ := h
  obtain rfl := E1 (by decide)
  obtain rfl := E2 (by decide)
  obtain rfl := E3 (by decide)
  obtain rfl := G1 _ rfl
  exact ⟨ha, h⟩
end

/-- Region 15: the calls done so far, and the blocks made so far. -/
def condJ15 (w : World) (pb : Nat) (r29l r29h r30l r30h r31l r31h : Nat) (l : RowL) (a0 : Act) (k : Nat) (p : List (Option Nat)) (a : Act) (v : World) : Prop :=
  ∃ y1 y2 y3 z1 : Value, a = ((((a0.put (some 83) y1).put (some 85) y2).put (some 86) y3).put (some 20) z1) ∧ (0 < k → y1 = .agg #[.float .f64 r29l, .float .f64 r29h]) ∧ (1 < k → y2 = .agg #[.float .f64 r30l, .float .f64 r30h]) ∧ (2 < k → y3 = .agg #[.float .f64 r31l, .float .f64 r31h]) ∧ (∀ q, p[0]? = some (some q) → z1 = .pointer (some ⟨q, 0, none⟩)) ∧ OwnF w ((pb, #[.int .i64 0]) :: l) [#[.float .f64 0, .float .f64 0]] p v
section
variable {w v : World} {pb : Nat} {r29l r29h r30l r30h r31l r31h : Nat} {l : RowL} {a0 a : Act} {p : List (Option Nat)}
theorem condJ15_0 (h : condJ15 w pb r29l r29h r30l r30h r31l r31h l a0 0 p a v) : ∃ y1 y2 y3 z1 : Value, a = ((((a0.put (some 83) y1).put (some 85) y2).put (some 86) y3).put (some 20) z1) ∧ (∀ q, p[0]? = some (some q) → z1 = .pointer (some ⟨q, 0, none⟩)) ∧ OwnF w ((pb, #[.int .i64 0]) :: l) [#[.float .f64 0, .float .f64 0]] p v := by
  obtain ⟨y1, y2, y3, z1, ha, E1, E2, E3, G1, h⟩ := h
  exact ⟨y1, y2, y3, z1, ha, G1, h⟩
theorem condJ15_1 (h : condJ15 w pb r29l r29h r30l r30h r31l r31h l a0 1 p a v) : ∃ y2 y3 z1 : Value, a = ((((a0.put (some 83) (.agg #[.float .f64 r29l, .float .f64 r29h])).put (some 85) y2).put (some 86) y3).put (some 20) z1) ∧ (∀ q, p[0]? = some (some q) → z1 = .pointer (some ⟨q, 0, none⟩)) ∧ OwnF w ((pb, #[.int .i64 0]) :: l) [#[.float .f64 0, .float .f64 0]] p v := by
  obtain ⟨y1, y2, y3, z1, ha, E1, E2, E3, G1, h⟩ := h
  obtain rfl := E1 (by decide)
  exact ⟨y2, y3, z1, ha, G1, h⟩
theorem condJ15_2 (h : condJ15 w pb r29l r29h r30l r30h r31l r31h l a0 2 p a v) : ∃ y3 z1 : Value, a = ((((a0.put (some 83) (.agg #[.float .f64 r29l, .float .f64 r29h])).put (some 85) (.agg #[.float .f64 r30l, .float .f64 r30h])).put (some 86) y3).put (some 20) z1) ∧ (∀ q, p[0]? = some (some q) → z1 = .pointer (some ⟨q, 0, none⟩)) ∧ OwnF w ((pb, #[.int .i64 0]) :: l) [#[.float .f64 0, .float .f64 0]] p v := by
  obtain ⟨y1, y2, y3, z1, ha, E1, E2, E3, G1, h⟩ := h
  obtain rfl := E1 (by decide)
  obtain rfl := E2 (by decide)
  exact ⟨y3, z1, ha, G1, h⟩
theorem condJ15_fin {q1 : Nat} (h : condJ15 w pb r29l r29h r30l r30h r31l r31h l a0 3 [some q1] a v) : a = ((((a0.put (some 83) (.agg #[.float .f64 r29l, .float .f64 r29h])).put (some 85) (.agg #[.float .f64 r30l, .float .f64 r30h])).put (some 86) (.agg #[.float .f64 r31l, .float .f64 r31h])).put (some 20) (.pointer (some ⟨q1, 0, none⟩))) ∧ OwnF w ((pb, #[.int .i64 0]) :: l) [#[.float .f64 0, .float .f64 0]] [some q1] v := by
  obtain ⟨y1, y2, y3, z1, ha, E1, E2, E3, G1, h⟩ := h
  obtain rfl := E1 (by decide)
  obtain rfl := E2 (by decide)
  obtain rfl := E3 (by decide)
  obtain rfl := G1 _ rfl
  exact ⟨ha, h⟩
end

/-- Region 17: the calls done so far, and the blocks made so far. -/
def condJ17 (w : World) (pb : Nat) (r33l r33h r34l r34h r35l r35h : Nat) (ek : Nat → Int) (l : RowL) (a0 : Act) (k : Nat) (p : List (Option Nat)) (a : Act) (v : World) : Prop :=
  ∃ y1 y2 y3 z1 : Value, a = ((((a0.put (some 93) y1).put (some 94) y2).put (some 95) y3).put (some 22) z1) ∧ (0 < k → y1 = .agg #[.float .f64 r33l, .float .f64 r33h]) ∧ (1 < k → y2 = .agg #[.float .f64 r34l, .float .f64 r34h]) ∧ (2 < k → y3 = .agg #[.float .f64 r35l, .float .f64 r35h]) ∧ (∀ q, p[0]? = some (some q) → z1 = .pointer (some ⟨q, 0, none⟩)) ∧ OwnF w ((pb, #[.int .i64 (ek k)]) :: l) [#[.float .f64 0, .float .f64 0]] p v
section
variable {w v : World} {pb : Nat} {r33l r33h r34l r34h r35l r35h : Nat} {ek : Nat → Int} {l : RowL} {a0 a : Act} {p : List (Option Nat)}
theorem condJ17_0 (h : condJ17 w pb r33l r33h r34l r34h r35l r35h ek l a0 0 p a v) : ∃ y1 y2 y3 z1 : Value, a = ((((a0.put (some 93) y1).put (some 94) y2).put (some 95) y3).put (some 22) z1) ∧ (∀ q, p[0]? = some (some q) → z1 = .pointer (some ⟨q, 0, none⟩)) ∧ OwnF w ((pb, #[.int .i64 (ek 0)]) :: l) [#[.float .f64 0, .float .f64 0]] p v := by
  obtain ⟨y1, y2, y3, z1, ha, E1, E2, E3, G1, h⟩ := h
  exact ⟨y1, y2, y3, z1, ha, G1, h⟩
theorem condJ17_1 (h : condJ17 w pb r33l r33h r34l r34h r35l r35h ek l a0 1 p a v) : ∃ y2 y3 z1 : Value, a = ((((a0.put (some 93) (.agg #[.float .f64 r33l, .float .f64 r33h])).put (some 94) y2).put (some 95) y3).put (some 22) z1) ∧ (∀ q, p[0]? = some (some q) → z1 = .pointer (some ⟨q, 0, none⟩)) ∧ OwnF w ((pb, #[.int .i64 (ek 1)]) :: l) [#[.float .f64 0, .float .f64 0]] p v := by
  obtain ⟨y1, y2, y3, z1, ha, E1, E2, E3, G1, h⟩ := h
  obtain rfl := E1 (by decide)
  exact ⟨y2, y3, z1, ha, G1, h⟩
theorem condJ17_2 (h : condJ17 w pb r33l r33h r34l r34h r35l r35h ek l a0 2 p a v) : ∃ y3 z1 : Value, a = ((((a0.put (some 93) (.agg #[.float .f64 r33l, .float .f64 r33h])).put (some 94) (.agg #[.float .f64 r34l, .float .f64 r34h])).put (some 95) y3).put (some 22) z1) ∧ (∀ q, p[0]? = some (some q) → z1 = .pointer (some ⟨q, 0, none⟩)) ∧ OwnF w ((pb, #[.int .i64 (ek 2)]) :: l) [#[.float .f64 0, .float .f64 0]] p v := by
  obtain ⟨y1, y2, y3, z1, ha, E1, E2, E3, G1, h⟩ := h
  obtain rfl := E1 (by decide)
  obtain rfl := E2 (by decide)
  exact ⟨y3, z1, ha, G1, h⟩
theorem condJ17_fin {q1 : Nat} (h : condJ17 w pb r33l r33h r34l r34h r35l r35h ek l a0 3 [some q1] a v) : a = ((((a0.put (some 93) (.agg #[.float .f64 r33l, .float .f64 r33h])).put (some 94) (.agg #[.float .f64 r34l, .float .f64 r34h])).put (some 95) (.agg #[.float .f64 r35l, .float .f64 r35h])).put (some 22) (.pointer (some ⟨q1, 0, none⟩))) ∧ OwnF w ((pb, #[.int .i64 (ek 3)]) :: l) [#[.float .f64 0, .float .f64 0]] [some q1] v := by
  obtain ⟨y1, y2, y3, z1, ha, E1, E2, E3, G1, h⟩ := h
  obtain rfl := E1 (by decide)
  obtain rfl := E2 (by decide)
  obtain rfl := E3 (by decide)
  obtain rfl := G1 _ rfl
  exact ⟨ha, h⟩
end

/-- Region 18: the calls done so far, and the blocks made so far. -/
def condJ18 (w : World) (pb : Nat) (r36l r36h r37l r37h : Nat) (e : Int) (l : RowL) (a0 : Act) (k : Nat) (p : List (Option Nat)) (a : Act) (v : World) : Prop :=
  ∃ y1 y2 y3 : Value, a = (((a0.put (some 99) y1).put (some 100) y2).put (some 101) y3) ∧ (0 < k → y1 = .agg #[.float .f64 r36l, .float .f64 r36h]) ∧ (1 < k → y2 = .agg #[.float .f64 r37l, .float .f64 r37h]) ∧ (2 < k → y3 = .int .i64 e) ∧ OwnF w ((pb, #[.int .i64 e]) :: l) [] p v
section
variable {w v : World} {pb : Nat} {r36l r36h r37l r37h : Nat} {e : Int} {l : RowL} {a0 a : Act} {p : List (Option Nat)}
theorem condJ18_0 (h : condJ18 w pb r36l r36h r37l r37h e l a0 0 p a v) : ∃ y1 y2 y3 : Value, a = (((a0.put (some 99) y1).put (some 100) y2).put (some 101) y3) ∧ OwnF w ((pb, #[.int .i64 e]) :: l) [] p v := by
  obtain ⟨y1, y2, y3, ha, E1, E2, E3, h⟩ := h
  exact ⟨y1, y2, y3, ha, h⟩
theorem condJ18_1 (h : condJ18 w pb r36l r36h r37l r37h e l a0 1 p a v) : ∃ y2 y3 : Value, a = (((a0.put (some 99) (.agg #[.float .f64 r36l, .float .f64 r36h])).put (some 100) y2).put (some 101) y3) ∧ OwnF w ((pb, #[.int .i64 e]) :: l) [] p v := by
  obtain ⟨y1, y2, y3, ha, E1, E2, E3, h⟩ := h
  obtain rfl := E1 (by decide)
  exact ⟨y2, y3, ha, h⟩
theorem condJ18_2 (h : condJ18 w pb r36l r36h r37l r37h e l a0 2 p a v) : ∃ y3 : Value, a = (((a0.put (some 99) (.agg #[.float .f64 r36l, .float .f64 r36h])).put (some 100) (.agg #[.float .f64 r37l, .float .f64 r37h])).put (some 101) y3) ∧ OwnF w ((pb, #[.int .i64 e]) :: l) [] p v := by
  obtain ⟨y1, y2, y3, ha, E1, E2, E3, h⟩ := h
  obtain rfl := E1 (by decide)
  obtain rfl := E2 (by decide)
  exact ⟨y3, ha, h⟩
theorem condJ18_fin (h : condJ18 w pb r36l r36h r37l r37h e l a0 3 [] a v) : a = (((a0.put (some 99) (.agg #[.float .f64 r36l, .float .f64 r36h])).put (some 100) (.agg #[.float .f64 r37l, .float .f64 r37h])).put (some 101) (.int .i64 e)) ∧ OwnF w ((pb, #[.int .i64 e]) :: l) [] [] v := by
  obtain ⟨y1, y2, y3, ha, E1, E2, E3, h⟩ := h
  obtain rfl := E1 (by decide)
  obtain rfl := E2 (by decide)
  obtain rfl := E3 (by decide)
  exact ⟨ha, h⟩
end

end Go.Proofs.Ytdppppaoflhgdaa
