
/- FresnelWithin: the law's walk. -/
import Derived.Test.YtcfgahlaiiibiaaFwA
import Derived.Deep.RegionHeld3
namespace Go.Proofs.Ytcfgahlaiiibiaa
open Go.RowKit
attribute [local go_sem] run_store_float

/-- Region 2. -/
def fwJ2 (w : World) (cl ch nl nh : Nat) (l : RowL) (a0 : Act) (k : Nat) (p : List (Option Nat)) (a : Act) (v : World) : Prop :=
  ∃ y1 y2 z1 z2 : Value, a = ((((a0.put (some 23) y1).put (some 28) y2).put (some 6) z1).put (some 7) z2) ∧ (0 < k → y1 = .agg #[.float .f64 cl, .float .f64 ch]) ∧ (1 < k → y2 = .agg #[.float .f64 nl, .float .f64 nh]) ∧ (∀ q, p[0]? = some (some q) → z1 = .pointer (some ⟨q, 0, none⟩)) ∧ (∀ q, p[1]? = some (some q) → z2 = .pointer (some ⟨q, 0, none⟩)) ∧ OwnF w l [#[.float .f64 0, .float .f64 0], #[.float .f64 0, .float .f64 0]] p v
section
variable {w v : World} {cl ch nl nh : Nat} {l : RowL} {a0 a : Act} {p : List (Option Nat)}
theorem fwJ2_0 (h : fwJ2 w cl ch nl nh l a0 0 p a v) : ∃ y1 y2 z1 z2 : Value, a = ((((a0.put (some 23) y1).put (some 28) y2).put (some 6) z1).put (some 7) z2) ∧ (∀ q, p[0]? = some (some q) → z1 = .pointer (some ⟨q, 0, none⟩)) ∧ (∀ q, p[1]? = some (some q) → z2 = .pointer (some ⟨q, 0, none⟩)) ∧ OwnF w l [#[.float .f64 0, .float .f64 0], #[.float .f64 0, .float .f64 0]] p v := by
  obtain ⟨y1, y2, z1, z2, ha, E1, E2, G1, G2, h⟩ := h
  exact ⟨y1, y2, z1, z2, ha, G1, G2, h⟩
theorem fwJ2_1 (h : fwJ2 w cl ch nl nh l a0 1 p a v) : ∃ y2 z1 z2 : Value, a = ((((a0.put (some 23) (.agg #[.float .f64 cl, .float .f64 ch])).put (some 28) y2).put (some 6) z1).put (some 7) z2) ∧ (∀ q, p[0]? = some (some q) → z1 = .pointer (some ⟨q, 0, none⟩)) ∧ (∀ q, p[1]? = some (some q) → z2 = .pointer (some ⟨q, 0, none⟩)) ∧ OwnF w l [#[.float .f64 0, .float .f64 0], #[.float .f64 0, .float .f64 0]] p v := by
  obtain ⟨y1, y2, z1, z2, ha, E1, E2, G1, G2, h⟩ := h
  obtain rfl := E1 (by decide)
  exact ⟨y2, z1, z2, ha, G1, G2, h⟩
theorem fwJ2_fin {q1 q2 : Nat} (h : fwJ2 w cl ch nl nh l a0 2 [some q1, some q2] a v) : a = ((((a0.put (some 23) (.agg #[.float .f64 cl, .float .f64 ch])).put (some 28) (.agg #[.float .f64 nl, .float .f64 nh])).put (some 6) (.pointer (some ⟨q1, 0, none⟩))).put (some 7) (.pointer (some ⟨q2, 0, none⟩))) ∧ OwnF w l [#[.float .f64 0, .float .f64 0], #[.float .f64 0, .float .f64 0]] [some q1, some q2] v := by
  obtain ⟨y1, y2, z1, z2, ha, E1, E2, G1, G2, h⟩ := h
  obtain rfl := E1 (by decide)
  obtain rfl := E2 (by decide)
  obtain rfl := G1 _ rfl
  obtain rfl := G2 _ rfl
  exact ⟨ha, h⟩
end

/-- Region 3. -/
def fwJ3 (w : World) (el eh kl kh : Nat) (l : RowL) (a0 : Act) (k : Nat) (p : List (Option Nat)) (a : Act) (v : World) : Prop :=
  ∃ y1 y2 z1 z2 : Value, a = ((((a0.put (some 33) y1).put (some 38) y2).put (some 8) z1).put (some 9) z2) ∧ (0 < k → y1 = .agg #[.float .f64 el, .float .f64 eh]) ∧ (1 < k → y2 = .agg #[.float .f64 kl, .float .f64 kh]) ∧ (∀ q, p[0]? = some (some q) → z1 = .pointer (some ⟨q, 0, none⟩)) ∧ (∀ q, p[1]? = some (some q) → z2 = .pointer (some ⟨q, 0, none⟩)) ∧ OwnF w l [#[.float .f64 0, .float .f64 0], #[.float .f64 0, .float .f64 0]] p v
section
variable {w v : World} {el eh kl kh : Nat} {l : RowL} {a0 a : Act} {p : List (Option Nat)}
theorem fwJ3_0 (h : fwJ3 w el eh kl kh l a0 0 p a v) : ∃ y1 y2 z1 z2 : Value, a = ((((a0.put (some 33) y1).put (some 38) y2).put (some 8) z1).put (some 9) z2) ∧ (∀ q, p[0]? = some (some q) → z1 = .pointer (some ⟨q, 0, none⟩)) ∧ (∀ q, p[1]? = some (some q) → z2 = .pointer (some ⟨q, 0, none⟩)) ∧ OwnF w l [#[.float .f64 0, .float .f64 0], #[.float .f64 0, .float .f64 0]] p v := by
  obtain ⟨y1, y2, z1, z2, ha, E1, E2, G1, G2, h⟩ := h
  exact ⟨y1, y2, z1, z2, ha, G1, G2, h⟩
theorem fwJ3_1 (h : fwJ3 w el eh kl kh l a0 1 p a v) : ∃ y2 z1 z2 : Value, a = ((((a0.put (some 33) (.agg #[.float .f64 el, .float .f64 eh])).put (some 38) y2).put (some 8) z1).put (some 9) z2) ∧ (∀ q, p[0]? = some (some q) → z1 = .pointer (some ⟨q, 0, none⟩)) ∧ (∀ q, p[1]? = some (some q) → z2 = .pointer (some ⟨q, 0, none⟩)) ∧ OwnF w l [#[.float .f64 0, .float .f64 0], #[.float .f64 0, .float .f64 0]] p v := by
  obtain ⟨y1, y2, z1, z2, ha, E1, E2, G1, G2, h⟩ := h
  obtain rfl := E1 (by decide)
  exact ⟨y2, z1, z2, ha, G1, G2, h⟩
theorem fwJ3_fin {q1 q2 : Nat} (h : fwJ3 w el eh kl kh l a0 2 [some q1, some q2] a v) : a = ((((a0.put (some 33) (.agg #[.float .f64 el, .float .f64 eh])).put (some 38) (.agg #[.float .f64 kl, .float .f64 kh])).put (some 8) (.pointer (some ⟨q1, 0, none⟩))).put (some 9) (.pointer (some ⟨q2, 0, none⟩))) ∧ OwnF w l [#[.float .f64 0, .float .f64 0], #[.float .f64 0, .float .f64 0]] [some q1, some q2] v := by
  obtain ⟨y1, y2, z1, z2, ha, E1, E2, G1, G2, h⟩ := h
  obtain rfl := E1 (by decide)
  obtain rfl := E2 (by decide)
  obtain rfl := G1 _ rfl
  obtain rfl := G2 _ rfl
  exact ⟨ha, h⟩
end

/-- Region 5. -/
def fwJ5 (w : World) (cil cih nil nih yl yh : Nat) (l : RowL) (a0 : Act) (k : Nat) (p : List (Option Nat)) (a : Act) (v : World) : Prop :=
  ∃ y1 y2 y3 y4 y5 y6 z1 : Value, a = (((((((a0.put (some 48) y1).put (some 51) y2).put (some 52) y3).put (some 45) y4).put (some 53) y5).put (some 54) y6).put (some 12) z1) ∧ (0 < k → y1 = .agg #[.float .f64 cil, .float .f64 cih]) ∧ (1 < k → y2 = .agg #[.float .f64 nil, .float .f64 nih]) ∧ (2 < k → y3 = .tuple #[.agg #[.float .f64 yl, .float .f64 yh], .int .i64 0]) ∧ (3 < k → y4 = .tuple #[.agg #[.float .f64 yl, .float .f64 yh], .int .i64 0]) ∧ (4 < k → y5 = .agg #[.float .f64 yl, .float .f64 yh]) ∧ (5 < k → y6 = .int .i64 0) ∧ (∀ q, p[0]? = some (some q) → z1 = .pointer (some ⟨q, 0, none⟩)) ∧ OwnF w l [#[.float .f64 0, .float .f64 0]] p v
section
variable {w v : World} {cil cih nil nih yl yh : Nat} {l : RowL} {a0 a : Act} {p : List (Option Nat)}
theorem fwJ5_0 (h : fwJ5 w cil cih nil nih yl yh l a0 0 p a v) : ∃ y1 y2 y3 y4 y5 y6 z1 : Value, a = (((((((a0.put (some 48) y1).put (some 51) y2).put (some 52) y3).put (some 45) y4).put (some 53) y5).put (some 54) y6).put (some 12) z1) ∧ (∀ q, p[0]? = some (some q) → z1 = .pointer (some ⟨q, 0, none⟩)) ∧ OwnF w l [#[.float .f64 0, .float .f64 0]] p v := by
  obtain ⟨y1, y2, y3, y4, y5, y6, z1, ha, E1, E2, E3, E4, E5, E6, G1, h⟩ := h
  exact ⟨y1, y2, y3, y4, y5, y6, z1, ha, G1, h⟩
theorem fwJ5_1 (h : fwJ5 w cil cih nil nih yl yh l a0 1 p a v) : ∃ y2 y3 y4 y5 y6 z1 : Value, a = (((((((a0.put (some 48) (.agg #[.float .f64 cil, .float .f64 cih])).put (some 51) y2).put (some 52) y3).put (some 45) y4).put (some 53) y5).put (some 54) y6).put (some 12) z1) ∧ (∀ q, p[0]? = some (some q) → z1 = .pointer (some ⟨q, 0, none⟩)) ∧ OwnF w l [#[.float .f64 0, .float .f64 0]] p v := by
  obtain ⟨y1, y2, y3, y4, y5, y6, z1, ha, E1, E2, E3, E4, E5, E6, G1, h⟩ := h
  obtain rfl := E1 (by decide)
  exact ⟨y2, y3, y4, y5, y6, z1, ha, G1, h⟩
theorem fwJ5_2 (h : fwJ5 w cil cih nil nih yl yh l a0 2 p a v) : ∃ y3 y4 y5 y6 z1 : Value, a = (((((((a0.put (some 48) (.agg #[.float .f64 cil, .float .f64 cih])).put (some 51) (.agg #[.float .f64 nil, .float .f64 nih])).put (some 52) y3).put (some 45) y4).put (some 53) y5).put (some 54) y6).put (some 12) z1) ∧ (∀ q, p[0]? = some (some q) → z1 = .pointer (some ⟨q, 0, none⟩)) ∧ OwnF w l [#[.float .f64 0, .float .f64 0]] p v := by
  obtain ⟨y1, y2, y3, y4, y5, y6, z1, ha, E1, E2, E3, E4, E5, E6, G1, h⟩ := h
  obtain rfl := E1 (by decide)
  obtain rfl := E2 (by decide)
  exact ⟨y3, y4, y5, y6, z1, ha, G1, h⟩
theorem fwJ5_3 (h : fwJ5 w cil cih nil nih yl yh l a0 3 p a v) : ∃ y4 y5 y6 z1 : Value, a = (((((((a0.put (some 48) (.agg #[.float .f64 cil, .float .f64 cih])).put (some 51) (.agg #[.float .f64 nil, .float .f64 nih])).put (some 52) (.tuple #[.agg #[.float .f64 yl, .float .f64 yh], .int .i64 0])).put (some 45) y4).put (some 53) y5).put (some 54) y6).put (some 12) z1) ∧ (∀ q, p[0]? = some (some q) → z1 = .pointer (some ⟨q, 0, none⟩)) ∧ OwnF w l [#[.float .f64 0, .float .f64 0]] p v := by
  obtain ⟨y1, y2, y3, y4, y5, y6, z1, ha, E1, E2, E3, E4, E5, E6, G1, h⟩ := h
  obtain rfl := E1 (by decide)
  obtain rfl := E2 (by decide)
  obtain rfl := E3 (by decide)
  exact ⟨y4, y5, y6, z1, ha, G1, h⟩
theorem fwJ5_4 (h : fwJ5 w cil cih nil nih yl yh l a0 4 p a v) : ∃ y5 y6 z1 : Value, a = (((((((a0.put (some 48) (.agg #[.float .f64 cil, .float .f64 cih])).put (some 51) (.agg #[.float .f64 nil, .float .f64 nih])).put (some 52) (.tuple #[.agg #[.float .f64 yl, .float .f64 yh], .int .i64 0])).put (some 45) (.tuple #[.agg #[.float .f64 yl, .float .f64 yh], .int .i64 0])).put (some 53) y5).put (some 54) y6).put (some 12) z1) ∧ (∀ q, p[0]? = some (some q) → z1 = .pointer (some ⟨q, 0, none⟩)) ∧ OwnF w l [#[.float .f64 0, .float .f64 0]] p v := by
  obtain ⟨y1, y2, y3, y4, y5, y6, z1, ha, E1, E2, E3, E4, E5, E6, G1, h⟩ := h
  obtain rfl := E1 (by decide)
  obtain rfl := E2 (by decide)
  obtain rfl := E3 (by decide)
  obtain rfl := E4 (by decide)
  exact ⟨y5, y6, z1, ha, G1, h⟩
theorem fwJ5_5 (h : fwJ5 w cil cih nil nih yl yh l a0 5 p a v) : ∃ y6 z1 : Value, a = (((((((a0.put (some 48) (.agg #[.float .f64 cil, .float .f64 cih])).put (some 51) (.agg #[.float .f64 nil, .float .f64 nih])).put (some 52) (.tuple #[.agg #[.float .f64 yl, .float .f64 yh], .int .i64 0])).put (some 45) (.tuple #[.agg #[.float .f64 yl, .float .f64 yh], .int .i64 0])).put (some 53) (.agg #[.float .f64 yl, .float .f64 yh])).put (some 54) y6).put (some 12) z1) ∧ (∀ q, p[0]? = some (some q) → z1 = .pointer (some ⟨q, 0, none⟩)) ∧ OwnF w l [#[.float .f64 0, .float .f64 0]] p v := by
  obtain ⟨y1, y2, y3, y4, y5, y6, z1, ha, E1, E2, E3, E4, E5, E6, G1, h⟩ := h
  obtain rfl := E1 (by decide)
  obtain rfl := E2 (by decide)
  obtain rfl := E3 (by decide)
  obtain rfl := E4 (by decide)
  obtain rfl := E5 (by decide)
  exact ⟨y6, z1, ha, G1, h⟩
theorem fwJ5_fin {q1 : Nat} (h : fwJ5 w cil cih nil nih yl yh l a0 6 [some q1] a v) : a = (((((((a0.put (some 48) (.agg #[.float .f64 cil, .float .f64 cih])).put (some 51) (.agg #[.float .f64 nil, .float .f64 nih])).put (some 52) (.tuple #[.agg #[.float .f64 yl, .float .f64 yh], .int .i64 0])).put (some 45) (.tuple #[.agg #[.float .f64 yl, .float .f64 yh], .int .i64 0])).put (some 53) (.agg #[.float .f64 yl, .float .f64 yh])).put (some 54) (.int .i64 0)).put (some 12) (.pointer (some ⟨q1, 0, none⟩))) ∧ OwnF w l [#[.float .f64 0, .float .f64 0]] [some q1] v := by
  obtain ⟨y1, y2, y3, y4, y5, y6, z1, ha, E1, E2, E3, E4, E5, E6, G1, h⟩ := h
  obtain rfl := E1 (by decide)
  obtain rfl := E2 (by decide)
  obtain rfl := E3 (by decide)
  obtain rfl := E4 (by decide)
  obtain rfl := E5 (by decide)
  obtain rfl := E6 (by decide)
  obtain rfl := G1 _ rfl
  exact ⟨ha, h⟩
end

/-- Region 9. -/
def fwJ9 (w : World) (cil cih eil eih kil kih ol oh : Nat) (gi : Int) (l : RowL) (a0 : Act) (k : Nat) (p : List (Option Nat)) (a : Act) (v : World) : Prop :=
  ∃ y1 y2 y3 y4 y5 y6 y7 z1 : Value, a = ((((((((a0.put (some 77) y1).put (some 80) y2).put (some 83) y3).put (some 84) y4).put (some 74) y5).put (some 85) y6).put (some 86) y7).put (some 16) z1) ∧ (0 < k → y1 = .agg #[.float .f64 cil, .float .f64 cih]) ∧ (1 < k → y2 = .agg #[.float .f64 eil, .float .f64 eih]) ∧ (2 < k → y3 = .agg #[.float .f64 kil, .float .f64 kih]) ∧ (3 < k → y4 = .tuple #[.agg #[.float .f64 ol, .float .f64 oh], .int .i64 gi]) ∧ (4 < k → y5 = .tuple #[.agg #[.float .f64 ol, .float .f64 oh], .int .i64 gi]) ∧ (5 < k → y6 = .agg #[.float .f64 ol, .float .f64 oh]) ∧ (6 < k → y7 = .int .i64 gi) ∧ (∀ q, p[0]? = some (some q) → z1 = .pointer (some ⟨q, 0, none⟩)) ∧ OwnF w l [#[.float .f64 0, .float .f64 0]] p v
section
variable {w v : World} {cil cih eil eih kil kih ol oh : Nat} {gi : Int} {l : RowL} {a0 a : Act} {p : List (Option Nat)}
theorem fwJ9_0 (h : fwJ9 w cil cih eil eih kil kih ol oh gi l a0 0 p a v) : ∃ y1 y2 y3 y4 y5 y6 y7 z1 : Value, a = ((((((((a0.put (some 77) y1).put (some 80) y2).put (some 83) y3).put (some 84) y4).put (some 74) y5).put (some 85) y6).put (some 86) y7).put (some 16) z1) ∧ (∀ q, p[0]? = some (some q) → z1 = .pointer (some ⟨q, 0, none⟩)) ∧ OwnF w l [#[.float .f64 0, .float .f64 0]] p v := by
  obtain ⟨y1, y2, y3, y4, y5, y6, y7, z1, ha, E1, E2, E3, E4, E5, E6, E7, G1, h⟩ := h
  exact ⟨y1, y2, y3, y4, y5, y6, y7, z1, ha, G1, h⟩
theorem fwJ9_1 (h : fwJ9 w cil cih eil eih kil kih ol oh gi l a0 1 p a v) : ∃ y2 y3 y4 y5 y6 y7 z1 : Value, a = ((((((((a0.put (some 77) (.agg #[.float .f64 cil, .float .f64 cih])).put (some 80) y2).put (some 83) y3).put (some 84) y4).put (some 74) y5).put (some 85) y6).put (some 86) y7).put (some 16) z1) ∧ (∀ q, p[0]? = some (some q) → z1 = .pointer (some ⟨q, 0, none⟩)) ∧ OwnF w l [#[.float .f64 0, .float .f64 0]] p v := by
  obtain ⟨y1, y2, y3, y4, y5, y6, y7, z1, ha, E1, E2, E3, E4, E5, E6, E7, G1, h⟩ := h
  obtain rfl := E1 (by decide)
  exact ⟨y2, y3, y4, y5, y6, y7, z1, ha, G1, h⟩
theorem fwJ9_2 (h : fwJ9 w cil cih eil eih kil kih ol oh gi l a0 2 p a v) : ∃ y3 y4 y5 y6 y7 z1 : Value, a = ((((((((a0.put (some 77) (.agg #[.float .f64 cil, .float .f64 cih])).put (some 80) (.agg #[.float .f64 eil, .float .f64 eih])).put (some 83) y3).put (some 84) y4).put (some 74) y5).put (some 85) y6).put (some 86) y7).put (some 16) z1) ∧ (∀ q, p[0]? = some (some q) → z1 = .pointer (some ⟨q, 0, none⟩)) ∧ OwnF w l [#[.float .f64 0, .float .f64 0]] p v := by
  obtain ⟨y1, y2, y3, y4, y5, y6, y7, z1, ha, E1, E2, E3, E4, E5, E6, E7, G1, h⟩ := h
  obtain rfl := E1 (by decide)
  obtain rfl := E2 (by decide)
  exact ⟨y3, y4, y5, y6, y7, z1, ha, G1, h⟩
theorem fwJ9_3 (h : fwJ9 w cil cih eil eih kil kih ol oh gi l a0 3 p a v) : ∃ y4 y5 y6 y7 z1 : Value, a = ((((((((a0.put (some 77) (.agg #[.float .f64 cil, .float .f64 cih])).put (some 80) (.agg #[.float .f64 eil, .float .f64 eih])).put (some 83) (.agg #[.float .f64 kil, .float .f64 kih])).put (some 84) y4).put (some 74) y5).put (some 85) y6).put (some 86) y7).put (some 16) z1) ∧ (∀ q, p[0]? = some (some q) → z1 = .pointer (some ⟨q, 0, none⟩)) ∧ OwnF w l [#[.float .f64 0, .float .f64 0]] p v := by
  obtain ⟨y1, y2, y3, y4, y5, y6, y7, z1, ha, E1, E2, E3, E4, E5, E6, E7, G1, h⟩ := h
  obtain rfl := E1 (by decide)
  obtain rfl := E2 (by decide)
  obtain rfl := E3 (by decide)
  exact ⟨y4, y5, y6, y7, z1, ha, G1, h⟩
theorem fwJ9_4 (h : fwJ9 w cil cih eil eih kil kih ol oh gi l a0 4 p a v) : ∃ y5 y6 y7 z1 : Value, a = ((((((((a0.put (some 77) (.agg #[.float .f64 cil, .float .f64 cih])).put (some 80) (.agg #[.float .f64 eil, .float .f64 eih])).put (some 83) (.agg #[.float .f64 kil, .float .f64 kih])).put (some 84) (.tuple #[.agg #[.float .f64 ol, .float .f64 oh], .int .i64 gi])).put (some 74) y5).put (some 85) y6).put (some 86) y7).put (some 16) z1) ∧ (∀ q, p[0]? = some (some q) → z1 = .pointer (some ⟨q, 0, none⟩)) ∧ OwnF w l [#[.float .f64 0, .float .f64 0]] p v := by
  obtain ⟨y1, y2, y3, y4, y5, y6, y7, z1, ha, E1, E2, E3, E4, E5, E6, E7, G1, h⟩ := h
  obtain rfl := E1 (by decide)
  obtain rfl := E2 (by decide)
  obtain rfl := E3 (by decide)
  obtain rfl := E4 (by decide)
  exact ⟨y5, y6, y7, z1, ha, G1, h⟩
theorem fwJ9_5 (h : fwJ9 w cil cih eil eih kil kih ol oh gi l a0 5 p a v) : ∃ y6 y7 z1 : Value, a = ((((((((a0.put (some 77) (.agg #[.float .f64 cil, .float .f64 cih])).put (some 80) (.agg #[.float .f64 eil, .float .f64 eih])).put (some 83) (.agg #[.float .f64 kil, .float .f64 kih])).put (some 84) (.tuple #[.agg #[.float .f64 ol, .float .f64 oh], .int .i64 gi])).put (some 74) (.tuple #[.agg #[.float .f64 ol, .float .f64 oh], .int .i64 gi])).put (some 85) y6).put (some 86) y7).put (some 16) z1) ∧ (∀ q, p[0]? = some (some q) → z1 = .pointer (some ⟨q, 0, none⟩)) ∧ OwnF w l [#[.float .f64 0, .float .f64 0]] p v := by
  obtain ⟨y1, y2, y3, y4, y5, y6, y7, z1, ha, E1, E2, E3, E4, E5, E6, E7, G1, h⟩ := h
  obtain rfl := E1 (by decide)
  obtain rfl := E2 (by decide)
  obtain rfl := E3 (by decide)
  obtain rfl := E4 (by decide)
  obtain rfl := E5 (by decide)
  exact ⟨y6, y7, z1, ha, G1, h⟩
theorem fwJ9_6 (h : fwJ9 w cil cih eil eih kil kih ol oh gi l a0 6 p a v) : ∃ y7 z1 : Value, a = ((((((((a0.put (some 77) (.agg #[.float .f64 cil, .float .f64 cih])).put (some 80) (.agg #[.float .f64 eil, .float .f64 eih])).put (some 83) (.agg #[.float .f64 kil, .float .f64 kih])).put (some 84) (.tuple #[.agg #[.float .f64 ol, .float .f64 oh], .int .i64 gi])).put (some 74) (.tuple #[.agg #[.float .f64 ol, .float .f64 oh], .int .i64 gi])).put (some 85) (.agg #[.float .f64 ol, .float .f64 oh])).put (some 86) y7).put (some 16) z1) ∧ (∀ q, p[0]? = some (some q) → z1 = .pointer (some ⟨q, 0, none⟩)) ∧ OwnF w l [#[.float .f64 0, .float .f64 0]] p v := by
  obtain ⟨y1, y2, y3, y4, y5, y6, y7, z1, ha, E1, E2, E3, E4, E5, E6, E7, G1, h⟩ := h
  obtain rfl := E1 (by decide)
  obtain rfl := E2 (by decide)
  obtain rfl := E3 (by decide)
  obtain rfl := E4 (by decide)
  obtain rfl := E5 (by decide)
  obtain rfl := E6 (by decide)
  exact ⟨y7, z1, ha, G1, h⟩
theorem fwJ9_fin {q1 : Nat} (h : fwJ9 w cil cih eil eih kil kih ol oh gi l a0 7 [some q1] a v) : a = ((((((((a0.put (some 77) (.agg #[.float .f64 cil, .float .f64 cih])).put (some 80) (.agg #[.float .f64 eil, .float .f64 eih])).put (some 83) (.agg #[.float .f64 kil, .float .f64 kih])).put (some 84) (.tuple #[.agg #[.float .f64 ol, .float .f64 oh], .int .i64 gi])).put (some 74) (.tuple #[.agg #[.float .f64 ol, .float .f64 oh], .int .i64 gi])).put (some 85) (.agg #[.float .f64 ol, .float .f64 oh])).put (some 86) (.int .i64 gi)).put (some 16) (.pointer (some ⟨q1, 0, none⟩))) ∧ OwnF w l [#[.float .f64 0, .float .f64 0]] [some q1] v := by
  obtain ⟨y1, y2, y3, y4, y5, y6, y7, z1, ha, E1, E2, E3, E4, E5, E6, E7, G1, h⟩ := h
  obtain rfl := E1 (by decide)
  obtain rfl := E2 (by decide)
  obtain rfl := E3 (by decide)
  obtain rfl := E4 (by decide)
  obtain rfl := E5 (by decide)
  obtain rfl := E6 (by decide)
  obtain rfl := E7 (by decide)
  obtain rfl := G1 _ rfl
  exact ⟨ha, h⟩
end

set_option maxRecDepth 100000 in
set_option maxHeartbeats 16000000 in
theorem within_law (u0 u1 u2 u3 u4 u5 u6 u7 v0 v1 v2 v3 v4 v5 v6 v7 cl ch nl nh el eh kl kh cil cih nil nih eil eih kil kih xl xh yl yh zl zh ol oh : Nat) (g gi : Int) (w : World)
    (s1 : Hid (∀ w, Calls Try.prog 5 #[.float .f64 0, .float .f64 4607182418800017408, .int .u32 u0, .int .u32 u1] w fun r w' => r = .returned (.agg #[.float .f64 cl, .float .f64 ch]) ∧ Below w.heap.size w w'))
    (s2 : Hid (∀ w, Calls Try.prog 5 #[.float .f64 4607463893776728064, .float .f64 4616189618054758400, .int .u32 u2, .int .u32 u3] w fun r w' => r = .returned (.agg #[.float .f64 nl, .float .f64 nh]) ∧ Below w.heap.size w w'))
    (s3 : Hid (∀ w, Calls Try.prog 5 #[.float .f64 4589168020290535424, .float .f64 4625196817309499392, .int .u32 u4, .int .u32 u5] w fun r w' => r = .returned (.agg #[.float .f64 el, .float .f64 eh]) ∧ Below w.heap.size w w'))
    (s4 : Hid (∀ w, Calls Try.prog 5 #[.float .f64 4589168020290535424, .float .f64 4625196817309499392, .int .u32 u6, .int .u32 u7] w fun r w' => r = .returned (.agg #[.float .f64 kl, .float .f64 kh]) ∧ Below w.heap.size w w'))
    (t1 : Hid (∀ (q : Nat) (w : World), Has1 w (q, #[.int .u32 v0, .int .u32 v1, .int .u32 v2, .int .u32 v3, .int .u32 v4, .int .u32 v5, .int .u32 v6, .int .u32 v7]) → Calls Try.prog 4 #[.agg #[.float .f64 cl, .float .f64 ch], .int .i64 0, .pointer (some ⟨q, 0, none⟩)] w fun r w' => r = .returned (.agg #[.float .f64 cil, .float .f64 cih]) ∧ Below w.heap.size w w'))
    (t2 : Hid (∀ (q : Nat) (w : World), Has1 w (q, #[.int .u32 v0, .int .u32 v1, .int .u32 v2, .int .u32 v3, .int .u32 v4, .int .u32 v5, .int .u32 v6, .int .u32 v7]) → Calls Try.prog 4 #[.agg #[.float .f64 nl, .float .f64 nh], .int .i64 2, .pointer (some ⟨q, 0, none⟩)] w fun r w' => r = .returned (.agg #[.float .f64 nil, .float .f64 nih]) ∧ Below w.heap.size w w'))
    (t3 : Hid (∀ (q : Nat) (w : World), Has1 w (q, #[.int .u32 v0, .int .u32 v1, .int .u32 v2, .int .u32 v3, .int .u32 v4, .int .u32 v5, .int .u32 v6, .int .u32 v7]) → Calls Try.prog 4 #[.agg #[.float .f64 el, .float .f64 eh], .int .i64 4, .pointer (some ⟨q, 0, none⟩)] w fun r w' => r = .returned (.agg #[.float .f64 eil, .float .f64 eih]) ∧ Below w.heap.size w w'))
    (t4 : Hid (∀ (q : Nat) (w : World), Has1 w (q, #[.int .u32 v0, .int .u32 v1, .int .u32 v2, .int .u32 v3, .int .u32 v4, .int .u32 v5, .int .u32 v6, .int .u32 v7]) → Calls Try.prog 4 #[.agg #[.float .f64 kl, .float .f64 kh], .int .i64 6, .pointer (some ⟨q, 0, none⟩)] w fun r w' => r = .returned (.agg #[.float .f64 kil, .float .f64 kih]) ∧ Below w.heap.size w w'))
    (d1 : Hid (∀ w, Calls Try.prog 6 #[.agg #[.float .f64 cl, .float .f64 ch], .agg #[.float .f64 nl, .float .f64 nh]] w fun r w' => r = .returned (.tuple #[.agg #[.float .f64 xl, .float .f64 xh], .int .i64 0]) ∧ Below w.heap.size w w'))
    (d2 : Hid (∀ w, Calls Try.prog 6 #[.agg #[.float .f64 cil, .float .f64 cih], .agg #[.float .f64 nil, .float .f64 nih]] w fun r w' => r = .returned (.tuple #[.agg #[.float .f64 yl, .float .f64 yh], .int .i64 0]) ∧ Below w.heap.size w w'))
    (d3 : Hid (∀ w, Calls Try.prog 8 #[.agg #[.float .f64 cl, .float .f64 ch], .agg #[.float .f64 el, .float .f64 eh], .agg #[.float .f64 kl, .float .f64 kh]] w fun r w' => r = .returned (.tuple #[.agg #[.float .f64 zl, .float .f64 zh], .int .i64 g]) ∧ Below w.heap.size w w'))
    (d4 : Hid (∀ w, Calls Try.prog 8 #[.agg #[.float .f64 cil, .float .f64 cih], .agg #[.float .f64 eil, .float .f64 eih], .agg #[.float .f64 kil, .float .f64 kih]] w fun r w' => r = .returned (.tuple #[.agg #[.float .f64 ol, .float .f64 oh], .int .i64 gi]) ∧ Below w.heap.size w w'))
    (i1 : Hid (∀ w, Calls Try.prog 7 #[.agg #[.float .f64 yl, .float .f64 yh], .agg #[.float .f64 xl, .float .f64 xh]] w fun r w' => r = .returned (.bool true) ∧ Below w.heap.size w w'))
    (gh : (g != 0) = true ∨ g = 0 ∧ gi = 0 ∧ Hid (∀ w, Calls Try.prog 7 #[.agg #[.float .f64 ol, .float .f64 oh], .agg #[.float .f64 zl, .float .f64 zh]] w fun r w' => r = .returned (.bool true) ∧ Below w.heap.size w w'))
    (cA : Hid (∀ w, Calls Try.prog 9 #[] w fun r w' => r = .returned (.bool true) ∧ Below w.heap.size w w')) :
    Calls Try.prog 3 #[.agg #[.int .u32 u0, .int .u32 u1, .int .u32 u2, .int .u32 u3, .int .u32 u4, .int .u32 u5, .int .u32 u6, .int .u32 u7], .agg #[.int .u32 v0, .int .u32 v1, .int .u32 v2, .int .u32 v3, .int .u32 v4, .int .u32 v5, .int .u32 v6, .int .u32 v7]] w fun r w' => r = .returned (.bool true) ∧ Below w.heap.size w w' := by
  have M := Lib.hid (((Own.nil w).made #[.int .u32 u0, .int .u32 u1, .int .u32 u2, .int .u32 u3, .int .u32 u4, .int .u32 u5, .int .u32 u6, .int .u32 u7] 23).made #[.int .u32 v0, .int .u32 v1, .int .u32 v2, .int .u32 v3, .int .u32 v4, .int .u32 v5, .int .u32 v6, .int .u32 v7] 23)
  simp only [World.size_alloc] at M
  have hmf : ∀ (fn : Fn) (first cap : Array Value) (w : World), (Instr.makeFunc fn first cap).run Try.prog w = .ok (.func fn first cap) w := fun _ _ _ _ => rfl
  go_enter Try.func3, Try.ntmps3
  go_upto_region 2 with fail
  clear hmf
  replace M := Lib.hid M.out.drew
  revert M
  generalize ((w.alloc (.cells #[.int .u32 u0, .int .u32 u1, .int .u32 u2, .int .u32 u3, .int .u32 u4, .int .u32 u5, .int .u32 u6, .int .u32 u7] 23)).alloc (.cells #[.int .u32 v0, .int .u32 v1, .int .u32 v2, .int .u32 v3, .int .u32 v4, .int .u32 v5, .int .u32 v6, .int .u32 v7] 23)) = W0
  intro M
  refine wp_region_noPanic ?_
  refine tails_region (S := fun w' => w'.cell? ⟨w.heap.size, 0, none⟩ = some (.int .u32 u0) ∧ w'.cell? ⟨w.heap.size, 1, none⟩ = some (.int .u32 u1) ∧ w'.cell? ⟨w.heap.size, 2, none⟩ = some (.int .u32 u2) ∧ w'.cell? ⟨w.heap.size, 3, none⟩ = some (.int .u32 u3) ∧ w'.cell? ⟨w.heap.size, 4, none⟩ = some (.int .u32 u4) ∧ w'.cell? ⟨w.heap.size, 5, none⟩ = some (.int .u32 u5) ∧ w'.cell? ⟨w.heap.size, 6, none⟩ = some (.int .u32 u6) ∧ w'.cell? ⟨w.heap.size, 7, none⟩ = some (.int .u32 u7)) [] (by kernel_rfl) ?_ (fun hS => ?_)
  · exact (M.out.nth 1 rfl).eight
  refine tk (x := ?_) 0 rfl (by kernel_rfl) ⟨by rfl, ?_⟩ (fun _ _ _ h => h) hS ?_
  rotate_left; focus (intro w hSw; (try dsimp only at hSw); go_simp; try with_reducible rfl)
  refine tk (x := ?_) 1 rfl (by kernel_rfl) ⟨by rfl, ?_⟩ (fun _ _ _ h => h) hS ?_
  rotate_left; focus (intro w hSw; (try dsimp only at hSw); go_simp; try with_reducible rfl)
  refine tk (x := ?_) 2 rfl (by kernel_rfl) ⟨by rfl, ?_⟩ (fun _ _ _ h => h) hS ?_
  rotate_left; focus (intro w hSw; (try dsimp only at hSw); go_simp; try with_reducible rfl)
  refine tk (x := ?_) 3 rfl (by kernel_rfl) ⟨by rfl, ?_⟩ (fun _ _ _ h => h) hS ?_
  rotate_left; focus (intro w hSw; (try dsimp only at hSw); go_simp; try with_reducible rfl)
  refine tk (x := ?_) 5 rfl (by kernel_rfl) ⟨by rfl, ?_⟩ (fun _ _ _ h => h) hS ?_
  rotate_left; focus (intro w hSw; (try dsimp only at hSw); go_simp; try with_reducible rfl)
  refine tk (x := ?_) 6 rfl (by kernel_rfl) ⟨by rfl, ?_⟩ (fun _ _ _ h => h) hS ?_
  rotate_left; focus (intro w hSw; (try dsimp only at hSw); go_simp; try with_reducible rfl)
  refine tk (x := ?_) 7 rfl (by kernel_rfl) ⟨by rfl, ?_⟩ (fun _ _ _ h => h) hS ?_
  rotate_left; focus (intro w hSw; (try dsimp only at hSw); go_simp; try with_reducible rfl)
  refine tk (x := ?_) 8 rfl (by kernel_rfl) ⟨by rfl, ?_⟩ (fun _ _ _ h => h) hS ?_
  rotate_left; focus (intro w hSw; (try dsimp only at hSw); go_simp; try with_reducible rfl)
  conv => arg 9; simp only [Act.put, go_sem]
  refine lan_2_2 M (T := []) 4 9 10 11 [23, 28, 6, 7] 2 (fwJ2 w cl ch nl nh) (by kernel_rfl) (by kernel_rfl) ?_ ?_ ?_ ?_ ?_ ?_ ?_
  · intro A hA
    obtain ⟨y1, hq1⟩ := put_ex (hA 23 (by simp))
    obtain ⟨y2, hq2⟩ := put_ex (hA 28 (by simp))
    obtain ⟨z1, hq3⟩ := put_ex (hA 6 (by simp))
    obtain ⟨z2, hq4⟩ := put_ex (hA 7 (by simp))
    exact ⟨y1, y2, z1, z2, by rw [hq1, hq2, hq3, hq4], by omega, by omega, by simp, by simp, OwnF.start M.out 2⟩
  · rintro k p a v ⟨y1, y2, z1, z2, _, _, _, _, _, h⟩
    exact (h.own.nth 1 rfl).eight
  · intro p a v hJ
    refine op_step (o := _) rfl (fun K hK => ?_)
    obtain ⟨y1, y2, z1, z2, ha, gg1, gg2, h⟩ := fwJ2_0 hJ
    have h := Lib.hid h
    clear hJ
    subst ha
    go_simp
    refine (s1.out _).mono ?_
    rintro rr w5 ⟨rfl, hp⟩
    try go_wp2_with fail
    refine hK.out _ _ ⟨_, y2, z1, z2, ?_, fun _ => rfl, by omega, gg1, gg2, h.out.below hp⟩
    kernel_rfl
  · intro p a v hJ
    refine op_step (o := _) rfl (fun K hK => ?_)
    obtain ⟨y2, z1, z2, ha, gg1, gg2, h⟩ := fwJ2_1 hJ
    have h := Lib.hid h
    clear hJ
    subst ha
    go_simp
    refine (s2.out _).mono ?_
    rintro rr w5 ⟨rfl, hp⟩
    try go_wp2_with fail
    refine hK.out _ _ ⟨_, _, z1, z2, ?_, fun _ => rfl, fun _ => rfl, gg1, gg2, h.out.below hp⟩
    kernel_rfl
  · intro k p a v hp hJ
    refine op_step (o := _) rfl (fun K hK => ?_)
    obtain ⟨y1, y2, z1, z2, ha, ee1, ee2, gg1, gg2, h⟩ := hJ
    have h := Lib.hid h
    subst ha
    go_simp
    refine hK.out _ _ ⟨v.heap.size, y1, y2, .pointer (some ⟨v.heap.size, 0, none⟩), z2, ?_, ee1, ee2, fun q hq => ptr_set hq, ptr_keep 1 (by decide) gg2, h.out.alloc hp rfl _⟩
    kernel_rfl
  · intro k p a v hp hJ
    refine op_step (o := _) rfl (fun K hK => ?_)
    obtain ⟨y1, y2, z1, z2, ha, ee1, ee2, gg1, gg2, h⟩ := hJ
    have h := Lib.hid h
    subst ha
    go_simp
    refine hK.out _ _ ⟨v.heap.size, y1, y2, z1, .pointer (some ⟨v.heap.size, 0, none⟩), ?_, ee1, ee2, ptr_keep 0 (by decide) gg1, fun q hq => ptr_set hq, h.out.alloc hp rfl _⟩
    kernel_rfl
  intro p2_1 p2_2 a v hJ
  obtain ⟨rfl, h⟩ := fwJ2_fin hJ
  clear hJ
  replace M := Lib.hid h.fin2
  clear h
  refine tails_one (T := []) (i := 12) (o := _) rfl (by kernel_rfl) (fun K hK => ?_)
  have kc := (M.out.nth 0 rfl).2.1
  have kf := (M.out.nth 0 rfl).2.2
  replace M := Lib.hid (M.out.set2 0 rfl (.float .f64 cl) (.float .f64 ch))
  go_simp
  refine hK.out _ _ (Or.inr (M.out.nth 3 rfl).eight) (fun hHeld => ?_)
  clear hK K hHeld kc kf
  refine tails_one (T := []) (i := 13) (o := _) rfl (by kernel_rfl) (fun K hK => ?_)
  have kc := (M.out.nth 1 rfl).2.1
  have kf := (M.out.nth 1 rfl).2.2
  replace M := Lib.hid (M.out.set2 1 rfl (.float .f64 nl) (.float .f64 nh))
  go_simp
  refine hK.out _ _ (Or.inr (M.out.nth 3 rfl).eight) (fun hHeld => ?_)
  clear hK K hHeld kc kf
  refine tails_done (by kernel_rfl) ?_ _
  refine NoPanic.normal ?_
  clear hS
  revert M
  generalize ((((v.setCell ⟨p2_1, 0, none⟩ (.float .f64 cl)).setCell ⟨p2_1, 1, none⟩ (.float .f64 ch)).setCell ⟨p2_2, 0, none⟩ (.float .f64 nl)).setCell ⟨p2_2, 1, none⟩ (.float .f64 nh)) = W2
  intro M
  go_upto_region 3 with fail
  replace M := Lib.hid M.out.drew
  refine wp_region_noPanic ?_
  refine tails_region (S := fun w' => w'.cell? ⟨w.heap.size, 0, none⟩ = some (.int .u32 u0) ∧ w'.cell? ⟨w.heap.size, 1, none⟩ = some (.int .u32 u1) ∧ w'.cell? ⟨w.heap.size, 2, none⟩ = some (.int .u32 u2) ∧ w'.cell? ⟨w.heap.size, 3, none⟩ = some (.int .u32 u3) ∧ w'.cell? ⟨w.heap.size, 4, none⟩ = some (.int .u32 u4) ∧ w'.cell? ⟨w.heap.size, 5, none⟩ = some (.int .u32 u5) ∧ w'.cell? ⟨w.heap.size, 6, none⟩ = some (.int .u32 u6) ∧ w'.cell? ⟨w.heap.size, 7, none⟩ = some (.int .u32 u7)) [] (by kernel_rfl) ?_ (fun hS => ?_)
  · exact (M.out.nth 3 rfl).eight
  refine tk (x := ?_) 0 rfl (by kernel_rfl) ⟨by rfl, ?_⟩ (fun _ _ _ h => h) hS ?_
  rotate_left; focus (intro w hSw; (try dsimp only at hSw); go_simp; try with_reducible rfl)
  refine tk (x := ?_) 1 rfl (by kernel_rfl) ⟨by rfl, ?_⟩ (fun _ _ _ h => h) hS ?_
  rotate_left; focus (intro w hSw; (try dsimp only at hSw); go_simp; try with_reducible rfl)
  refine tk (x := ?_) 2 rfl (by kernel_rfl) ⟨by rfl, ?_⟩ (fun _ _ _ h => h) hS ?_
  rotate_left; focus (intro w hSw; (try dsimp only at hSw); go_simp; try with_reducible rfl)
  refine tk (x := ?_) 3 rfl (by kernel_rfl) ⟨by rfl, ?_⟩ (fun _ _ _ h => h) hS ?_
  rotate_left; focus (intro w hSw; (try dsimp only at hSw); go_simp; try with_reducible rfl)
  refine tk (x := ?_) 5 rfl (by kernel_rfl) ⟨by rfl, ?_⟩ (fun _ _ _ h => h) hS ?_
  rotate_left; focus (intro w hSw; (try dsimp only at hSw); go_simp; try with_reducible rfl)
  refine tk (x := ?_) 6 rfl (by kernel_rfl) ⟨by rfl, ?_⟩ (fun _ _ _ h => h) hS ?_
  rotate_left; focus (intro w hSw; (try dsimp only at hSw); go_simp; try with_reducible rfl)
  refine tk (x := ?_) 7 rfl (by kernel_rfl) ⟨by rfl, ?_⟩ (fun _ _ _ h => h) hS ?_
  rotate_left; focus (intro w hSw; (try dsimp only at hSw); go_simp; try with_reducible rfl)
  refine tk (x := ?_) 8 rfl (by kernel_rfl) ⟨by rfl, ?_⟩ (fun _ _ _ h => h) hS ?_
  rotate_left; focus (intro w hSw; (try dsimp only at hSw); go_simp; try with_reducible rfl)
  conv => arg 9; simp only [Act.put, go_sem]
  refine lan_2_2 M (T := []) 4 9 10 11 [33, 38, 8, 9] 2 (fwJ3 w el eh kl kh) (by kernel_rfl) (by kernel_rfl) ?_ ?_ ?_ ?_ ?_ ?_ ?_
  · intro A hA
    obtain ⟨y1, hq1⟩ := put_ex (hA 33 (by simp))
    obtain ⟨y2, hq2⟩ := put_ex (hA 38 (by simp))
    obtain ⟨z1, hq3⟩ := put_ex (hA 8 (by simp))
    obtain ⟨z2, hq4⟩ := put_ex (hA 9 (by simp))
    exact ⟨y1, y2, z1, z2, by rw [hq1, hq2, hq3, hq4], by omega, by omega, by simp, by simp, OwnF.start M.out 2⟩
  · rintro k p a v ⟨y1, y2, z1, z2, _, _, _, _, _, h⟩
    exact (h.own.nth 3 rfl).eight
  · intro p a v hJ
    refine op_step (o := _) rfl (fun K hK => ?_)
    obtain ⟨y1, y2, z1, z2, ha, gg1, gg2, h⟩ := fwJ3_0 hJ
    have h := Lib.hid h
    clear hJ
    subst ha
    go_simp
    refine (s3.out _).mono ?_
    rintro rr w5 ⟨rfl, hp⟩
    try go_wp2_with fail
    refine hK.out _ _ ⟨_, y2, z1, z2, ?_, fun _ => rfl, by omega, gg1, gg2, h.out.below hp⟩
    kernel_rfl
  · intro p a v hJ
    refine op_step (o := _) rfl (fun K hK => ?_)
    obtain ⟨y2, z1, z2, ha, gg1, gg2, h⟩ := fwJ3_1 hJ
    have h := Lib.hid h
    clear hJ
    subst ha
    go_simp
    refine (s4.out _).mono ?_
    rintro rr w5 ⟨rfl, hp⟩
    try go_wp2_with fail
    refine hK.out _ _ ⟨_, _, z1, z2, ?_, fun _ => rfl, fun _ => rfl, gg1, gg2, h.out.below hp⟩
    kernel_rfl
  · intro k p a v hp hJ
    refine op_step (o := _) rfl (fun K hK => ?_)
    obtain ⟨y1, y2, z1, z2, ha, ee1, ee2, gg1, gg2, h⟩ := hJ
    have h := Lib.hid h
    subst ha
    go_simp
    refine hK.out _ _ ⟨v.heap.size, y1, y2, .pointer (some ⟨v.heap.size, 0, none⟩), z2, ?_, ee1, ee2, fun q hq => ptr_set hq, ptr_keep 1 (by decide) gg2, h.out.alloc hp rfl _⟩
    kernel_rfl
  · intro k p a v hp hJ
    refine op_step (o := _) rfl (fun K hK => ?_)
    obtain ⟨y1, y2, z1, z2, ha, ee1, ee2, gg1, gg2, h⟩ := hJ
    have h := Lib.hid h
    subst ha
    go_simp
    refine hK.out _ _ ⟨v.heap.size, y1, y2, z1, .pointer (some ⟨v.heap.size, 0, none⟩), ?_, ee1, ee2, ptr_keep 0 (by decide) gg1, fun q hq => ptr_set hq, h.out.alloc hp rfl _⟩
    kernel_rfl
  intro p3_1 p3_2 a v hJ
  obtain ⟨rfl, h⟩ := fwJ3_fin hJ
  clear hJ
  replace M := Lib.hid h.fin2
  clear h
  refine tails_one (T := []) (i := 12) (o := _) rfl (by kernel_rfl) (fun K hK => ?_)
  have kc := (M.out.nth 0 rfl).2.1
  have kf := (M.out.nth 0 rfl).2.2
  replace M := Lib.hid (M.out.set2 0 rfl (.float .f64 el) (.float .f64 eh))
  go_simp
  refine hK.out _ _ (Or.inr (M.out.nth 5 rfl).eight) (fun hHeld => ?_)
  clear hK K hHeld kc kf
  refine tails_one (T := []) (i := 13) (o := _) rfl (by kernel_rfl) (fun K hK => ?_)
  have kc := (M.out.nth 1 rfl).2.1
  have kf := (M.out.nth 1 rfl).2.2
  replace M := Lib.hid (M.out.set2 1 rfl (.float .f64 kl) (.float .f64 kh))
  go_simp
  refine hK.out _ _ (Or.inr (M.out.nth 5 rfl).eight) (fun hHeld => ?_)
  clear hK K hHeld kc kf
  refine tails_done (by kernel_rfl) ?_ _
  refine NoPanic.normal ?_
  clear hS
  revert M
  generalize ((((v.setCell ⟨p3_1, 0, none⟩ (.float .f64 el)).setCell ⟨p3_1, 1, none⟩ (.float .f64 eh)).setCell ⟨p3_2, 0, none⟩ (.float .f64 kl)).setCell ⟨p3_2, 1, none⟩ (.float .f64 kh)) = W3
  intro M
  obtain ⟨k1, k2⟩ := (M.out.nth 2 rfl).two
  obtain ⟨k3, k4⟩ := (M.out.nth 3 rfl).two
  go_wp2_with fail
  refine (d1.out _).mono ?_
  rintro r wv1 ⟨rfl, hb⟩
  replace M := Lib.hid ((M.out.below hb).made #[.float .f64 xl, .float .f64 xh] 26)
  clear hb k1 k2 k3 k4
  go_upto_region 5 with fail
  replace M := Lib.hid M.out.drew
  refine wp_region_noPanic ?_
  refine tails_region (S := fun w' => (w'.cell? ⟨p2_1, 0, none⟩ = some (.float .f64 cl) ∧ w'.cell? ⟨p2_1, 1, none⟩ = some (.float .f64 ch)) ∧ (w'.cell? ⟨p2_2, 0, none⟩ = some (.float .f64 nl) ∧ w'.cell? ⟨p2_2, 1, none⟩ = some (.float .f64 nh))) [] (by kernel_rfl) ?_ (fun hS => ?_)
  · exact ⟨(M.out.nth 3 rfl).two, (M.out.nth 4 rfl).two⟩
  refine tk (x := ?_) 0 rfl (by kernel_rfl) ⟨by rfl, ?_⟩ (fun _ _ _ h => h) hS ?_
  rotate_left; focus (intro w hSw; (try dsimp only at hSw); go_simp; try with_reducible rfl)
  refine tk (x := ?_) 1 rfl (by kernel_rfl) ⟨by rfl, ?_⟩ (fun _ _ _ h => h) hS ?_
  rotate_left; focus (intro w hSw; (try dsimp only at hSw); go_simp; try with_reducible rfl)
  refine tk (x := ?_) 3 rfl (by kernel_rfl) ⟨by rfl, ?_⟩ (fun _ _ _ h => h) hS ?_
  rotate_left; focus (intro w hSw; (try dsimp only at hSw); go_simp; try with_reducible rfl)
  refine tk (x := ?_) 4 rfl (by kernel_rfl) ⟨by rfl, ?_⟩ (fun _ _ _ h => h) hS ?_
  rotate_left; focus (intro w hSw; (try dsimp only at hSw); go_simp; try with_reducible rfl)
  conv => arg 9; simp only [Act.put, go_sem]
  refine lanT_3 M 2 5 6 7 8 9 10 [48, 51, 52, 45, 53, 54, 12] 2 (fwJ5 w cil cih nil nih yl yh) (by kernel_rfl) (by kernel_rfl) ?_ ?_ ?_ ?_ ?_ ?_ ?_ ?_ ?_ ?_
  · intro A hA
    obtain ⟨y1, hq1⟩ := put_ex (hA 48 (by simp))
    obtain ⟨y2, hq2⟩ := put_ex (hA 51 (by simp))
    obtain ⟨y3, hq3⟩ := put_ex (hA 52 (by simp))
    obtain ⟨y4, hq4⟩ := put_ex (hA 45 (by simp))
    obtain ⟨y5, hq5⟩ := put_ex (hA 53 (by simp))
    obtain ⟨y6, hq6⟩ := put_ex (hA 54 (by simp))
    obtain ⟨z1, hq7⟩ := put_ex (hA 12 (by simp))
    exact ⟨y1, y2, y3, y4, y5, y6, z1, by rw [hq1, hq2, hq3, hq4, hq5, hq6, hq7], by omega, by omega, by omega, by omega, by omega, by omega, by simp, OwnF.start M.out 1⟩
  · rintro k p a v ⟨y1, y2, y3, y4, y5, y6, z1, _, _, _, _, _, _, _, _, h⟩
    exact ⟨(h.own.nth 3 rfl).two, (h.own.nth 4 rfl).two⟩
  · intro p a v hJ
    refine op_step (o := _) rfl (fun K hK => ?_)
    obtain ⟨y1, y2, y3, y4, y5, y6, z1, ha, gg1, h⟩ := fwJ5_0 hJ
    have h := Lib.hid h
    clear hJ
    subst ha
    go_simp
    refine (t1.out _ _ (h.out.own.nth 5 rfl)).mono ?_
    rintro rr w5 ⟨rfl, hp⟩
    try go_wp2_with fail
    refine hK.out _ _ ⟨_, y2, y3, y4, y5, y6, z1, ?_, fun _ => rfl, by omega, by omega, by omega, by omega, by omega, gg1, h.out.below hp⟩
    kernel_rfl
  · intro p a v hJ
    refine op_step (o := _) rfl (fun K hK => ?_)
    obtain ⟨y2, y3, y4, y5, y6, z1, ha, gg1, h⟩ := fwJ5_1 hJ
    have h := Lib.hid h
    clear hJ
    subst ha
    go_simp
    refine (t2.out _ _ (h.out.own.nth 5 rfl)).mono ?_
    rintro rr w5 ⟨rfl, hp⟩
    try go_wp2_with fail
    refine hK.out _ _ ⟨_, _, y3, y4, y5, y6, z1, ?_, fun _ => rfl, fun _ => rfl, by omega, by omega, by omega, by omega, gg1, h.out.below hp⟩
    kernel_rfl
  · intro p a v hJ
    refine op_step (o := _) rfl (fun K hK => ?_)
    obtain ⟨y3, y4, y5, y6, z1, ha, gg1, h⟩ := fwJ5_2 hJ
    have h := Lib.hid h
    clear hJ
    subst ha
    go_simp
    refine (d2.out _).mono ?_
    rintro rr w5 ⟨rfl, hp⟩
    try go_wp2_with fail
    refine hK.out _ _ ⟨_, _, _, y4, y5, y6, z1, ?_, fun _ => rfl, fun _ => rfl, fun _ => rfl, by omega, by omega, by omega, gg1, h.out.below hp⟩
    kernel_rfl
  · intro p a v hJ
    obtain ⟨y4, y5, y6, z1, ha, gg1, h⟩ := fwJ5_3 hJ
    clear hJ
    subst ha
    refine ⟨_, .tuple #[.agg #[.float .f64 yl, .float .f64 yh], .int .i64 0], rfl, Or.inl ⟨by rfl, ?_⟩, (fun _ _ _ h => h), _, _, _, _, y5, y6, z1, ?_, fun _ => rfl, fun _ => rfl, fun _ => rfl, fun _ => rfl, by omega, by omega, gg1, h⟩
    · intro w hSw; clear hSw h; go_simp; try with_reducible rfl
    · kernel_rfl
  · intro p a v hJ
    obtain ⟨y5, y6, z1, ha, gg1, h⟩ := fwJ5_4 hJ
    clear hJ
    subst ha
    refine ⟨_, .agg #[.float .f64 yl, .float .f64 yh], rfl, Or.inl ⟨by rfl, ?_⟩, (fun _ _ _ h => h), _, _, _, _, _, y6, z1, ?_, fun _ => rfl, fun _ => rfl, fun _ => rfl, fun _ => rfl, fun _ => rfl, by omega, gg1, h⟩
    · intro w hSw; clear hSw h; go_simp; try with_reducible rfl
    · kernel_rfl
  · intro p a v hJ
    obtain ⟨y6, z1, ha, gg1, h⟩ := fwJ5_5 hJ
    clear hJ
    subst ha
    refine ⟨_, .int .i64 0, rfl, Or.inl ⟨by rfl, ?_⟩, (fun _ _ _ h => h), _, _, _, _, _, _, z1, ?_, fun _ => rfl, fun _ => rfl, fun _ => rfl, fun _ => rfl, fun _ => rfl, fun _ => rfl, gg1, h⟩
    · intro w hSw; clear hSw h; go_simp; try with_reducible rfl
    · kernel_rfl
  · intro k p a v hp hJ
    refine op_step (o := _) rfl (fun K hK => ?_)
    obtain ⟨y1, y2, y3, y4, y5, y6, z1, ha, ee1, ee2, ee3, ee4, ee5, ee6, gg1, h⟩ := hJ
    have h := Lib.hid h
    subst ha
    go_simp
    refine hK.out _ _ ⟨v.heap.size, y1, y2, y3, y4, y5, y6, .pointer (some ⟨v.heap.size, 0, none⟩), ?_, ee1, ee2, ee3, ee4, ee5, ee6, fun q hq => ptr_set hq, h.out.alloc hp rfl _⟩
    kernel_rfl
  intro p5_1 a v hJ
  obtain ⟨rfl, h⟩ := fwJ5_fin hJ
  clear hJ
  replace M := Lib.hid h.fin1
  clear h
  refine tails_one (T := []) (i := 11) (o := _) rfl (by kernel_rfl) (fun K hK => ?_)
  have kc := (M.out.nth 0 rfl).2.1
  have kf := (M.out.nth 0 rfl).2.2
  replace M := Lib.hid (M.out.set2 0 rfl (.float .f64 yl) (.float .f64 yh))
  go_simp
  refine hK.out _ _ (Or.inr ⟨(M.out.nth 4 rfl).two, (M.out.nth 5 rfl).two⟩) (fun hHeld => ?_)
  clear hK K hHeld kc kf
  refine tails_one (T := []) (i := 12) (o := _) rfl (by kernel_rfl) (fun K hK => ?_)
  go_simp
  refine hK.out _ _ (Or.inr ⟨(M.out.nth 4 rfl).two, (M.out.nth 5 rfl).two⟩) (fun hHeld => ?_)
  clear hK K hHeld
  refine tails_done (by kernel_rfl) ?_ _
  refine NoPanic.normal ?_
  clear hS
  revert M
  generalize ((v.setCell ⟨p5_1, 0, none⟩ (.float .f64 yl)).setCell ⟨p5_1, 1, none⟩ (.float .f64 yh)) = W5
  intro M
  obtain ⟨k1, k2⟩ := (M.out.nth 0 rfl).two
  obtain ⟨k3, k4⟩ := (M.out.nth 1 rfl).two
  go_wp2_with fail
  refine (i1.out _).mono ?_
  rintro r wv2 ⟨rfl, hb⟩
  replace M := Lib.hid (M.out.below hb)
  clear hb k1 k2 k3 k4
  obtain ⟨k1, k2⟩ := (M.out.nth 4 rfl).two
  obtain ⟨k3, k4⟩ := (M.out.nth 2 rfl).two
  obtain ⟨k5, k6⟩ := (M.out.nth 3 rfl).two
  go_wp2_with fail
  refine (d3.out _).mono ?_
  rintro r wv3 ⟨rfl, hb⟩
  replace M := Lib.hid ((M.out.below hb).made #[.float .f64 zl, .float .f64 zh] 26)
  clear hb k1 k2 k3 k4 k5 k6
  go_upto_region 9 with fail
  replace M := Lib.hid M.out.drew
  refine wp_region_noPanic ?_
  refine tails_region (S := fun w' => (w'.cell? ⟨p2_1, 0, none⟩ = some (.float .f64 cl) ∧ w'.cell? ⟨p2_1, 1, none⟩ = some (.float .f64 ch)) ∧ (w'.cell? ⟨p3_1, 0, none⟩ = some (.float .f64 el) ∧ w'.cell? ⟨p3_1, 1, none⟩ = some (.float .f64 eh)) ∧ (w'.cell? ⟨p3_2, 0, none⟩ = some (.float .f64 kl) ∧ w'.cell? ⟨p3_2, 1, none⟩ = some (.float .f64 kh))) [] (by kernel_rfl) ?_ (fun hS => ?_)
  · exact ⟨(M.out.nth 5 rfl).two, (M.out.nth 3 rfl).two, (M.out.nth 4 rfl).two⟩
  refine tk (x := ?_) 0 rfl (by kernel_rfl) ⟨by rfl, ?_⟩ (fun _ _ _ h => h) hS ?_
  rotate_left; focus (intro w hSw; (try dsimp only at hSw); go_simp; try with_reducible rfl)
  refine tk (x := ?_) 1 rfl (by kernel_rfl) ⟨by rfl, ?_⟩ (fun _ _ _ h => h) hS ?_
  rotate_left; focus (intro w hSw; (try dsimp only at hSw); go_simp; try with_reducible rfl)
  refine tk (x := ?_) 3 rfl (by kernel_rfl) ⟨by rfl, ?_⟩ (fun _ _ _ h => h) hS ?_
  rotate_left; focus (intro w hSw; (try dsimp only at hSw); go_simp; try with_reducible rfl)
  refine tk (x := ?_) 4 rfl (by kernel_rfl) ⟨by rfl, ?_⟩ (fun _ _ _ h => h) hS ?_
  rotate_left; focus (intro w hSw; (try dsimp only at hSw); go_simp; try with_reducible rfl)
  refine tk (x := ?_) 6 rfl (by kernel_rfl) ⟨by rfl, ?_⟩ (fun _ _ _ h => h) hS ?_
  rotate_left; focus (intro w hSw; (try dsimp only at hSw); go_simp; try with_reducible rfl)
  refine tk (x := ?_) 7 rfl (by kernel_rfl) ⟨by rfl, ?_⟩ (fun _ _ _ h => h) hS ?_
  rotate_left; focus (intro w hSw; (try dsimp only at hSw); go_simp; try with_reducible rfl)
  conv => arg 9; simp only [Act.put, go_sem]
  refine lanT_4 M 2 5 8 9 10 11 12 13 [77, 80, 83, 84, 74, 85, 86, 16] 2 (fwJ9 w cil cih eil eih kil kih ol oh gi) (by kernel_rfl) (by kernel_rfl) ?_ ?_ ?_ ?_ ?_ ?_ ?_ ?_ ?_ ?_ ?_
  · intro A hA
    obtain ⟨y1, hq1⟩ := put_ex (hA 77 (by simp))
    obtain ⟨y2, hq2⟩ := put_ex (hA 80 (by simp))
    obtain ⟨y3, hq3⟩ := put_ex (hA 83 (by simp))
    obtain ⟨y4, hq4⟩ := put_ex (hA 84 (by simp))
    obtain ⟨y5, hq5⟩ := put_ex (hA 74 (by simp))
    obtain ⟨y6, hq6⟩ := put_ex (hA 85 (by simp))
    obtain ⟨y7, hq7⟩ := put_ex (hA 86 (by simp))
    obtain ⟨z1, hq8⟩ := put_ex (hA 16 (by simp))
    exact ⟨y1, y2, y3, y4, y5, y6, y7, z1, by rw [hq1, hq2, hq3, hq4, hq5, hq6, hq7, hq8], by omega, by omega, by omega, by omega, by omega, by omega, by omega, by simp, OwnF.start M.out 1⟩
  · rintro k p a v ⟨y1, y2, y3, y4, y5, y6, y7, z1, _, _, _, _, _, _, _, _, _, h⟩
    exact ⟨(h.own.nth 5 rfl).two, (h.own.nth 3 rfl).two, (h.own.nth 4 rfl).two⟩
  · intro p a v hJ
    refine op_step (o := _) rfl (fun K hK => ?_)
    obtain ⟨y1, y2, y3, y4, y5, y6, y7, z1, ha, gg1, h⟩ := fwJ9_0 hJ
    have h := Lib.hid h
    clear hJ
    subst ha
    go_simp
    refine (t1.out _ _ (h.out.own.nth 7 rfl)).mono ?_
    rintro rr w5 ⟨rfl, hp⟩
    try go_wp2_with fail
    refine hK.out _ _ ⟨_, y2, y3, y4, y5, y6, y7, z1, ?_, fun _ => rfl, by omega, by omega, by omega, by omega, by omega, by omega, gg1, h.out.below hp⟩
    kernel_rfl
  · intro p a v hJ
    refine op_step (o := _) rfl (fun K hK => ?_)
    obtain ⟨y2, y3, y4, y5, y6, y7, z1, ha, gg1, h⟩ := fwJ9_1 hJ
    have h := Lib.hid h
    clear hJ
    subst ha
    go_simp
    refine (t3.out _ _ (h.out.own.nth 7 rfl)).mono ?_
    rintro rr w5 ⟨rfl, hp⟩
    try go_wp2_with fail
    refine hK.out _ _ ⟨_, _, y3, y4, y5, y6, y7, z1, ?_, fun _ => rfl, fun _ => rfl, by omega, by omega, by omega, by omega, by omega, gg1, h.out.below hp⟩
    kernel_rfl
  · intro p a v hJ
    refine op_step (o := _) rfl (fun K hK => ?_)
    obtain ⟨y3, y4, y5, y6, y7, z1, ha, gg1, h⟩ := fwJ9_2 hJ
    have h := Lib.hid h
    clear hJ
    subst ha
    go_simp
    refine (t4.out _ _ (h.out.own.nth 7 rfl)).mono ?_
    rintro rr w5 ⟨rfl, hp⟩
    try go_wp2_with fail
    refine hK.out _ _ ⟨_, _, _, y4, y5, y6, y7, z1, ?_, fun _ => rfl, fun _ => rfl, fun _ => rfl, by omega, by omega, by omega, by omega, gg1, h.out.below hp⟩
    kernel_rfl
  · intro p a v hJ
    refine op_step (o := _) rfl (fun K hK => ?_)
    obtain ⟨y4, y5, y6, y7, z1, ha, gg1, h⟩ := fwJ9_3 hJ
    have h := Lib.hid h
    clear hJ
    subst ha
    go_simp
    refine (d4.out _).mono ?_
    rintro rr w5 ⟨rfl, hp⟩
    try go_wp2_with fail
    refine hK.out _ _ ⟨_, _, _, _, y5, y6, y7, z1, ?_, fun _ => rfl, fun _ => rfl, fun _ => rfl, fun _ => rfl, by omega, by omega, by omega, gg1, h.out.below hp⟩
    kernel_rfl
  · intro p a v hJ
    obtain ⟨y5, y6, y7, z1, ha, gg1, h⟩ := fwJ9_4 hJ
    clear hJ
    subst ha
    refine ⟨_, .tuple #[.agg #[.float .f64 ol, .float .f64 oh], .int .i64 gi], rfl, Or.inl ⟨by rfl, ?_⟩, (fun _ _ _ h => h), _, _, _, _, _, y6, y7, z1, ?_, fun _ => rfl, fun _ => rfl, fun _ => rfl, fun _ => rfl, fun _ => rfl, by omega, by omega, gg1, h⟩
    · intro w hSw; clear hSw h; go_simp; try with_reducible rfl
    · kernel_rfl
  · intro p a v hJ
    obtain ⟨y6, y7, z1, ha, gg1, h⟩ := fwJ9_5 hJ
    clear hJ
    subst ha
    refine ⟨_, .agg #[.float .f64 ol, .float .f64 oh], rfl, Or.inl ⟨by rfl, ?_⟩, (fun _ _ _ h => h), _, _, _, _, _, _, y7, z1, ?_, fun _ => rfl, fun _ => rfl, fun _ => rfl, fun _ => rfl, fun _ => rfl, fun _ => rfl, by omega, gg1, h⟩
    · intro w hSw; clear hSw h; go_simp; try with_reducible rfl
    · kernel_rfl
  · intro p a v hJ
    obtain ⟨y7, z1, ha, gg1, h⟩ := fwJ9_6 hJ
    clear hJ
    subst ha
    refine ⟨_, .int .i64 gi, rfl, Or.inl ⟨by rfl, ?_⟩, (fun _ _ _ h => h), _, _, _, _, _, _, _, z1, ?_, fun _ => rfl, fun _ => rfl, fun _ => rfl, fun _ => rfl, fun _ => rfl, fun _ => rfl, fun _ => rfl, gg1, h⟩
    · intro w hSw; clear hSw h; go_simp; try with_reducible rfl
    · kernel_rfl
  · intro k p a v hp hJ
    refine op_step (o := _) rfl (fun K hK => ?_)
    obtain ⟨y1, y2, y3, y4, y5, y6, y7, z1, ha, ee1, ee2, ee3, ee4, ee5, ee6, ee7, gg1, h⟩ := hJ
    have h := Lib.hid h
    subst ha
    go_simp
    refine hK.out _ _ ⟨v.heap.size, y1, y2, y3, y4, y5, y6, y7, .pointer (some ⟨v.heap.size, 0, none⟩), ?_, ee1, ee2, ee3, ee4, ee5, ee6, ee7, fun q hq => ptr_set hq, h.out.alloc hp rfl _⟩
    kernel_rfl
  intro p9_1 a v hJ
  obtain ⟨rfl, h⟩ := fwJ9_fin hJ
  clear hJ
  replace M := Lib.hid h.fin1
  clear h
  refine tails_one (T := []) (i := 14) (o := _) rfl (by kernel_rfl) (fun K hK => ?_)
  have kc := (M.out.nth 0 rfl).2.1
  have kf := (M.out.nth 0 rfl).2.2
  replace M := Lib.hid (M.out.set2 0 rfl (.float .f64 ol) (.float .f64 oh))
  go_simp
  refine hK.out _ _ (Or.inr ⟨(M.out.nth 6 rfl).two, (M.out.nth 4 rfl).two, (M.out.nth 5 rfl).two⟩) (fun hHeld => ?_)
  clear hK K hHeld kc kf
  refine tails_one (T := []) (i := 15) (o := _) rfl (by kernel_rfl) (fun K hK => ?_)
  go_simp
  refine hK.out _ _ (Or.inr ⟨(M.out.nth 6 rfl).two, (M.out.nth 4 rfl).two, (M.out.nth 5 rfl).two⟩) (fun hHeld => ?_)
  clear hK K hHeld
  refine tails_done (by kernel_rfl) ?_ _
  refine NoPanic.normal ?_
  clear hS
  revert M
  generalize ((v.setCell ⟨p9_1, 0, none⟩ (.float .f64 ol)).setCell ⟨p9_1, 1, none⟩ (.float .f64 oh)) = W9
  intro M
  rcases gh with gh | ⟨rfl, rfl, i2⟩
  · go_wp2_with fail
    refine (cA.out _).mono ?_
    rintro r wv5 ⟨rfl, hb⟩
    replace M := Lib.hid (M.out.below hb)
    go_wp2
    go_ret
    exact ⟨rfl, M.out.base⟩
  · obtain ⟨k1, k2⟩ := (M.out.nth 0 rfl).two
    obtain ⟨k3, k4⟩ := (M.out.nth 1 rfl).two
    go_wp2_with fail
    refine (i2.out _).mono ?_
    rintro r wv4 ⟨rfl, hb⟩
    replace M := Lib.hid (M.out.below hb)
    clear hb k1 k2 k3 k4
    go_wp2_with fail
    refine (cA.out _).mono ?_
    rintro r wv5 ⟨rfl, hb⟩
    replace M := Lib.hid (M.out.below hb)
    go_wp2
    go_ret
    exact ⟨rfl, M.out.base⟩

end Go.Proofs.Ytcfgahlaiiibiaa
