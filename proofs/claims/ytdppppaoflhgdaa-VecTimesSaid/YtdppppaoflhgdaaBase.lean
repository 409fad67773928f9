
/- Facts of this translation that every walk of layer 1 takes: what the body-less functions of package math and math/bits answer. No conditions. -/
import Derived.Test.YtdppppaoflhgdaaRows
import Derived.WalkKit
import Derived.WalkSpells
import Derived.WalkLawsBesides
import Derived.Laws.Externs
import Derived.Lib.Hide
import Derived.Deep.QuietTactic
namespace Go.Proofs.Ytdppppaoflhgdaa
open Go.RowKit

theorem bel1 (w : World) (a : Obj) : Below w.heap.size w (w.alloc a) := (Below.refl _ _).alloc (Nat.le_refl _) _
theorem bel2 (w : World) (a b : Obj) : Below w.heap.size w ((w.alloc a).alloc b) := (bel1 w a).alloc (by simp) _
theorem bel3 (w : World) (a b c : Obj) : Below w.heap.size w (((w.alloc a).alloc b).alloc c) := (bel2 w a b).alloc (by simp; omega) _
theorem bel4 (w : World) (a b c d : Obj) : Below w.heap.size w ((((w.alloc a).alloc b).alloc c).alloc d) := (bel3 w a b c).alloc (by simp; omega) _
theorem bel5 (w : World) (a b c d e : Obj) : Below w.heap.size w (((((w.alloc a).alloc b).alloc c).alloc d).alloc e) := (bel4 w a b c d).alloc (by simp; omega) _
theorem bel6 (w : World) (a b c d e f : Obj) : Below w.heap.size w ((((((w.alloc a).alloc b).alloc c).alloc d).alloc e).alloc f) := (bel5 w a b c d e).alloc (by simp; omega) _
/-- Old cells, and old marks, read as before. -/
theorem bcell {W w1 : World} (hb : Below W.heap.size W w1) : (∀ b o, b < W.heap.size → w1.cell? ⟨b, o, none⟩ = W.cell? ⟨b, o, none⟩) ∧ (∀ b o, b < W.heap.size → w1.frozen? ⟨b, o, none⟩ = W.frozen? ⟨b, o, none⟩) :=
  ⟨fun b o h => hb.cell (p := ⟨b, o, none⟩) h, fun b o h => hb.frozen (p := ⟨b, o, none⟩) h⟩

/-- A draw turns no block. -/
theorem undrew {w w1 : World} (h : Below w.drew.heap.size w.drew w1) : Below w.heap.size w w1 := ⟨h.os, h.tape, h.output, h.size, h.block⟩

theorem Below.drewN {B : Nat} {a w : World} (h : Below B a w) (n : Nat) : Below B a (w.drewN n) := ⟨h.os, h.tape, h.output, h.size, h.block⟩

/-- Behind a call that left one block of ours alone: its cells are as they were. -/
theorem after1 {w w1 : World} {c : Array Value} {t : TypeId} (hb : Below (w.alloc (.cells c t)).heap.size (w.alloc (.cells c t)) w1) :
    w.heap.size < w1.heap.size ∧ (∀ i, w1.cell? ⟨w.heap.size, i, none⟩ = c[i]?) ∧ (∀ i, w1.frozen? ⟨w.heap.size, i, none⟩ = false) ∧ Below w.heap.size w w1 := by
  have hs := hb.size
  have hs' : w.heap.size + 1 ≤ w1.heap.size := by simpa using hs
  obtain ⟨hc, hf⟩ := bcell hb
  refine ⟨hs', fun i => ?_, fun i => ?_, (bel1 w _).trans (hb.mono (by simp))⟩
  · rw [hc _ _ (by simp)]; exact World.cell?_alloc_at _ _ _ _ rfl
  · rw [hf _ _ (by simp)]; exact World.frozen?_alloc_at _ _ _ _ rfl

/-- The same of two blocks. -/
theorem after2 {w w1 : World} {c d : Array Value} {t u : TypeId} (hb : Below ((w.alloc (.cells c t)).alloc (.cells d u)).heap.size ((w.alloc (.cells c t)).alloc (.cells d u)) w1) :
    w.heap.size + 1 < w1.heap.size ∧ w.heap.size < w1.heap.size ∧ (∀ i, w1.cell? ⟨w.heap.size, i, none⟩ = c[i]?) ∧ (∀ i, w1.frozen? ⟨w.heap.size, i, none⟩ = false) ∧ (∀ i, w1.cell? ⟨w.heap.size + 1, i, none⟩ = d[i]?) ∧ (∀ i, w1.frozen? ⟨w.heap.size + 1, i, none⟩ = false) ∧ Below w.heap.size w w1 := by
  have hs := hb.size
  have hs' : w.heap.size + 1 + 1 ≤ w1.heap.size := by simpa using hs
  have hb1 : Below (w.alloc (.cells c t)).heap.size (w.alloc (.cells c t)) w1 := (bel1 (w.alloc (.cells c t)) _).trans (hb.mono (by simp))
  obtain ⟨_, h2, h3, h4⟩ := after1 hb1
  obtain ⟨hc, hf⟩ := bcell hb
  refine ⟨hs', by omega, h2, h3, fun i => ?_, fun i => ?_, h4⟩
  · rw [hc _ _ (by simp)]; exact World.cell?_alloc_at _ _ _ _ (by simp)
  · rw [hf _ _ (by simp)]; exact World.frozen?_alloc_at _ _ _ _ (by simp)

/-- The same of three blocks. -/
theorem after3 {w w1 : World} {c d e : Array Value} {t u v : TypeId} (hb : Below (((w.alloc (.cells c t)).alloc (.cells d u)).alloc (.cells e v)).heap.size (((w.alloc (.cells c t)).alloc (.cells d u)).alloc (.cells e v)) w1) :
    w.heap.size + 1 + 1 < w1.heap.size ∧ w.heap.size + 1 < w1.heap.size ∧ w.heap.size < w1.heap.size ∧ (∀ i, w1.cell? ⟨w.heap.size, i, none⟩ = c[i]?) ∧ (∀ i, w1.frozen? ⟨w.heap.size, i, none⟩ = false) ∧ (∀ i, w1.cell? ⟨w.heap.size + 1, i, none⟩ = d[i]?) ∧ (∀ i, w1.frozen? ⟨w.heap.size + 1, i, none⟩ = false) ∧ (∀ i, w1.cell? ⟨w.heap.size + 1 + 1, i, none⟩ = e[i]?) ∧ (∀ i, w1.frozen? ⟨w.heap.size + 1 + 1, i, none⟩ = false) ∧ Below w.heap.size w w1 := by
  have hs := hb.size
  have hs' : w.heap.size + 1 + 1 + 1 ≤ w1.heap.size := by simpa using hs
  have hb1 : Below ((w.alloc (.cells c t)).alloc (.cells d u)).heap.size ((w.alloc (.cells c t)).alloc (.cells d u)) w1 := (bel1 ((w.alloc (.cells c t)).alloc (.cells d u)) _).trans (hb.mono (by simp))
  obtain ⟨_, h1, h2, h3, h4, h5, h6⟩ := after2 hb1
  obtain ⟨hc, hf⟩ := bcell hb
  refine ⟨hs', by omega, by omega, h2, h3, h4, h5, fun i => ?_, fun i => ?_, h6⟩
  · rw [hc _ _ (by simp)]; exact World.cell?_alloc_at _ _ _ _ (by simp)
  · rw [hf _ _ (by simp)]; exact World.frozen?_alloc_at _ _ _ _ (by simp)

/-- A block that stands is left alone by a call behind. -/
theorem keepB {w1 w2 : World} (hb : Below w1.heap.size w1 w2) {k : Nat} {c : Array Value} (hz : k < w1.heap.size) (hc : ∀ i, w1.cell? ⟨k, i, none⟩ = c[i]?) (hf : ∀ i, w1.frozen? ⟨k, i, none⟩ = false) :
    k < w2.heap.size ∧ (∀ i, w2.cell? ⟨k, i, none⟩ = c[i]?) ∧ (∀ i, w2.frozen? ⟨k, i, none⟩ = false) := by
  obtain ⟨h1, h2⟩ := bcell hb
  exact ⟨Nat.lt_of_lt_of_le hz hb.size, fun i => (h1 _ _ hz).trans (hc i), fun i => (h2 _ _ hz).trans (hf i)⟩

theorem run_bits (a : Nat) (w : World) : (callFunc 49 #[.float .f64 a]).run Try.prog w = .ok (.value (.int .u64 a)) w := by
  rw [run_callFunc_extern (e := Extern.MathFloatBits.float64bits) Try.func49 (by kernel_rfl) (by kernel_rfl) (by kernel_rfl) (by kernel_rfl)]
  rfl

theorem run_frombits (n : Int) (w : World) : (callFunc 48 #[.int .u64 n]).run Try.prog w = .ok (.value (.float .f64 n.toNat)) w := by
  rw [run_callFunc_extern (e := Extern.MathFloatBits.float64frombits) Try.func48 (by kernel_rfl) (by kernel_rfl) (by kernel_rfl) (by kernel_rfl)]
  rfl

/-- A sum of two words and a carry: its lower word, and what is carried; a difference likewise. -/
def addLo (x y c : Nat) : Nat := (x + y + c) % 18446744073709551616
def addHi (x y c : Nat) : Nat := (x + y + c) / 18446744073709551616
def subLo (x y b : Nat) : Nat := (x + 18446744073709551616 - y - b) % 18446744073709551616
def subHi (x y b : Nat) : Nat := if x < y + b then 1 else 0

theorem run_add64 (x y c : Nat) (hc : c ≤ 1) (w : World) : (callFunc 117 #[.int .u64 x, .int .u64 y, .int .u64 c]).run Try.prog w = .ok (.value (.tuple #[.int .u64 (addLo x y c), .int .u64 (addHi x y c)])) w := by
  rw [run_callFunc_extern (e := add64Entry) Try.func117 (by kernel_rfl) (by kernel_rfl) (by kernel_rfl) (by kernel_rfl)]
  have : c = 0 ∨ c = 1 := by omega
  rcases this with rfl | rfl <;> rfl

theorem run_add64_0 (x y : Nat) (w : World) : (callFunc 117 #[.int .u64 x, .int .u64 y, .int .u64 0]).run Try.prog w = .ok (.value (.tuple #[.int .u64 (addLo x y 0), .int .u64 (addHi x y 0)])) w := run_add64 x y 0 (by omega) w

def sub64Entry : Array Value → Sem Value := fun args => do
  let (x, y, b) ← Extern.MathBitsCarry.three "Sub64" args
  pure (Extern.MathBitsCarry.pair ((x + Extern.MathBitsCarry.m64 - y - b) % Extern.MathBitsCarry.m64) (if x < y + b then 1 else 0))

theorem run_sub64 (x y b : Nat) (hb : b ≤ 1) (w : World) : (callFunc 118 #[.int .u64 x, .int .u64 y, .int .u64 b]).run Try.prog w = .ok (.value (.tuple #[.int .u64 (subLo x y b), .int .u64 (subHi x y b)])) w := by
  rw [run_callFunc_extern (e := sub64Entry) Try.func118 (by kernel_rfl) (by kernel_rfl) (by kernel_rfl) (by kernel_rfl)]
  have : b = 0 ∨ b = 1 := by omega
  rcases this with rfl | rfl <;> rfl

theorem run_sub64_0 (x y : Nat) (w : World) : (callFunc 118 #[.int .u64 x, .int .u64 y, .int .u64 0]).run Try.prog w = .ok (.value (.tuple #[.int .u64 (subLo x y 0), .int .u64 (subHi x y 0)])) w := run_sub64 x y 0 (by omega) w

end Go.Proofs.Ytdppppaoflhgdaa
