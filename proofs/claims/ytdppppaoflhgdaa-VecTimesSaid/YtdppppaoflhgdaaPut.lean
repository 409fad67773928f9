
/- A call that writes one cell of what was there, and makes memory of its own: 'Put p v w w''. No program is named here. -/
import Derived.Test.YtdppppaoflhgdaaBase
namespace Go.Proofs.Ytdppppaoflhgdaa
open Go.RowKit

/-- Below what was there the world w' is as w was with v put at p. -/
def Put (p : Addr) (v : Value) (w w' : World) : Prop := Below w.heap.size (w.setCell p v) w'

/-- A store of a float. -/
theorem run_store_float (P : Program) (w : World) (a : Addr) (m : Mode) (k : FloatKind) (b : Nat) : (store a (.float k b) m).run P w = stored P w a (.float k b) m := run_store P w a _ m rfl

/-- What becomes of the block. -/
def putObj (p : Addr) (v : Value) : Obj → Obj
  | .cells c elem frozen => .cells (if p.spot.isSome then c else c.setIfInBounds p.off v) elem frozen
  | o => o

theorem heap_set (w : World) (p : Addr) (v : Value) (k : Nat) : (w.setCell p v).heap[k]? = if p.block = k then w.heap[k]?.map (putObj p v) else w.heap[k]? := by
  show (w.heap.modify p.block _)[k]? = _
  rw [Array.getElem?_modify]
  rfl

theorem size_set (w : World) (p : Addr) (v : Value) : (w.setCell p v).heap.size = w.heap.size := by simp [World.setCell]

theorem both {B : Nat} {a b : World} (h : Below B a b) (p : Addr) (v : Value) : Below B (a.setCell p v) (b.setCell p v) := by
  refine ⟨h.os, h.tape, h.output, by rw [size_set, size_set]; exact h.size, fun k hk => ?_⟩
  rw [heap_set, heap_set, h.block k hk]

theorem set_set (w : World) (p : Addr) (u v : Value) (k : Nat) : ((w.setCell p u).setCell p v).heap[k]? = (w.setCell p v).heap[k]? := by
  rw [heap_set, heap_set, heap_set]
  by_cases h : p.block = k
  · rw [if_pos h, if_pos h, if_pos h]
    cases hk : w.heap[k]? with
    | none => rfl
    | some o =>
      cases o with
      | cells c t f =>
        simp only [Option.map_some, putObj]
        by_cases hs : p.spot.isSome = true
        · simp [hs]
        · simp [hs]
      | _ => rfl
  · rw [if_neg h, if_neg h, if_neg h]

theorem set_self (w : World) (p : Addr) (v : Value) (h : w.cell? p = some v) (k : Nat) : (w.setCell p v).heap[k]? = w.heap[k]? := by
  rw [heap_set]
  by_cases hk : p.block = k
  · rw [if_pos hk]
    subst hk
    unfold World.cell? at h
    split at h
    · rename_i c e f hb
      rw [hb, Option.map_some]
      by_cases hs : p.spot.isSome = true
      · simp [putObj, hs]
      · simp only [putObj, hs] at h ⊢
        congr 2
        have hlt : p.off < c.size := by
          rcases Nat.lt_or_ge p.off c.size with h' | h'
          · exact h'
          · simp [Array.getElem?_eq_none h'] at h
        apply Array.ext
        · simp
        · intro i h1 h2
          by_cases hi : p.off = i
          · subst hi
            simp [hlt] at h ⊢
            exact h.symm
          · simp; exact Array.getElem_setIfInBounds_ne h2 hi
    · simp at h
  · rw [if_neg hk]

theorem cell_lt {w : World} {p : Addr} {v : Value} (h : w.cell? p = some v) : p.block < w.heap.size := by
  rcases Nat.lt_or_ge p.block w.heap.size with g | g
  · exact g
  · unfold World.cell? at h
    rw [Array.getElem?_eq_none g] at h
    simp at h

theorem Put.of_below {p : Addr} {v : Value} {w w' : World} (hc : w.cell? p = some v) (h : Below w.heap.size w w') : Put p v w w' :=
  ⟨h.os, h.tape, h.output, by rw [size_set]; exact h.size, fun k hk => (h.block k hk).trans (set_self w p v hc k).symm⟩

theorem Put.size {p : Addr} {v : Value} {w w' : World} (h : Put p v w w') : w.heap.size ≤ w'.heap.size := by
  have := Below.size h
  rw [size_set] at this
  exact this

theorem Put.trans {p : Addr} {u v : Value} {a b c : World} (h : Put p u a b) (k : Put p v b c) : Put p v a c := by
  have h' : Below a.heap.size (a.setCell p u) b := h
  have k' : Below b.heap.size (b.setCell p v) c := k
  have h1 := both h' p v
  have h2 := h1.trans (k'.mono h.size)
  refine ⟨h2.os, h2.tape, h2.output, ?_, fun i hi => (h2.block i hi).trans (set_set a p u v i)⟩
  have := h2.size
  rw [size_set, size_set] at this
  rw [size_set]
  exact this

theorem Put.below {p : Addr} {u : Value} {a b c : World} (h : Put p u a b) (k : Below b.heap.size b c) : Put p u a c := by
  have h' : Below a.heap.size (a.setCell p u) b := h
  exact h'.trans (k.mono h.size)

theorem Put.after {p : Addr} {u : Value} {a b c : World} (h : Below a.heap.size a b) (k : Put p u b c) : Put p u a c := by
  have k' : Below b.heap.size (b.setCell p u) c := k
  exact (both h p u).trans (k'.mono h.size)

theorem Put.cell {p : Addr} {u v : Value} {w w' : World} (h : Put p v w w') (hc : w.cell? p = some u) : w'.cell? p = some v := by
  have h' : Below w.heap.size (w.setCell p v) w' := h
  rw [Below.cell h' (cell_lt hc)]
  exact World.cell?_setCell_same _ _ _ hc

theorem frozen_set (w : World) (p : Addr) (v : Value) (q : Addr) : (w.setCell p v).frozen? q = w.frozen? q := by
  unfold World.frozen?
  rw [heap_set]
  by_cases h : p.block = q.block
  · rw [if_pos h]
    cases w.heap[q.block]? with
    | none => rfl
    | some o => cases o <;> rfl
  · rw [if_neg h]

theorem Put.frozen {p : Addr} {v : Value} {w w' : World} (h : Put p v w w') {q : Addr} (hq : q.block < w.heap.size) : w'.frozen? q = w.frozen? q := by
  have h' : Below w.heap.size (w.setCell p v) w' := h
  rw [Below.frozen h' hq, frozen_set]

theorem Put.other {p : Addr} {v : Value} {w w' : World} (h : Put p v w w') {q : Addr} (hq : q.block < w.heap.size) (hn : p.block ≠ q.block) : w'.cell? q = w.cell? q := by
  have h' : Below w.heap.size (w.setCell p v) w' := h
  rw [Below.cell h' hq]
  exact World.cell?_setCell_other _ _ _ _ (fun e => hn (by rw [e]))

/-- Blocks of ours, behind a call that wrote one cell of what was there ahead of them. -/
theorem Put.block {p : Addr} {v : Value} {w w' : World} (h : Put p v w w') {k : Nat} {c : Array Value} (hk : k < w.heap.size) (hn : p.block ≠ k) (hc : ∀ i, w.cell? ⟨k, i, none⟩ = c[i]?) (hf : ∀ i, w.frozen? ⟨k, i, none⟩ = false) :
    k < w'.heap.size ∧ (∀ i, w'.cell? ⟨k, i, none⟩ = c[i]?) ∧ (∀ i, w'.frozen? ⟨k, i, none⟩ = false) :=
  ⟨Nat.lt_of_lt_of_le hk h.size, fun i => (h.other (q := ⟨k, i, none⟩) hk hn).trans (hc i), fun i => (h.frozen (q := ⟨k, i, none⟩) hk).trans (hf i)⟩

/-- A Below as a Put, whatever the cell held: for uniform walks. -/
theorem Put.lift {B : Nat} {p : Addr} {v : Value} {w w' : World} (h : Put p v w w') (hp : B ≤ p.block) (hB : B ≤ w.heap.size) : Below B w w' := by
  have h' : Below w.heap.size (w.setCell p v) w' := h
  exact ((Below.refl B w).setCell hp v).trans (h'.mono hB)

end Go.Proofs.Ytdppppaoflhgdaa
