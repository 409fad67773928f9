
/- Blocks of a call's own, known whole, behind whatever it calls. No program is named here. -/
import Derived.Test.YtdppppaoflhgdaaPut
namespace Go.Proofs.Ytdppppaoflhgdaa
open Go.RowKit

/-- The block b holds the cells c, and may be written. -/
def Has1 (v : World) (p : Nat × Array Value) : Prop := p.1 < v.heap.size ∧ (∀ i, v.cell? ⟨p.1, i, none⟩ = p.2[i]?) ∧ ∀ i, v.frozen? ⟨p.1, i, none⟩ = false
theorem Has1.below {v v' : World} {p : Nat × Array Value} (h : Has1 v p) (hb : Below v.heap.size v v') : Has1 v' p := keepB hb h.1 h.2.1 h.2.2
theorem Has1.put {v v' : World} {p : Nat × Array Value} (h : Has1 v p) {a : Addr} {x : Value} (ha : a.block ≠ p.1) (hb : Put a x v v') : Has1 v' p := hb.block h.1 ha h.2.1 h.2.2
theorem Has1.made (v : World) (c : Array Value) (t : TypeId) : Has1 (v.alloc (.cells c t)) (v.heap.size, c) := ⟨by simp, fun i => World.cell?_alloc_at _ _ _ _ rfl, fun i => World.frozen?_alloc_at _ _ _ _ rfl⟩
theorem Has1.own {v v' : World} {b : Nat} {x y : Value} (h : Has1 v (b, #[x])) (hb : Put ⟨b, 0, none⟩ y v v') : Has1 v' (b, #[y]) := by
  have h0 : v.cell? ⟨b, 0, none⟩ = some x := h.2.1 0
  refine ⟨Nat.lt_of_lt_of_le h.1 hb.size, fun i => ?_, fun i => (hb.frozen (q := ⟨b, i, none⟩) h.1).trans (h.2.2 i)⟩
  match i with
  | 0 => exact hb.cell h0
  | n + 1 =>
    have h' : Below v.heap.size (v.setCell ⟨b, 0, none⟩ y) v' := hb
    rw [Below.cell h' h.1, World.cell?_setCell_other _ _ _ _ (by simp)]
    exact h.2.1 (n + 1)
theorem Has1.set {v : World} {p : Nat × Array Value} (h : Has1 v p) {a : Addr} {x : Value} (ha : a.block ≠ p.1) : Has1 (v.setCell a x) p :=
  ⟨by rw [size_set]; exact h.1, fun i => (World.cell?_setCell_other _ _ _ _ (fun e => ha (by rw [e]))).trans (h.2.1 i), fun i => (frozen_set _ _ _ _).trans (h.2.2 i)⟩

/-- What was there when the call began is as it was; and its own blocks are these. -/
structure Mem (B : World) (l : List (Nat × Array Value)) (v : World) : Prop where
  base : Below B.heap.size B v
  blocks : ∀ p, p ∈ l → Has1 v p

theorem Mem.nil (B : World) : Mem B [] B := ⟨Below.refl _ _, fun p h => by cases h⟩
theorem Mem.below {B v v' : World} {l : List (Nat × Array Value)} (h : Mem B l v) (hb : Below v.heap.size v v') : Mem B l v' := ⟨h.base.trans (hb.mono h.base.size), fun p hp => (h.blocks p hp).below hb⟩
theorem Mem.drew {B v : World} {l : List (Nat × Array Value)} (h : Mem B l v) : Mem B l v.drew := ⟨h.base.drew, h.blocks⟩
theorem Mem.made {B v : World} {l : List (Nat × Array Value)} (h : Mem B l v) (c : Array Value) (t : TypeId) : Mem B ((v.heap.size, c) :: l) (v.alloc (.cells c t)) :=
  ⟨h.base.alloc h.base.size _, fun p hp => by
    rcases List.mem_cons.1 hp with e | e
    · rw [e]; exact Has1.made v c t
    · exact (h.blocks p e).below (bel1 _ _)⟩
theorem Mem.put {B v v' : World} {l : List (Nat × Array Value)} {b : Nat} {x y : Value} (h : Mem B ((b, #[x]) :: l) v) (hb : Put ⟨b, 0, none⟩ y v v') (hB : B.heap.size ≤ b) (hl : ∀ p, p ∈ l → b ≠ p.1) : Mem B ((b, #[y]) :: l) v' :=
  ⟨h.base.trans (hb.lift hB h.base.size), fun p hp => by
    rcases List.mem_cons.1 hp with e | e
    · rw [e]; exact (h.blocks _ (List.mem_cons_self ..)).own hb
    · exact (h.blocks p (List.mem_cons_of_mem _ e)).put (hl p e) hb⟩
theorem Mem.sub {B v : World} {l k : List (Nat × Array Value)} (h : Mem B l v) (hk : ∀ p, p ∈ k → p ∈ l) : Mem B k v := ⟨h.base, fun p hp => h.blocks p (hk p hp)⟩
theorem Mem.nth {B v : World} {l : List (Nat × Array Value)} (h : Mem B l v) (i : Nat) {p : Nat × Array Value} (hp : l[i]? = some p) : Has1 v p := h.blocks p (List.mem_of_getElem? hp)
theorem Mem.size {B v : World} {l : List (Nat × Array Value)} (h : Mem B l v) (i : Nat) {p : Nat × Array Value} (hp : l[i]? = some p) : p.1 < v.heap.size := (h.nth i hp).1

/-- The two blocks that a call makes first. -/
theorem Mem.two (w : World) (c d : Array Value) (t u : TypeId) : Mem w [(w.heap.size, c), (w.heap.size + 1, d)] ((w.alloc (.cells c t)).alloc (.cells d u)) := by
  have h := ((Mem.nil w).made c t).made d u
  have e : (w.alloc (.cells c t)).heap.size = w.heap.size + 1 := by simp
  rw [e] at h
  exact h.sub (fun p hp => by simp at hp ⊢; rcases hp with h | h <;> simp [h])
/-- One cell is put, of a block of one, wherever it stands in the row. -/
theorem Mem.puts {B v v' : World} {l : List (Nat × Array Value)} {b : Nat} {x y : Value} (h : Mem B l v) (hx : Has1 v (b, #[x])) (hb : Put ⟨b, 0, none⟩ y v v') (hB : B.heap.size ≤ b) (k : List (Nat × Array Value)) (hk : ∀ p, p ∈ k → p = (b, #[y]) ∨ p ∈ l ∧ b ≠ p.1) : Mem B k v' :=
  ⟨h.base.trans (hb.lift hB h.base.size), fun p hp => by
    rcases hk p hp with e | ⟨e, e'⟩
    · rw [e]; exact hx.own hb
    · exact (h.blocks p e).put e' hb⟩

end Go.Proofs.Ytdppppaoflhgdaa
