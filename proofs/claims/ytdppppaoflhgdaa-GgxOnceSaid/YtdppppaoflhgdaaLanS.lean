
/- A calculator that is the first cell of a block of the caller's, and gets errors: what was there otherwise stays. No program is named here. -/
import Derived.Test.YtdppppaoflhgdaaQO1
namespace Go.Proofs.Ytdppppaoflhgdaa
open Go.RowKit

section
variable {B w v v' : World} {l : List (Nat × Array Value)} {p : Addr} {x y : Value}
theorem Own.srf {pb : Nat} {c : Array Value} (hC : Has1 w (pb, c)) (h0 : c[0]? = some x) : Own (w.setCell ⟨pb, 0, none⟩ x) [] w where
  base := ⟨rfl, rfl, rfl, by rw [size_set]; exact Nat.le_refl _, fun k _ => (set_self w ⟨pb, 0, none⟩ x ((hC.2.1 0).trans h0) k).symm⟩
  blocks := fun _ h => by cases h
  apart := List.Pairwise.nil
theorem resrf_base (h : Below (w.setCell p x).heap.size (w.setCell p x) v) (hb : Put p y v v') : Below (w.setCell p y).heap.size (w.setCell p y) v' := by
  have k := both h p y
  have k2 : Below v.heap.size (v.setCell p y) v' := hb
  have s := h.size
  rw [size_set] at s k ⊢
  have k3 := k.trans (k2.mono s)
  refine ⟨k3.os, k3.tape, k3.output, ?_, fun i hi => (k3.block i hi).trans (set_set w p x y i)⟩
  have := k3.size
  rw [size_set, size_set] at this
  rw [size_set]; exact this
theorem Own.resrf (h : Own (w.setCell p x) l v) (hp : p.block < w.heap.size) (hb : Put p y v v') : Own (w.setCell p y) l v' where
  base := resrf_base h.base hb
  blocks := fun q hq => by
    obtain ⟨h1, h2⟩ := h.blocks q hq
    rw [size_set] at h2 ⊢
    exact ⟨h1.put (by omega) hb, h2⟩
  apart := h.apart
theorem OwnF.resrf {zc : List (Array Value)} {pl : List (Option Nat)} (h : OwnF (w.setCell p x) l zc pl v) (hp : p.block < w.heap.size) (hb : Put p y v v') : OwnF (w.setCell p y) l zc pl v' :=
  ⟨h.own.resrf hp hb, fun m r hm => by
    obtain ⟨⟨c, h1, h2⟩, h3, h4⟩ := h.blk m r hm
    rw [size_set] at h3 ⊢
    exact ⟨⟨c, h1, h2.put (by show p.block ≠ r; omega) hb⟩, h3, h4⟩, h.apart⟩
theorem Has1.at {pb : Nat} {e x1 x2 x3 x4 x5 x6 : Value} (hC : Has1 w (pb, #[e, x1, x2, x3, x4, x5, x6])) (h : Own (w.setCell ⟨pb, 0, none⟩ y) l v) : Has1 v (pb, #[y, x1, x2, x3, x4, x5, x6]) :=
  (hC.setIn 0 y).below h.base
theorem Own.base_srf {pb : Nat} {e x1 x2 x3 x4 x5 x6 : Value} (h : Own (w.setCell ⟨pb, 0, none⟩ e) l v) (hC : Has1 w (pb, #[e, x1, x2, x3, x4, x5, x6])) : Below w.heap.size w v := put_same (hC.2.1 0) h.put
theorem Has1.c0 {pb : Nat} {e x1 x2 x3 x4 x5 x6 : Value} (h : Has1 v (pb, #[e, x1, x2, x3, x4, x5, x6])) : v.cell? ⟨pb, 0, none⟩ = some e := h.2.1 0
theorem Has1.seven {b : Nat} {x0 x1 x2 x3 x4 x5 x6 : Value} (h : Has1 v (b, #[x0, x1, x2, x3, x4, x5, x6])) :
    v.cell? ⟨b, 0, none⟩ = some x0 ∧ v.cell? ⟨b, 1, none⟩ = some x1 ∧ v.cell? ⟨b, 2, none⟩ = some x2 ∧ v.cell? ⟨b, 3, none⟩ = some x3 ∧ v.cell? ⟨b, 4, none⟩ = some x4 ∧ v.cell? ⟨b, 5, none⟩ = some x5 ∧ v.cell? ⟨b, 6, none⟩ = some x6 :=
  ⟨h.2.1 0, h.2.1 1, h.2.1 2, h.2.1 3, h.2.1 4, h.2.1 5, h.2.1 6⟩
theorem Has1.but0 {b : Nat} {x0 x1 x2 x3 x4 x5 x6 : Value} (h : Has1 v (b, #[x0, x1, x2, x3, x4, x5, x6])) :
    v.cell? ⟨b, 1, none⟩ = some x1 ∧ v.cell? ⟨b, 2, none⟩ = some x2 ∧ v.cell? ⟨b, 3, none⟩ = some x3 ∧ v.cell? ⟨b, 4, none⟩ = some x4 ∧ v.cell? ⟨b, 5, none⟩ = some x5 ∧ v.cell? ⟨b, 6, none⟩ = some x6 :=
  ⟨h.2.1 1, h.2.1 2, h.2.1 3, h.2.1 4, h.2.1 5, h.2.1 6⟩
/-- A call writes one cell of a block of ours. -/
theorem Own.putIn (h : Own B l v) (i : Nat) {q k : Nat} {c : Array Value} (hi : l[i]? = some (q, c)) (hb : Put ⟨q, k, none⟩ y v v') : Own B (l.set i (q, c.setIfInBounds k y)) v' :=
  h.at i hi (h.base.trans (hb.lift (h.lowest i hi) h.base.size)) (((h.nth i hi).setIn k y).below (by
    have k2 : Below v.heap.size (v.setCell ⟨q, k, none⟩ y) v' := hb
    rw [size_set]; exact k2)) (fun _ hx hne => hx.put hne hb)
end
end Go.Proofs.Ytdppppaoflhgdaa
