/- fresnel's functions, and burnishref06's, where an argument is refused. -/
import Derived.Test.YtoiaefgpegiieaaGreatKQTA
import Derived.LoopN
import Derived.Deep.RegionHeld3
namespace Go.Proofs.YtoiaefgpegiieaaGreat
open Go.RowKit

section
variable {P : Program} {ops : Array Oper} {Q : Exit → Act → World → Prop} {md : Region.Mode} {S : World → Prop} {T : List Nat}

def lstOf (L0 : Array Bool) (cs ms : List Nat) (k : Nat) (p : List Bool) : Array Bool :=
  (ms.zip p).foldl (fun l x => if x.2 then l.setIfInBounds x.1 true else l) ((cs.take k).foldl (fun l i => l.setIfInBounds i true) L0)
def boolLists : Nat → List (List Bool)
  | 0 => [[]]
  | n + 1 => (boolLists n).flatMap fun l => [false :: l, true :: l]
theorem mem_bools : ∀ (p : List Bool), p ∈ boolLists p.length
  | [] => by simp [boolLists]
  | b :: p => by
    have h := mem_bools p
    simp only [boolLists, List.length_cons, List.mem_flatMap]
    exact ⟨p, h, by cases b <;> simp⟩

def latAt (md : Region.Mode) (ops : Array Oper) (L0 : Array Bool) (cs ms : List Nat) (k : Nat) (p : List Bool) : Bool :=
  (decide (k = cs.length) && p.all id) ||
  (!(Region.ready md ops (lstOf L0 cs ms k p)).isEmpty &&
   (Region.ready md ops (lstOf L0 cs ms k p)).all (fun i =>
    (match cs[k]? with
      | some j => i == j && ((lstOf L0 cs ms k p).setIfInBounds i true == lstOf L0 cs ms (k + 1) p)
      | none => false) ||
    (List.range ms.length).any (fun m => ms[m]? == some i && p[m]? == some false && ((lstOf L0 cs ms k p).setIfInBounds i true == lstOf L0 cs ms k (p.set m true)))))
def latOk (md : Region.Mode) (ops : Array Oper) (L0 : Array Bool) (cs ms : List Nat) : Bool :=
  (List.range (cs.length + 1)).all fun k => (boolLists ms.length).all fun p => latAt md ops L0 cs ms k p

theorem count_set : ∀ (p : List (Option Nat)) (m q : Nat), p[m]? = some none → (p.set m (some q)).count none + 1 = p.count none
  | [], m, q, h => by simp at h
  | x :: p, 0, q, h => by
    simp at h
    subst h
    simp
  | x :: p, m + 1, q, h => by
    have ih := count_set p m q (by simpa using h)
    simp only [List.set_cons_succ, List.count_cons]
    omega
theorem count_nil : ∀ (p : List (Option Nat)), p.count none = 0 → ∀ x ∈ p, x.isSome = true
  | [], _, _, h => by cases h
  | y :: p, h, x, hx => by
    rw [List.count_cons] at h
    rcases List.mem_cons.1 hx with e | e
    · subst e
      cases x
      · simp at h
      · rfl
    · exact count_nil p (by omega) x e

theorem lat_any {L0 : Array Bool} {cs ms : List Nat} {N : Nat} (J : Nat → List (Option Nat) → Act → World → Prop) (hok : latOk md ops L0 cs ms = true)
    (hS : ∀ k p a w, J k p a w → S w)
    (call : ∀ k i p a w, cs[k]? = some i → J k p a w → wpOp P ops Q i (fun b v => J (k + 1) p b v) a w)
    (alloc : ∀ k m i p a w, ms[m]? = some i → p[m]? = some none → J k p a w → wpOp P ops Q i (fun b v => ∃ q, J k (p.set m (some q)) b v) a w)
    (fin : ∀ p a w, p.length = ms.length → (∀ x ∈ p, x.isSome = true) → J cs.length p a w → wpAnyV P md ops Q S T N (lstOf L0 cs ms cs.length (p.map Option.isSome)) a w) :
    ∀ (f k : Nat) (p : List (Option Nat)) (a : Act) (w : World), p.length = ms.length → k ≤ cs.length → f = (cs.length - k) + p.count none → J k p a w →
      wpAnyV P md ops Q S T (N + f) (lstOf L0 cs ms k (p.map Option.isSome)) a w
  | 0, k, p, a, w, hp, hk, hf, hJ => by
    obtain rfl : k = cs.length := by omega
    exact fin p a w hp (count_nil p (by omega)) hJ
  | f + 1, k, p, a, w, hp, hk, hf, hJ => by
    have hat : latAt md ops L0 cs ms k (p.map Option.isSome) = true := by
      unfold latOk at hok
      rw [List.all_eq_true] at hok
      have h1 := hok k (by simp; omega)
      rw [List.all_eq_true] at h1
      refine h1 _ ?_
      have := mem_bools (p.map Option.isSome)
      rw [List.length_map, hp] at this
      exact this
    have hnot : (decide (k = cs.length) && (p.map Option.isSome).all id) = false := by
      rw [Bool.eq_false_iff]
      intro h
      rw [Bool.and_eq_true, decide_eq_true_eq, List.all_eq_true] at h
      have hc : p.count none = 0 := by
        rw [List.count_eq_zero]
        intro hm
        have := h.2 false (by rw [List.mem_map]; exact ⟨none, hm, rfl⟩)
        simp at this
      omega
    unfold latAt at hat
    rw [hnot, Bool.false_or, Bool.and_eq_true, List.all_eq_true] at hat
    obtain ⟨hne, hall⟩ := hat
    refine ⟨fun h0 => by rw [h0] at hne; simp at hne, fun i hi => ?_⟩
    have hi' := hall i hi
    rw [Bool.or_eq_true] at hi'
    rcases hi' with h | h
    · cases hck : cs[k]? with
      | none => rw [hck] at h; simp at h
      | some j =>
        rw [hck] at h
        simp only [Bool.and_eq_true, beq_iff_eq] at h
        obtain ⟨rfl, hl⟩ := h
        have hk' : k < cs.length := by
          rcases Nat.lt_or_ge k cs.length with g | g
          · exact g
          · rw [List.getElem?_eq_none g] at hck; cases hck
        refine wpOp_mono (fun b v hb => ⟨Or.inr (hS _ _ _ _ hb), ?_⟩) (call k i p a w hck hJ)
        rw [hl]
        exact lat_any J hok hS call alloc fin f (k + 1) p b v hp (by omega) (by omega) hb
    · rw [List.any_eq_true] at h
      obtain ⟨m, hm, h⟩ := h
      simp only [Bool.and_eq_true, beq_iff_eq] at h
      obtain ⟨⟨h1, h2⟩, hl⟩ := h
      have h3 : p[m]? = some none := by
        rw [List.getElem?_map] at h2
        cases hpm : p[m]? with
        | none => rw [hpm] at h2; simp at h2
        | some x =>
          rw [hpm] at h2
          cases x
          · rfl
          · simp at h2
      refine wpOp_mono (fun b v hb => ?_) (alloc k m i p a w h1 h3 hJ)
      obtain ⟨q, hb⟩ := hb
      refine ⟨Or.inr (hS _ _ _ _ hb), ?_⟩
      have e : (p.map Option.isSome).set m true = (p.set m (some q)).map Option.isSome := by
        rw [List.map_set]; rfl
      rw [hl, e]
      exact lat_any J hok hS call alloc fin f k (p.set m (some q)) b v (by rw [List.length_set]; exact hp) hk (by have := count_set p m q h3; omega) hb
end
end Go.Proofs.YtoiaefgpegiieaaGreat

namespace Go.Proofs.YtoiaefgpegiieaaGreat
open Go.RowKit

structure Own (B : World) (l : List (Nat × Array Value)) (v : World) : Prop where
  base : Below B.heap.size B v
  blocks : ∀ x, x ∈ l → Has1 v x ∧ B.heap.size ≤ x.1
  apart : l.Pairwise (fun x y => x.1 ≠ y.1)

section
variable {B v v' : World} {l : List (Nat × Array Value)}
theorem Own.nil (B : World) : Own B [] B := ⟨Below.refl _ _, fun x h => (by cases h), List.Pairwise.nil⟩
theorem Own.below (h : Own B l v) (hb : Below v.heap.size v v') : Own B l v' := ⟨h.base.trans (hb.mono h.base.size), fun x hx => ⟨(h.blocks x hx).1.below hb, (h.blocks x hx).2⟩, h.apart⟩
theorem Own.drew (h : Own B l v) : Own B l v.drew := ⟨h.base.drew, h.blocks, h.apart⟩
theorem Own.drewN (h : Own B l v) (n : Nat) : Own B l (v.drewN n) := ⟨Below.drewN h.base n, h.blocks, h.apart⟩
theorem Own.made (h : Own B l v) (c : Array Value) (t : TypeId) : Own B ((v.heap.size, c) :: l) (v.alloc (.cells c t)) :=
  ⟨h.base.alloc h.base.size _, fun x hx => (by
    rcases List.mem_cons.1 hx with e | e
    · rw [e]; exact ⟨Has1.made v c t, h.base.size⟩
    · exact ⟨(h.blocks x e).1.below (bel1 _ _), (h.blocks x e).2⟩),
   List.Pairwise.cons (fun y hy => Ne.symm (Nat.ne_of_lt (h.blocks y hy).1.1)) h.apart⟩
theorem Own.nth (h : Own B l v) (i : Nat) {x : Nat × Array Value} (hx : l[i]? = some x) : Has1 v x := (h.blocks x (List.mem_of_getElem? hx)).1
theorem Own.lowest (h : Own B l v) (i : Nat) {x : Nat × Array Value} (hx : l[i]? = some x) : B.heap.size ≤ x.1 := (h.blocks x (List.mem_of_getElem? hx)).2
theorem Own.size (h : Own B l v) (i : Nat) {x : Nat × Array Value} (hx : l[i]? = some x) : x.1 < v.heap.size := (h.nth i hx).1
theorem Own.mem (h : Own B l v) : Mem B l v := ⟨h.base, fun x hx => (h.blocks x hx).1⟩
theorem Own.ne (h : Own B l v) (i j : Nat) {x y : Nat × Array Value} (hx : l[i]? = some x) (hy : l[j]? = some y) (hij : i ≠ j) : x.1 ≠ y.1 := by
  obtain ⟨li, ei⟩ := List.getElem?_eq_some_iff.1 hx
  obtain ⟨lj, ej⟩ := List.getElem?_eq_some_iff.1 hy
  have hp := List.pairwise_iff_getElem.1 h.apart
  rcases Nat.lt_or_ge i j with g | g
  · rw [← ei, ← ej]; exact hp i j li lj g
  · rw [← ei, ← ej]; exact Ne.symm (hp j i lj li (by omega))
theorem Own.at (h : Own B l v) (i : Nat) {q : Nat} {c c' : Array Value} (hi : l[i]? = some (q, c)) (hbase : Below B.heap.size B v') (hq : Has1 v' (q, c')) (hother : ∀ x, Has1 v x → q ≠ x.1 → Has1 v' x) : Own B (l.set i (q, c')) v' where
  base := hbase
  blocks := fun x hx => by
    obtain ⟨j, lj, ej⟩ := List.mem_iff_getElem.1 hx
    rw [List.getElem_set] at ej
    split at ej
    · rw [← ej]; exact ⟨hq, (h.lowest i hi : B.heap.size ≤ (q, c).1)⟩
    · rename_i hne
      rw [List.length_set] at lj
      have hj : l[j]? = some x := by rw [List.getElem?_eq_getElem lj, ej]
      exact ⟨hother x (h.nth j hj) (h.ne i j hi hj hne), h.lowest j hj⟩
  apart := by
    rw [List.pairwise_iff_getElem]
    have hp := List.pairwise_iff_getElem.1 h.apart
    obtain ⟨li, ei⟩ := List.getElem?_eq_some_iff.1 hi
    have e1 : ∀ (j : Nat) (lj : j < (l.set i (q, c')).length), ((l.set i (q, c'))[j]).1 = (l[j]'(by rw [List.length_set] at lj; exact lj)).1 := fun j lj => by
      rw [List.getElem_set]
      split
      · rename_i he
        subst he
        rw [ei]
      · rfl
    intro j k lj lk hjk
    rw [e1 j lj, e1 k lk]
    rw [List.length_set] at lj lk
    exact hp j k lj lk hjk
theorem Own.putAt (h : Own B l v) (i : Nat) {q : Nat} {x y : Value} (hi : l[i]? = some (q, #[x])) (hb : Put ⟨q, 0, none⟩ y v v') : Own B (l.set i (q, #[y])) v' :=
  h.at i hi (h.base.trans (hb.lift (h.lowest i hi) h.base.size)) ((h.nth i hi).own hb) (fun _ hx hne => hx.put hne hb)
theorem Own.set2 (h : Own B l v) (i : Nat) {q : Nat} {x y : Value} (hi : l[i]? = some (q, #[x, y])) (x' y' : Value) : Own B (l.set i (q, #[x', y'])) ((v.setCell ⟨q, 0, none⟩ x').setCell ⟨q, 1, none⟩ y') :=
  h.at i hi ((h.base.setCell (h.lowest i hi) _).setCell (h.lowest i hi) _) ((h.nth i hi).set2 x' y') (fun _ hx hne => (hx.set hne).set hne)
end

structure OwnF (B : World) (l : List (Nat × Array Value)) (zc : List (Array Value)) (p : List (Option Nat)) (v : World) : Prop where
  own : Own B l v
  blk : ∀ (m q : Nat), p[m]? = some (some q) → (∃ c, zc[m]? = some c ∧ Has1 v (q, c)) ∧ B.heap.size ≤ q ∧ ∀ x, x ∈ l → q ≠ x.1
  apart : ∀ (m n q : Nat), p[m]? = some (some q) → p[n]? = some (some q) → m = n

section
variable {B v v' : World} {l : List (Nat × Array Value)} {zc : List (Array Value)} {p : List (Option Nat)}
theorem OwnF.start (h : Own B l v) (n : Nat) : OwnF B l zc (List.replicate n none) v :=
  ⟨h, fun m q hm => by simp [List.getElem?_replicate] at hm, fun m n' q hm => by simp [List.getElem?_replicate] at hm⟩
theorem OwnF.below (h : OwnF B l zc p v) (hb : Below v.heap.size v v') : OwnF B l zc p v' :=
  ⟨h.own.below hb, fun m q hm => by
    obtain ⟨⟨c, h1, h2⟩, h3⟩ := h.blk m q hm
    exact ⟨⟨c, h1, h2.below hb⟩, h3⟩, h.apart⟩
theorem OwnF.putAt (h : OwnF B l zc p v) (i : Nat) {q : Nat} {x0 y : Value} (hi : l[i]? = some (q, #[x0])) (hb : Put ⟨q, 0, none⟩ y v v') : OwnF B (l.set i (q, #[y])) zc p v' :=
  ⟨h.own.putAt i hi hb, fun m r hm => by
    obtain ⟨⟨c, h1, h2⟩, h3, h4⟩ := h.blk m r hm
    refine ⟨⟨c, h1, h2.put (Ne.symm (h4 _ (List.mem_of_getElem? hi))) hb⟩, h3, fun x hx => ?_⟩
    rcases List.mem_or_eq_of_mem_set hx with e | e
    · exact h4 x e
    · rw [e]; exact (h4 _ (List.mem_of_getElem? hi) : r ≠ (q, #[x0]).1), h.apart⟩
theorem OwnF.alloc (h : OwnF B l zc p v) {m : Nat} {c : Array Value} (_hm : p[m]? = some none) (hz : zc[m]? = some c) (t : TypeId) : OwnF B l zc (p.set m (some v.heap.size)) (v.alloc (.cells c t)) where
  own := h.own.below (bel1 _ _)
  blk := fun n q hn => by
    rw [List.getElem?_set] at hn
    split at hn
    · rename_i e
      subst e
      split at hn
      · simp at hn
        subst hn
        exact ⟨⟨c, hz, Has1.made v c t⟩, h.own.base.size, fun x hx => Ne.symm (Nat.ne_of_lt (h.own.blocks x hx).1.1)⟩
      · simp at hn
    · obtain ⟨⟨c', h1, h2⟩, h3⟩ := h.blk n q hn
      exact ⟨⟨c', h1, h2.below (bel1 _ _)⟩, h3⟩
  apart := fun n n' q hn hn' => by
    have key : ∀ j, (p.set m (some v.heap.size))[j]? = some (some q) → (j = m ∧ q = v.heap.size) ∨ (j ≠ m ∧ p[j]? = some (some q)) := fun j hj => by
      rw [List.getElem?_set] at hj
      split at hj
      · rename_i e
        split at hj
        · simp at hj; exact Or.inl ⟨e.symm, hj.symm⟩
        · simp at hj
      · rename_i e; exact Or.inr ⟨fun e' => e e'.symm, hj⟩
    have small : ∀ j, p[j]? = some (some q) → q < v.heap.size := fun j hj => by
      obtain ⟨⟨c', _, h2⟩, _⟩ := h.blk j q hj
      exact h2.1
    rcases key n hn with ⟨e1, e2⟩ | ⟨e1, e2⟩ <;> rcases key n' hn' with ⟨g1, g2⟩ | ⟨g1, g2⟩
    · omega
    · have := small n' g2; omega
    · have := small n e2; omega
    · exact h.apart n n' q e2 g2
theorem OwnF.fin1 {c1 : Array Value} {q1 : Nat} (h : OwnF B l [c1] [some q1] v) : Own B ((q1, c1) :: l) v := by
  obtain ⟨⟨c, a1, a2⟩, a3, a4⟩ := h.blk 0 q1 rfl
  obtain rfl : c1 = c := by simpa using a1
  refine ⟨h.own.base, fun x hx => ?_, List.Pairwise.cons (fun y hy => a4 y hy) h.own.apart⟩
  rcases List.mem_cons.1 hx with e | e
  · rw [e]; exact ⟨a2, a3⟩
  · exact h.own.blocks x e
end

section
variable {P : Program} {ops : Array Oper} {Q : Exit → Act → World → Prop} {md : Region.Mode} {S : World → Prop} {T : List Nat}
theorem op_step {i : Nat} {o : Oper} {a : Act} {w : World} {J : Act → World → Prop} (hi : ops[i]? = some o)
    (h : ∀ K : Act → World → Prop, Shut (∀ b v, J b v → K b v) → if Region.wanted o (yielded ops a.tmps) then o.wp P a w K Q else K (a.put o.dst undef) w) : wpOp P ops Q i J a w := by
  have k := h J (fun _ _ h => h)
  unfold wpOp
  simp only [hi]
  split at k
  · rename_i hw
    rw [if_pos hw]; exact Or.inl k
  · rename_i hw
    rw [if_neg hw]; exact k

theorem put_ex {a : Act} {s : Nat} (h : s < a.tmps.size) : ∃ y, a.put (some s) y = a := by
  refine ⟨a.tmps[s], ?_⟩
  cases a
  simp only [Act.put]
  congr 1
  apply Array.ext (by simp)
  intro i h1 h2
  rw [Array.getElem_setIfInBounds]
  split
  · rename_i e; subst e; rfl
  · rfl
end
theorem fin_one {p : List (Option Nat)} (hp : p.length = 1) (h : ∀ x ∈ p, x.isSome = true) : ∃ q, p = [some q] := by
  match p, hp with
  | [some q], _ => exact ⟨q, rfl⟩
  | [none], _ => exact absurd (h none (by simp)) (by decide)
theorem ptr_set {p : List (Option Nat)} {m n q : Nat} (h : (p.set m (some n))[m]? = some (some q)) : (.pointer (some ⟨n, 0, none⟩) : Value) = .pointer (some ⟨q, 0, none⟩) := by
  rw [List.getElem?_set, if_pos rfl] at h
  split at h
  · simp at h; rw [h]
  · simp at h
section
variable {P : Program} {ops : Array Oper} {Q : Exit → Act → World → Prop} {md : Region.Mode} {S : World → Prop} {T : List Nat}
end
end Go.Proofs.YtoiaefgpegiieaaGreat

namespace Go.Proofs.YtoiaefgpegiieaaGreat
open Go.RowKit

section
variable {P : Program} {ops : Array Oper} {Q : Exit → Act → World → Prop} {md : Region.Mode} {S : World → Prop} {T : List Nat}

end
end Go.Proofs.YtoiaefgpegiieaaGreat

namespace Go.Proofs.YtoiaefgpegiieaaGreat
open Go.RowKit

abbrev RowL := List (Nat × Array Value)
section
variable {B v : World} {l : RowL} {x y z : Nat × Array Value}
theorem Own.front (h : Own B (x :: y :: l) v) : Own B (y :: x :: l) v := by
  have h1 := List.pairwise_cons.1 h.apart
  have h2 := List.pairwise_cons.1 h1.2
  refine ⟨h.base, fun r hr => h.blocks r ?_, ?_⟩
  · simp only [List.mem_cons] at hr ⊢
    rcases hr with e | e | e <;> simp [e]
  · refine List.pairwise_cons.2 ⟨fun r hr => ?_, List.pairwise_cons.2 ⟨fun r hr => h1.1 r (List.mem_cons_of_mem _ hr), h2.2⟩⟩
    rcases List.mem_cons.1 hr with e | e
    · rw [e]; exact Ne.symm (h1.1 y (List.mem_cons_self ..))
    · exact h2.1 r e
theorem Own.under (h : Own B (x :: y :: z :: l) v) : Own B (x :: z :: y :: l) v := by
  have h1 := List.pairwise_cons.1 h.apart
  have k : Own B (y :: z :: l) v := ⟨h.base, fun r hr => h.blocks r (List.mem_cons_of_mem _ hr), h1.2⟩
  have k' := k.front
  refine ⟨h.base, fun r hr => ?_, List.pairwise_cons.2 ⟨fun r hr => h1.1 r ?_, k'.apart⟩⟩
  · rcases List.mem_cons.1 hr with e | e
    · rw [e]; exact h.blocks x (List.mem_cons_self ..)
    · exact k'.blocks r e
  · simp only [List.mem_cons] at hr ⊢
    rcases hr with e | e | e <;> simp [e]
end
section
variable {B v v' : World} {l : RowL} {q : Nat} {x y x' y' : Value} {z : Nat × Array Value}
theorem Own.putHead (h : Own B ((q, #[x]) :: l) v) (hb : Put ⟨q, 0, none⟩ y v v') : Own B ((q, #[y]) :: l) v' := h.putAt 0 rfl hb
theorem OwnF.putHead {zc : List (Array Value)} {p : List (Option Nat)} (h : OwnF B ((q, #[x]) :: l) zc p v) (hb : Put ⟨q, 0, none⟩ y v v') : OwnF B ((q, #[y]) :: l) zc p v' := h.putAt 0 rfl hb
end
theorem tk {P : Program} {ops : Array Oper} {Q : Exit → Act → World → Prop} {md : Region.Mode} {S : World → Prop} {o : Oper} {x : Value} {n : Nat} {listed : Array Bool} {a : Act} {w : World} (i : Nat) (hi : ops[i]? = some o)
    (hb : (Region.noSelect ops && Region.free md ops listed i && (Region.ready md ops listed).contains i && closedB md ops listed) = true)
    (hy : Region.wanted o (yielded ops a.tmps) = true ∧ ∀ w, S w → (execOp a.eval o).run P w = .ok (.value x) w) (hQ : ∀ c a w, Q (.panic c) (a.put o.dst x) w → Q (.panic c) a w) (hS : S w)
    (h : wpAnyV P md ops Q S [] n (listed.setIfInBounds i true) (a.put o.dst x) w) : wpAnyV P md ops Q S [] (n + 1) listed a w := by
  simp only [Bool.and_eq_true] at hb
  exact tails_take hi hb.1.1.1 hb.1.1.2 hb.1.2 (by rw [hb.2]; rfl) hQ (Or.inl hy) hS h

abbrev K1 (f : FuncId) (e e' : Int) (al ah rl rh : Nat) : Prop := ∀ (pb : Nat) (v : World), Has1 v (pb, #[.int .i64 e]) → Calls Tryz.prog f #[.pointer (some ⟨pb, 0, none⟩), .agg #[.float .f64 al, .float .f64 ah]] v fun r w' => r = .returned (.agg #[.float .f64 rl, .float .f64 rh]) ∧ Put ⟨pb, 0, none⟩ (.int .i64 e') v w'
end Go.Proofs.YtoiaefgpegiieaaGreat

namespace Go.Proofs.YtoiaefgpegiieaaGreat
open Go.RowKit
attribute [local go_sem] run_store_float

def clampW (x : Nat) : Nat := minW (maxW x 0) u1
theorem clamp_facts {x : Nat} (lx : x < 18446744073709551616) (rx : rightB x = true) : clampW x < 18446744073709551616 ∧ rightB (clampW x) = true ∧ val (clampW x) = min (max (val x) 0) (val u1) := by
  obtain ⟨m1, m2, m3⟩ := max_facts x 0 lx (by decide) rx (by decide)
  obtain ⟨n1, n2, n3⟩ := min_facts (maxW x 0) u1 m1 (by decide) m2 (by decide)
  refine ⟨n1, n2, ?_⟩
  show val (minW (maxW x 0) u1) = _
  rw [n3, m3]; rfl

set_option maxRecDepth 100000 in
theorem end_any (x : Nat) (w : World) (hx : x < 18446744073709551616) (rx : rightB x = true) :
    Calls Tryz.prog 52 #[.float .f64 x, .float .f64 0, .float .f64 4607182418800017408] w fun r w' => r = .returned (.float .f64 (clampW x)) ∧ Below w.heap.size w w' := by
  have o1 : (FloatKind.f64.format.order x 0 == some Ordering.lt) = decide (val x < val 0) := order_lt x 0 hx (by decide) rx (by decide)
  have o2 : (FloatKind.f64.format.order x 4607182418800017408 == some Ordering.gt) = decide (val u1 < val x) := order_gt x u1 hx (by decide) rx (by decide)
  have e : clampW x = if val x < val 0 then 0 else if val u1 < val x then u1 else x := by
    have hz : ¬ val u1 < val 0 := by decide +kernel
    unfold clampW maxW minW
    by_cases g : val x < val 0
    · rw [if_pos g, if_pos g, if_neg hz]
    · rw [if_neg g, if_neg g]
  rw [e]
  clear e
  by_cases g1 : val x < val 0
  · rw [if_pos g1]
    rw [decide_eq_true g1] at o1
    clear o2 g1
    go_enter Tryz.func52, Tryz.ntmps52
    go_wp2
    go_ret
    exact ⟨rfl, Below.refl _ _⟩
  · rw [if_neg g1]
    rw [decide_eq_false g1] at o1
    by_cases g2 : val u1 < val x
    · rw [if_pos g2]
      rw [decide_eq_true g2] at o2
      clear g1 g2
      go_enter Tryz.func52, Tryz.ntmps52
      go_wp2
      go_ret
      exact ⟨rfl, Below.refl _ _⟩
    · rw [if_neg g2]
      rw [decide_eq_false g2] at o2
      clear g1 g2
      go_enter Tryz.func52, Tryz.ntmps52
      go_wp2
      go_ret
      exact ⟨rfl, Below.refl _ _⟩

set_option maxRecDepth 100000 in
theorem kept_walk (a b x y : Nat) (w : World) (c1 : Hid (∀ w, Calls Tryz.prog 52 #[.float .f64 a, .float .f64 0, .float .f64 4607182418800017408] w fun r w' => r = .returned (.float .f64 x) ∧ Below w.heap.size w w'))
    (c2 : Hid (∀ w, Calls Tryz.prog 52 #[.float .f64 b, .float .f64 0, .float .f64 4607182418800017408] w fun r w' => r = .returned (.float .f64 y) ∧ Below w.heap.size w w')) :
    Calls Tryz.prog 27 #[.agg #[.float .f64 a, .float .f64 b], .float .f64 0, .float .f64 4607182418800017408] w fun r w' => r = .returned (.agg #[.float .f64 x, .float .f64 y]) ∧ Below w.heap.size w w' := by
  have M := Lib.hid (((Own.nil w).made #[.float .f64 a, .float .f64 b] 24).made #[.float .f64 0, .float .f64 0] 24)
  simp only [World.size_alloc] at M
  go_enter Tryz.func27, Tryz.ntmps27
  go_upto_region 1 with fail
  replace M := Lib.hid M.out.drew
  revert M
  generalize ((w.alloc (.cells #[.float .f64 a, .float .f64 b] 24)).alloc (.cells #[.float .f64 0, .float .f64 0] 24)) = W
  intro M
  obtain ⟨k1, k2⟩ := (M.out.nth 1 rfl).two
  have kc := (M.out.nth 0 rfl).2.1
  have kf := (M.out.nth 0 rfl).2.2
  go_region_held3 (fun w' => w'.cell? ⟨w.heap.size, 0, none⟩ = some (.float .f64 a) ∧ w'.cell? ⟨w.heap.size, 1, none⟩ = some (.float .f64 b)) (((try dsimp only); (repeat' apply And.intro); all_goals (repeat (first | (with_reducible assumption) | ((with_reducible refine keep_undrew ?_); (with_reducible assumption)) | (with_reducible refine keep_drew ?_) | (with_reducible refine keep_set _ (by first | (with_reducible assumption) | omega) ?_)))))
    (first
      | (go_at_call 52; (with_reducible refine (c1.out _).mono ?_); rintro rr w5 ⟨rfl, hb⟩; replace M := Lib.hid (M.out.below hb); clear hb k1 k2 kc kf; obtain ⟨k1, k2⟩ := (M.out.nth 1 rfl).two; have kc := (M.out.nth 0 rfl).2.1; have kf := (M.out.nth 0 rfl).2.2)
      | (go_at_call 52; (with_reducible refine (c2.out _).mono ?_); rintro rr w5 ⟨rfl, hb⟩; replace M := Lib.hid (M.out.below hb); clear hb k1 k2 kc kf; obtain ⟨k1, k2⟩ := (M.out.nth 1 rfl).two; have kc := (M.out.nth 0 rfl).2.1; have kf := (M.out.nth 0 rfl).2.2))
  replace M := Lib.hid (M.out.set2 0 rfl (.float .f64 x) (.float .f64 y))
  go_wp2
  obtain ⟨f1, f2⟩ := (M.out.nth 0 rfl).two
  exact bodyPost_ret (v := .agg #[.float .f64 x, .float .f64 y]) (by simp [results, Tryz.results27, go_sem, f1, f2]) rfl ⟨rfl, M.out.base⟩
theorem kept_any (a b : Nat) (w : World) (ha : a < 18446744073709551616) (hb : b < 18446744073709551616) (ra : rightB a = true) (rb : rightB b = true) :
    Calls Tryz.prog 27 #[.agg #[.float .f64 a, .float .f64 b], .float .f64 0, .float .f64 4607182418800017408] w fun r w' => r = .returned (.agg #[.float .f64 (clampW a), .float .f64 (clampW b)]) ∧ Below w.heap.size w w' :=
  kept_walk a b _ _ w (Lib.hid fun w => end_any a w ha ra) (Lib.hid fun w => end_any b w hb rb)

def okB (lo hi a b : Nat) : Bool := decide (val lo ≤ val a) && decide (val b ≤ val hi)

set_option maxRecDepth 100000 in
theorem within6_any (a b lo hi : Nat) (w : World) (ha : a < 18446744073709551616) (hb : b < 18446744073709551616) (ra : rightB a = true) (rb : rightB b = true) (hl : lo < 18446744073709551616) (hh : hi < 18446744073709551616) (rl : rightB lo = true) (rh : rightB hi = true) :
    Calls Tryz.prog 17 #[.agg #[.float .f64 a, .float .f64 b], .float .f64 lo, .float .f64 hi] w fun r w' => r = .returned (.bool (okB lo hi a b)) ∧ Below w.heap.size w w' := by
  have o1 : ((FloatKind.f64.format.order a lo == some Ordering.gt) || (FloatKind.f64.format.order a lo == some Ordering.eq)) = decide (val lo ≤ val a) := by
    rw [order_gt a lo ha hl ra rl, order_eq a lo ha hl ra rl]
    by_cases g : val lo ≤ val a
    · rw [decide_eq_true g]
      by_cases g2 : val lo < val a
      · rw [decide_eq_true g2]; rfl
      · rw [decide_eq_true (show val a = val lo by omega), Bool.or_true]
    · rw [decide_eq_false g, decide_eq_false (show ¬ val lo < val a by omega), decide_eq_false (show ¬ val a = val lo by omega)]; rfl
  have o2 : ((FloatKind.f64.format.order b hi == some Ordering.lt) || (FloatKind.f64.format.order b hi == some Ordering.eq)) = decide (val b ≤ val hi) := order_le b hi hb hh rb rh
  unfold okB
  revert o1 o2
  generalize decide (val lo ≤ val a) = p
  generalize decide (val b ≤ val hi) = q
  intro o1 o2
  clear ha hb ra rb hl hh rl rh
  have M := Lib.hid ((Own.nil w).made #[.float .f64 a, .float .f64 b] 24)
  obtain ⟨k1, k2⟩ := (M.out.nth 0 rfl).two
  cases p
  · go_enter Tryz.func17, Tryz.ntmps17
    go_wp2
    go_ret
    exact ⟨rfl, M.out.base⟩
  · go_enter Tryz.func17, Tryz.ntmps17
    go_wp2
    go_ret
    exact ⟨by rw [← o2]; rfl, M.out.base⟩

theorem Has1.four {v : World} {b : Nat} {x0 x1 x2 x3 : Value} (h : Has1 v (b, #[x0, x1, x2, x3])) :
    v.cell? ⟨b, 0, none⟩ = some x0 ∧ v.cell? ⟨b, 1, none⟩ = some x1 ∧ v.cell? ⟨b, 2, none⟩ = some x2 ∧ v.cell? ⟨b, 3, none⟩ = some x3 :=
  ⟨h.2.1 0, h.2.1 1, h.2.1 2, h.2.1 3⟩

end Go.Proofs.YtoiaefgpegiieaaGreat

namespace Go.Proofs.YtoiaefgpegiieaaGreat
open Go.RowKit

def sqrtR (a : Res) : Res := sqrtI a.lo a.hi
structure V3 where
  x : Res
  y : Res
  z : Res
structure FitV (a : V3) : Prop where
  x : Fit a.x
  y : Fit a.y
  z : Fit a.z
structure InV (a b : V3) : Prop where
  x : In a.x b.x
  y : In a.y b.y
  z : In a.z b.z
theorem InV.refl {a : V3} (h : FitV a) : InV a a := ⟨.refl h.x, .refl h.y, .refl h.z⟩
theorem InV.fit {a b : V3} (h : InV a b) : FitV a := ⟨h.x.fit, h.y.fit, h.z.fit⟩

section
variable {e e' : Int} {a A b B : V3} {k K : Res}
end

end Go.Proofs.YtoiaefgpegiieaaGreat

namespace Go.Proofs.YtoiaefgpegiieaaGreat
open Go.RowKit

def clampR (a : Res) : Res := ⟨a.e, clampW a.lo, clampW a.hi⟩
def maxR (a b : Res) : Res := maxI a.lo a.hi b.lo b.hi
theorem sqrt_in {a A : Res} (ha : In a A) (fA : Fit A) (he : (sqrtR A).e = 0) : In (sqrtR a) (sqrtR A) := ask_in a A a A 7 (by decide) ha fA ha fA he
theorem max_in {a A b B : Res} (ha : In a A) (fA : Fit A) (hb : In b B) (fB : Fit B) (he : (maxR A B).e = 0) : In (maxR a b) (maxR A B) := ask_in a A b B 5 (by decide) ha fA hb fB he
theorem clamp_fit {a : Res} (h : Fit a) : Fit (clampR a) := by
  obtain ⟨l1, l2, l3⟩ := clamp_facts h.lo h.rlo
  obtain ⟨m1, m2, m3⟩ := clamp_facts h.hi h.rhi
  have hle := h.le
  refine ⟨h.e, l1, m1, ?_⟩
  show ivR (clampW a.lo) (clampW a.hi) = true
  unfold ivR leB
  rw [l2, m2, decide_eq_true (show val (clampW a.lo) ≤ val (clampW a.hi) by rw [l3, m3]; omega)]; rfl
theorem clamp_in {a A : Res} (h : In a A) (fA : Fit A) : In (clampR a) (clampR A) := by
  refine ⟨clamp_fit h.fit, ?_, ?_⟩
  · show val (clampW A.lo) ≤ val (clampW a.lo)
    rw [(clamp_facts h.fit.lo h.fit.rlo).2.2, (clamp_facts fA.lo fA.rlo).2.2]
    have := h.lo
    omega
  · show val (clampW a.hi) ≤ val (clampW A.hi)
    rw [(clamp_facts h.fit.hi h.fit.rhi).2.2, (clamp_facts fA.hi fA.rhi).2.2]
    have := h.hi
    omega

def unitR : Res := ⟨0, 0, u1⟩
def allR : Res := ⟨0, 9218868437227405311 + 9223372036854775808, 9218868437227405311⟩
theorem unit_fit : Fit unitR := .of (by decide +kernel)
theorem all_fit : Fit allR := .of (by decide +kernel)
theorem clamp_unit {a : Res} (h : Fit a) : In (clampR a) unitR := by
  refine ⟨clamp_fit h, ?_, ?_⟩
  · show val 0 ≤ val (clampW a.lo)
    rw [(clamp_facts h.lo h.rlo).2.2, show val 0 = 0 from by decide +kernel]
    have : (0 : Int) ≤ val u1 := by decide +kernel
    omega
  · show val (clampW a.hi) ≤ val u1
    rw [(clamp_facts h.hi h.rhi).2.2]
    omega
theorem all_num (x : Nat) (_lx : x < 18446744073709551616) (rx : rightB x = true) : val allR.lo ≤ val x ∧ val x ≤ val allR.hi := by
  have r := rung_max rx
  have s := steps_le r
  have e1 : val allR.hi = (steps 9218868437227405311 : Int) := val_pos (by decide)
  have e2 : val allR.lo = -(steps 9218868437227405311 : Int) := val_negs (by decide)
  rw [e1, e2]
  generalize steps 9218868437227405311 = S at s
  cases hs : sgnB x
  · rw [val_pos hs]; omega
  · rw [val_negs hs]; omega
theorem all_in {a : Res} (h : Fit a) : In a allR := by
  have num : ∀ x, x < 18446744073709551616 → rightB x = true → val allR.lo ≤ val x ∧ val x ≤ val allR.hi := fun x lx rx => all_num x lx rx
  exact ⟨h, (num _ h.lo h.rlo).1, (num _ h.hi h.rhi).2⟩

def bigC : Res := ⟨0, 0, 4607182418800017408⟩
def bigN : Res := ⟨0, 4607463893776728064, 4616189618054758400⟩
def bigM : Res := ⟨0, 4589168020290535424, 4625196817309499392⟩

def Di.s2 (_c n : Res) : Res := sqrR (n)
def Di.s3 (c n : Res) : Res := subR (Di.s2 c n) (oneR 4607182418800017408)
def Di.s4 (c _n : Res) : Res := sqrR (c)
def Di.s5 (c n : Res) : Res := addR (Di.s3 c n) (Di.s4 c n)
def Di.g (c n : Res) : Res := sqrtR (Di.s5 c n)
def Di.more (c n : Res) : Res := addR (Di.g c n) (c)
def Di.less (c n : Res) : Res := subR (Di.g c n) (c)
def Di.pq (c n : Res) : Res := divR (Di.less c n) (Di.more c n)
def Di.p (c n : Res) : Res := sqrR (Di.pq c n)
def Di.m11 (c n : Res) : Res := mulR (c) (Di.more c n)
def Di.over (c n : Res) : Res := subR (Di.m11 c n) (oneR 4607182418800017408)
def Di.m13 (c n : Res) : Res := mulR (c) (Di.less c n)
def Di.under (c n : Res) : Res := addR (Di.m13 c n) (oneR 4607182418800017408)
def Di.qq (c n : Res) : Res := divR (Di.over c n) (Di.under c n)
def Di.q (c n : Res) : Res := sqrR (Di.qq c n)
def Di.hp (c n : Res) : Res := mulR (oneR 4602678819172646912) (Di.p c n)
def Di.oq (c n : Res) : Res := addR (oneR 4607182418800017408) (Di.q c n)
def Di.f (c n : Res) : Res := mulR (Di.hp c n) (Di.oq c n)
def Di.out (c n : Res) : Res := clampR (Di.f c n)

structure Di.Fits (c n : Res) : Prop where
  fc : Fit c
  fn : Fit n
  s2' : Fit (Di.s2 c n)
  s3' : Fit (Di.s3 c n)
  s4' : Fit (Di.s4 c n)
  s5' : Fit (Di.s5 c n)
  g' : Fit (Di.g c n)
  more' : Fit (Di.more c n)
  less' : Fit (Di.less c n)
  pq' : Fit (Di.pq c n)
  p' : Fit (Di.p c n)
  m11' : Fit (Di.m11 c n)
  over' : Fit (Di.over c n)
  m13' : Fit (Di.m13 c n)
  under' : Fit (Di.under c n)
  qq' : Fit (Di.qq c n)
  q' : Fit (Di.q c n)
  hp' : Fit (Di.hp c n)
  oq' : Fit (Di.oq c n)
  f' : Fit (Di.f c n)
  out' : Fit (Di.out c n)

structure Di.Parts (c n C N : Res) : Prop where
  s2' : In (Di.s2 c n) (Di.s2 C N)
  s3' : In (Di.s3 c n) (Di.s3 C N)
  s4' : In (Di.s4 c n) (Di.s4 C N)
  s5' : In (Di.s5 c n) (Di.s5 C N)
  g' : In (Di.g c n) (Di.g C N)
  more' : In (Di.more c n) (Di.more C N)
  less' : In (Di.less c n) (Di.less C N)
  pq' : In (Di.pq c n) (Di.pq C N)
  p' : In (Di.p c n) (Di.p C N)
  m11' : In (Di.m11 c n) (Di.m11 C N)
  over' : In (Di.over c n) (Di.over C N)
  m13' : In (Di.m13 c n) (Di.m13 C N)
  under' : In (Di.under c n) (Di.under C N)
  qq' : In (Di.qq c n) (Di.qq C N)
  q' : In (Di.q c n) (Di.q C N)
  hp' : In (Di.hp c n) (Di.hp C N)
  oq' : In (Di.oq c n) (Di.oq C N)
  f' : In (Di.f c n) (Di.f C N)
  out' : In (Di.out c n) (Di.out C N)

theorem Di.parts {c n C N : Res} (D : Di.Fits C N) (iic : In c C) (iin : In n N) : Di.Parts c n C N := by
  have j_s2 : In (Di.s2 c n) (Di.s2 C N) := sqr_in iin D.fn D.s2'.e
  have j_s3 : In (Di.s3 c n) (Di.s3 C N) := sub_in j_s2 D.s2' (.refl (one_fit (by decide) (by decide) : Fit (oneR 4607182418800017408))) (one_fit (by decide) (by decide) : Fit (oneR 4607182418800017408)) D.s3'.e
  have j_s4 : In (Di.s4 c n) (Di.s4 C N) := sqr_in iic D.fc D.s4'.e
  have j_s5 : In (Di.s5 c n) (Di.s5 C N) := add_in j_s3 D.s3' j_s4 D.s4' D.s5'.e
  have j_g : In (Di.g c n) (Di.g C N) := sqrt_in j_s5 D.s5' D.g'.e
  have j_more : In (Di.more c n) (Di.more C N) := add_in j_g D.g' iic D.fc D.more'.e
  have j_less : In (Di.less c n) (Di.less C N) := sub_in j_g D.g' iic D.fc D.less'.e
  have j_pq : In (Di.pq c n) (Di.pq C N) := div_in j_less D.less' j_more D.more' D.pq'.e
  have j_p : In (Di.p c n) (Di.p C N) := sqr_in j_pq D.pq' D.p'.e
  have j_m11 : In (Di.m11 c n) (Di.m11 C N) := mul_in iic D.fc j_more D.more' D.m11'.e
  have j_over : In (Di.over c n) (Di.over C N) := sub_in j_m11 D.m11' (.refl (one_fit (by decide) (by decide) : Fit (oneR 4607182418800017408))) (one_fit (by decide) (by decide) : Fit (oneR 4607182418800017408)) D.over'.e
  have j_m13 : In (Di.m13 c n) (Di.m13 C N) := mul_in iic D.fc j_less D.less' D.m13'.e
  have j_under : In (Di.under c n) (Di.under C N) := add_in j_m13 D.m13' (.refl (one_fit (by decide) (by decide) : Fit (oneR 4607182418800017408))) (one_fit (by decide) (by decide) : Fit (oneR 4607182418800017408)) D.under'.e
  have j_qq : In (Di.qq c n) (Di.qq C N) := div_in j_over D.over' j_under D.under' D.qq'.e
  have j_q : In (Di.q c n) (Di.q C N) := sqr_in j_qq D.qq' D.q'.e
  have j_hp : In (Di.hp c n) (Di.hp C N) := mul_in (.refl (one_fit (by decide) (by decide) : Fit (oneR 4602678819172646912))) (one_fit (by decide) (by decide) : Fit (oneR 4602678819172646912)) j_p D.p' D.hp'.e
  have j_oq : In (Di.oq c n) (Di.oq C N) := add_in (.refl (one_fit (by decide) (by decide) : Fit (oneR 4607182418800017408))) (one_fit (by decide) (by decide) : Fit (oneR 4607182418800017408)) j_q D.q' D.oq'.e
  have j_f : In (Di.f c n) (Di.f C N) := mul_in j_hp D.hp' j_oq D.oq' D.f'.e
  have j_out : In (Di.out c n) (Di.out C N) := clamp_in j_f D.f'
  exact ⟨j_s2, j_s3, j_s4, j_s5, j_g, j_more, j_less, j_pq, j_p, j_m11, j_over, j_m13, j_under, j_qq, j_q, j_hp, j_oq, j_f, j_out⟩
theorem Di.Parts.fits {c n C N : Res} (P : Di.Parts c n C N) (fc : Fit c) (fn : Fit n) : Di.Fits c n := ⟨fc, fn, P.s2'.fit, P.s3'.fit, P.s4'.fit, P.s5'.fit, P.g'.fit, P.more'.fit, P.less'.fit, P.pq'.fit, P.p'.fit, P.m11'.fit, P.over'.fit, P.m13'.fit, P.under'.fit, P.qq'.fit, P.q'.fit, P.hp'.fit, P.oq'.fit, P.f'.fit, P.out'.fit⟩
theorem Di.big : Di.Fits bigC bigN := ⟨.of (by decide +kernel), .of (by decide +kernel), .of (by decide +kernel), .of (by decide +kernel), .of (by decide +kernel), .of (by decide +kernel), .of (by decide +kernel), .of (by decide +kernel), .of (by decide +kernel), .of (by decide +kernel), .of (by decide +kernel), .of (by decide +kernel), .of (by decide +kernel), .of (by decide +kernel), .of (by decide +kernel), .of (by decide +kernel), .of (by decide +kernel), .of (by decide +kernel), .of (by decide +kernel), .of (by decide +kernel), .of (by decide +kernel)⟩

def Co.c2 (c _h _k : Res) : Res := sqrR (c)
def Co.s3 (c h k : Res) : Res := subR (oneR 4607182418800017408) (Co.c2 c h k)
def Co.s2 (c h k : Res) : Res := clampR (Co.s3 c h k)
def Co.e2 (_c h _k : Res) : Res := sqrR (h)
def Co.k2 (_c _h k : Res) : Res := sqrR (k)
def Co.ek (c h k : Res) : Res := mulR (Co.e2 c h k) (Co.k2 c h k)
def Co.t11 (c h k : Res) : Res := subR (Co.e2 c h k) (Co.k2 c h k)
def Co.t0 (c h k : Res) : Res := subR (Co.t11 c h k) (Co.s2 c h k)
def Co.q13 (c h k : Res) : Res := sqrR (Co.t0 c h k)
def Co.m15 (c h k : Res) : Res := mulR (oneR 4616189618054758400) (Co.ek c h k)
def Co.a16 (c h k : Res) : Res := addR (Co.q13 c h k) (Co.m15 c h k)
def Co.ab (c h k : Res) : Res := sqrtR (Co.a16 c h k)
def Co.a18 (c h k : Res) : Res := addR (Co.ab c h k) (Co.t0 c h k)
def Co.x20 (c h k : Res) : Res := maxR (Co.a18 c h k) (oneR 0)
def Co.m21 (c h k : Res) : Res := mulR (oneR 4602678819172646912) (Co.x20 c h k)
def Co.a (c h k : Res) : Res := sqrtR (Co.m21 c h k)
def Co.t1 (c h k : Res) : Res := addR (Co.ab c h k) (Co.c2 c h k)
def Co.m25 (c h k : Res) : Res := mulR (oneR 4611686018427387904) (Co.a c h k)
def Co.t2 (c h k : Res) : Res := mulR (Co.m25 c h k) (c)
def Co.n27 (c h k : Res) : Res := subR (Co.t1 c h k) (Co.t2 c h k)
def Co.d27 (c h k : Res) : Res := addR (Co.t1 c h k) (Co.t2 c h k)
def Co.r27 (c h k : Res) : Res := divR (Co.n27 c h k) (Co.d27 c h k)
def Co.rs (c h k : Res) : Res := clampR (Co.r27 c h k)
def Co.m29 (c h k : Res) : Res := mulR (Co.c2 c h k) (Co.ab c h k)
def Co.q30 (c h k : Res) : Res := sqrR (Co.s2 c h k)
def Co.t3 (c h k : Res) : Res := addR (Co.m29 c h k) (Co.q30 c h k)
def Co.t4 (c h k : Res) : Res := mulR (Co.t2 c h k) (Co.s2 c h k)
def Co.n33 (c h k : Res) : Res := subR (Co.t3 c h k) (Co.t4 c h k)
def Co.d33 (c h k : Res) : Res := addR (Co.t3 c h k) (Co.t4 c h k)

structure Co.Fits (c h k : Res) : Prop where
  fc : Fit c
  fh : Fit h
  fk : Fit k
  c2' : Fit (Co.c2 c h k)
  s3' : Fit (Co.s3 c h k)
  s2' : Fit (Co.s2 c h k)
  e2' : Fit (Co.e2 c h k)
  k2' : Fit (Co.k2 c h k)
  ek' : Fit (Co.ek c h k)
  t11' : Fit (Co.t11 c h k)
  t0' : Fit (Co.t0 c h k)
  q13' : Fit (Co.q13 c h k)
  m15' : Fit (Co.m15 c h k)
  a16' : Fit (Co.a16 c h k)
  ab' : Fit (Co.ab c h k)
  a18' : Fit (Co.a18 c h k)
  x20' : Fit (Co.x20 c h k)
  m21' : Fit (Co.m21 c h k)
  a' : Fit (Co.a c h k)
  t1' : Fit (Co.t1 c h k)
  m25' : Fit (Co.m25 c h k)
  t2' : Fit (Co.t2 c h k)
  n27' : Fit (Co.n27 c h k)
  d27' : Fit (Co.d27 c h k)
  r27' : Fit (Co.r27 c h k)
  rs' : Fit (Co.rs c h k)
  m29' : Fit (Co.m29 c h k)
  q30' : Fit (Co.q30 c h k)
  t3' : Fit (Co.t3 c h k)
  t4' : Fit (Co.t4 c h k)
  n33' : Fit (Co.n33 c h k)
  d33' : Fit (Co.d33 c h k)

structure Co.Parts (c h k C H K : Res) : Prop where
  c2' : In (Co.c2 c h k) (Co.c2 C H K)
  s3' : In (Co.s3 c h k) (Co.s3 C H K)
  s2' : In (Co.s2 c h k) (Co.s2 C H K)
  e2' : In (Co.e2 c h k) (Co.e2 C H K)
  k2' : In (Co.k2 c h k) (Co.k2 C H K)
  ek' : In (Co.ek c h k) (Co.ek C H K)
  t11' : In (Co.t11 c h k) (Co.t11 C H K)
  t0' : In (Co.t0 c h k) (Co.t0 C H K)
  q13' : In (Co.q13 c h k) (Co.q13 C H K)
  m15' : In (Co.m15 c h k) (Co.m15 C H K)
  a16' : In (Co.a16 c h k) (Co.a16 C H K)
  ab' : In (Co.ab c h k) (Co.ab C H K)
  a18' : In (Co.a18 c h k) (Co.a18 C H K)
  x20' : In (Co.x20 c h k) (Co.x20 C H K)
  m21' : In (Co.m21 c h k) (Co.m21 C H K)
  a' : In (Co.a c h k) (Co.a C H K)
  t1' : In (Co.t1 c h k) (Co.t1 C H K)
  m25' : In (Co.m25 c h k) (Co.m25 C H K)
  t2' : In (Co.t2 c h k) (Co.t2 C H K)
  n27' : In (Co.n27 c h k) (Co.n27 C H K)
  d27' : In (Co.d27 c h k) (Co.d27 C H K)
  r27' : In (Co.r27 c h k) (Co.r27 C H K)
  rs' : In (Co.rs c h k) (Co.rs C H K)
  m29' : In (Co.m29 c h k) (Co.m29 C H K)
  q30' : In (Co.q30 c h k) (Co.q30 C H K)
  t3' : In (Co.t3 c h k) (Co.t3 C H K)
  t4' : In (Co.t4 c h k) (Co.t4 C H K)
  n33' : In (Co.n33 c h k) (Co.n33 C H K)
  d33' : In (Co.d33 c h k) (Co.d33 C H K)

theorem Co.parts {c h k C H K : Res} (D : Co.Fits C H K) (iic : In c C) (iih : In h H) (iik : In k K) : Co.Parts c h k C H K := by
  have j_c2 : In (Co.c2 c h k) (Co.c2 C H K) := sqr_in iic D.fc D.c2'.e
  have j_s3 : In (Co.s3 c h k) (Co.s3 C H K) := sub_in (.refl (one_fit (by decide) (by decide) : Fit (oneR 4607182418800017408))) (one_fit (by decide) (by decide) : Fit (oneR 4607182418800017408)) j_c2 D.c2' D.s3'.e
  have j_s2 : In (Co.s2 c h k) (Co.s2 C H K) := clamp_in j_s3 D.s3'
  have j_e2 : In (Co.e2 c h k) (Co.e2 C H K) := sqr_in iih D.fh D.e2'.e
  have j_k2 : In (Co.k2 c h k) (Co.k2 C H K) := sqr_in iik D.fk D.k2'.e
  have j_ek : In (Co.ek c h k) (Co.ek C H K) := mul_in j_e2 D.e2' j_k2 D.k2' D.ek'.e
  have j_t11 : In (Co.t11 c h k) (Co.t11 C H K) := sub_in j_e2 D.e2' j_k2 D.k2' D.t11'.e
  have j_t0 : In (Co.t0 c h k) (Co.t0 C H K) := sub_in j_t11 D.t11' j_s2 D.s2' D.t0'.e
  have j_q13 : In (Co.q13 c h k) (Co.q13 C H K) := sqr_in j_t0 D.t0' D.q13'.e
  have j_m15 : In (Co.m15 c h k) (Co.m15 C H K) := mul_in (.refl (one_fit (by decide) (by decide) : Fit (oneR 4616189618054758400))) (one_fit (by decide) (by decide) : Fit (oneR 4616189618054758400)) j_ek D.ek' D.m15'.e
  have j_a16 : In (Co.a16 c h k) (Co.a16 C H K) := add_in j_q13 D.q13' j_m15 D.m15' D.a16'.e
  have j_ab : In (Co.ab c h k) (Co.ab C H K) := sqrt_in j_a16 D.a16' D.ab'.e
  have j_a18 : In (Co.a18 c h k) (Co.a18 C H K) := add_in j_ab D.ab' j_t0 D.t0' D.a18'.e
  have j_x20 : In (Co.x20 c h k) (Co.x20 C H K) := max_in j_a18 D.a18' (.refl (one_fit (by decide) (by decide) : Fit (oneR 0))) (one_fit (by decide) (by decide) : Fit (oneR 0)) D.x20'.e
  have j_m21 : In (Co.m21 c h k) (Co.m21 C H K) := mul_in (.refl (one_fit (by decide) (by decide) : Fit (oneR 4602678819172646912))) (one_fit (by decide) (by decide) : Fit (oneR 4602678819172646912)) j_x20 D.x20' D.m21'.e
  have j_a : In (Co.a c h k) (Co.a C H K) := sqrt_in j_m21 D.m21' D.a'.e
  have j_t1 : In (Co.t1 c h k) (Co.t1 C H K) := add_in j_ab D.ab' j_c2 D.c2' D.t1'.e
  have j_m25 : In (Co.m25 c h k) (Co.m25 C H K) := mul_in (.refl (one_fit (by decide) (by decide) : Fit (oneR 4611686018427387904))) (one_fit (by decide) (by decide) : Fit (oneR 4611686018427387904)) j_a D.a' D.m25'.e
  have j_t2 : In (Co.t2 c h k) (Co.t2 C H K) := mul_in j_m25 D.m25' iic D.fc D.t2'.e
  have j_n27 : In (Co.n27 c h k) (Co.n27 C H K) := sub_in j_t1 D.t1' j_t2 D.t2' D.n27'.e
  have j_d27 : In (Co.d27 c h k) (Co.d27 C H K) := add_in j_t1 D.t1' j_t2 D.t2' D.d27'.e
  have j_r27 : In (Co.r27 c h k) (Co.r27 C H K) := div_in j_n27 D.n27' j_d27 D.d27' D.r27'.e
  have j_rs : In (Co.rs c h k) (Co.rs C H K) := clamp_in j_r27 D.r27'
  have j_m29 : In (Co.m29 c h k) (Co.m29 C H K) := mul_in j_c2 D.c2' j_ab D.ab' D.m29'.e
  have j_q30 : In (Co.q30 c h k) (Co.q30 C H K) := sqr_in j_s2 D.s2' D.q30'.e
  have j_t3 : In (Co.t3 c h k) (Co.t3 C H K) := add_in j_m29 D.m29' j_q30 D.q30' D.t3'.e
  have j_t4 : In (Co.t4 c h k) (Co.t4 C H K) := mul_in j_t2 D.t2' j_s2 D.s2' D.t4'.e
  have j_n33 : In (Co.n33 c h k) (Co.n33 C H K) := sub_in j_t3 D.t3' j_t4 D.t4' D.n33'.e
  have j_d33 : In (Co.d33 c h k) (Co.d33 C H K) := add_in j_t3 D.t3' j_t4 D.t4' D.d33'.e
  exact ⟨j_c2, j_s3, j_s2, j_e2, j_k2, j_ek, j_t11, j_t0, j_q13, j_m15, j_a16, j_ab, j_a18, j_x20, j_m21, j_a, j_t1, j_m25, j_t2, j_n27, j_d27, j_r27, j_rs, j_m29, j_q30, j_t3, j_t4, j_n33, j_d33⟩
theorem Co.Parts.fits {c h k C H K : Res} (P : Co.Parts c h k C H K) (fc : Fit c) (fh : Fit h) (fk : Fit k) : Co.Fits c h k := ⟨fc, fh, fk, P.c2'.fit, P.s3'.fit, P.s2'.fit, P.e2'.fit, P.k2'.fit, P.ek'.fit, P.t11'.fit, P.t0'.fit, P.q13'.fit, P.m15'.fit, P.a16'.fit, P.ab'.fit, P.a18'.fit, P.x20'.fit, P.m21'.fit, P.a'.fit, P.t1'.fit, P.m25'.fit, P.t2'.fit, P.n27'.fit, P.d27'.fit, P.r27'.fit, P.rs'.fit, P.m29'.fit, P.q30'.fit, P.t3'.fit, P.t4'.fit, P.n33'.fit, P.d33'.fit⟩
theorem Co.big : Co.Fits bigC bigM bigM := ⟨.of (by decide +kernel), .of (by decide +kernel), .of (by decide +kernel), .of (by decide +kernel), .of (by decide +kernel), .of (by decide +kernel), .of (by decide +kernel), .of (by decide +kernel), .of (by decide +kernel), .of (by decide +kernel), .of (by decide +kernel), .of (by decide +kernel), .of (by decide +kernel), .of (by decide +kernel), .of (by decide +kernel), .of (by decide +kernel), .of (by decide +kernel), .of (by decide +kernel), .of (by decide +kernel), .of (by decide +kernel), .of (by decide +kernel), .of (by decide +kernel), .of (by decide +kernel), .of (by decide +kernel), .of (by decide +kernel), .of (by decide +kernel), .of (by decide +kernel), .of (by decide +kernel), .of (by decide +kernel), .of (by decide +kernel), .of (by decide +kernel), .of (by decide +kernel)⟩

def Co.r33 (c h k : Res) : Res := divR (Co.n33 c h k) (Co.d33 c h k)
def Co.m34 (c h k : Res) : Res := mulR (Co.rs c h k) (Co.r33 c h k)
def Co.rp (c h k : Res) : Res := clampR (Co.m34 c h k)
def Co.a36 (c h k : Res) : Res := addR (Co.rs c h k) (Co.rp c h k)
def Co.f (c h k : Res) : Res := mulR (oneR 4602678819172646912) (Co.a36 c h k)
def Co.out (c h k : Res) : Res := if (Co.r33 c h k).e = 0 then Co.f c h k else ⟨(Co.r33 c h k).e, 0, 0⟩
structure Co.Last (c h k : Res) : Prop where
  r33' : Fit (Co.r33 c h k)
  m34' : Fit (Co.m34 c h k)
  rp' : Fit (Co.rp c h k)
  a36' : Fit (Co.a36 c h k)
  f' : Fit (Co.f c h k)
theorem Co.Fits.last {c h k : Res} (D : Co.Fits c h k) (he : (Co.r33 c h k).e = 0) : Co.Last c h k := by
  have j1 : Fit (Co.r33 c h k) := ask_fit (Co.n33 c h k) (Co.d33 c h k) 3 (by decide) D.n33' D.d33' he
  have u := clamp_unit D.r27'
  have j2 : In (Co.m34 c h k) (mulR unitR allR) := mul_in u unit_fit (all_in j1) all_fit (by decide +kernel)
  have j3 : In (Co.rp c h k) unitR := clamp_unit j2.fit
  have j4 : In (Co.a36 c h k) (addR unitR unitR) := add_in u unit_fit j3 unit_fit (by decide +kernel)
  have j5 : In (Co.f c h k) (mulR (oneR 4602678819172646912) (addR unitR unitR)) := mul_in (.refl (one_fit (by decide) (by decide))) (one_fit (by decide) (by decide)) j4 (.of (by decide +kernel)) (by decide +kernel)
  exact ⟨j1, j2.fit, j3.fit, j4.fit, j5.fit⟩
end Go.Proofs.YtoiaefgpegiieaaGreat

namespace Go.Proofs.YtoiaefgpegiieaaGreat
open Go.RowKit
attribute [local go_sem] run_store_float

structure EnvE (B : World) (pb : Nat) (e : Int) (l : List (Nat × Array Value)) (v : World) : Prop where
  put : Put ⟨pb, 0, none⟩ (.int .i64 e) B v
  cal : Has1 v (pb, #[.int .i64 e])
  blocks : ∀ p, p ∈ l → Has1 v p ∧ pb ≠ p.1

theorem Has1.six {v : World} {b : Nat} {x0 x1 x2 x3 x4 x5 : Value} (h : Has1 v (b, #[x0, x1, x2, x3, x4, x5])) : v.cell? ⟨b, 0, none⟩ = some x0 ∧ v.cell? ⟨b, 1, none⟩ = some x1 ∧ v.cell? ⟨b, 2, none⟩ = some x2 ∧ v.cell? ⟨b, 3, none⟩ = some x3 ∧ v.cell? ⟨b, 4, none⟩ = some x4 ∧ v.cell? ⟨b, 5, none⟩ = some x5 := ⟨h.2.1 0, h.2.1 1, h.2.1 2, h.2.1 3, h.2.1 4, h.2.1 5⟩
section
variable {B v v' : World} {pb : Nat} {e e' : Int} {l : List (Nat × Array Value)}
theorem EnvE.start (h : Has1 B (pb, #[.int .i64 e])) : EnvE B pb e [] B := ⟨Put.of_below h.pc (Below.refl _ _), h, fun p hp => by cases hp⟩
theorem EnvE.add (h : EnvE B pb e l v) {p : Nat × Array Value} (hp : Has1 v p) (hn : pb ≠ p.1) : EnvE B pb e (p :: l) v :=
  ⟨h.put, h.cal, fun q hq => by
    rcases List.mem_cons.1 hq with g | g
    · rw [g]; exact ⟨hp, hn⟩
    · exact h.blocks q g⟩
theorem EnvE.below (h : EnvE B pb e l v) (hb : Below v.heap.size v v') : EnvE B pb e l v' := ⟨h.put.below hb, h.cal.below hb, fun p hp => ⟨(h.blocks p hp).1.below hb, (h.blocks p hp).2⟩⟩
theorem EnvE.putc (h : EnvE B pb e l v) (hp : Put ⟨pb, 0, none⟩ (.int .i64 e') v v') : EnvE B pb e' l v' := ⟨h.put.trans hp, h.cal.own hp, fun p hq => ⟨(h.blocks p hq).1.put (h.blocks p hq).2 hp, (h.blocks p hq).2⟩⟩
theorem EnvE.drew (h : EnvE B pb e l v) : EnvE B pb e l v.drew := ⟨h.put.below (Below.refl _ _).drew, h.cal, h.blocks⟩
theorem EnvE.made (h : EnvE B pb e l v) (c : Array Value) (t : TypeId) : EnvE B pb e ((v.heap.size, c) :: l) (v.alloc (.cells c t)) :=
  (h.below (bel1 _ _)).add (Has1.made v c t) (Nat.ne_of_lt h.cal.1)
theorem EnvE.sub (h : EnvE B pb e l v) {k : List (Nat × Array Value)} (hk : ∀ p, p ∈ k → p ∈ l) : EnvE B pb e k v := ⟨h.put, h.cal, fun p hp => h.blocks p (hk p hp)⟩
theorem EnvE.nth (h : EnvE B pb e l v) (i : Nat) {p : Nat × Array Value} (hp : l[i]? = some p) : Has1 v p := (h.blocks p (List.mem_of_getElem? hp)).1
theorem EnvE.ne (h : EnvE B pb e l v) (i : Nat) {p : Nat × Array Value} (hp : l[i]? = some p) : pb ≠ p.1 := (h.blocks p (List.mem_of_getElem? hp)).2
theorem EnvE.set2 (h : EnvE B pb e l v) {q : Nat} {x y : Value} (hx : Has1 v (q, #[x, y])) (hn : pb ≠ q) (hB : B.heap.size ≤ q) (x' y' : Value) : EnvE B pb e [(q, #[x', y'])] ((v.setCell ⟨q, 0, none⟩ x').setCell ⟨q, 1, none⟩ y') where
  put := by
    have hb : Below B.heap.size (B.setCell ⟨pb, 0, none⟩ (.int .i64 e)) v := h.put
    exact (hb.setCell hB _).setCell hB _
  cal := (h.cal.set (Ne.symm hn)).set (Ne.symm hn)
  blocks := fun p hp => by
    rw [List.mem_singleton] at hp
    rw [hp]; exact ⟨hx.set2 _ _, hn⟩
end

structure Wd (a : Res) : Prop where
  lo : a.lo < 18446744073709551616
  hi : a.hi < 18446744073709551616
end Go.Proofs.YtoiaefgpegiieaaGreat

namespace Go.Proofs.YtoiaefgpegiieaaGreat
open Go.RowKit
attribute [local go_sem] run_store_float

abbrev CD2 (f : FuncId) (pb : Nat) (e e' : Int) (al ah bl bh rl rh : Nat) : Prop := ∀ v : World, Has1 v (pb, #[.int .i64 e]) → Calls Tryz.prog f #[.pointer (some ⟨pb, 0, none⟩), .agg #[.float .f64 al, .float .f64 ah], .agg #[.float .f64 bl, .float .f64 bh]] v fun r w' => r = .returned (.agg #[.float .f64 rl, .float .f64 rh]) ∧ Put ⟨pb, 0, none⟩ (.int .i64 e') v w'

end Go.Proofs.YtoiaefgpegiieaaGreat

namespace Go.Proofs.YtoiaefgpegiieaaGreat
open Go.RowKit
attribute [local go_sem] run_store_float

end Go.Proofs.YtoiaefgpegiieaaGreat
