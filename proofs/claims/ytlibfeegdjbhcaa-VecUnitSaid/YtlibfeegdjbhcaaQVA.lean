
/- Law file 5: its function awake answers true. -/
import Derived.Test.YtlibfeegdjbhcaaQTA
import Derived.Deep.RegionHeld3
namespace Go.Proofs.Ytlibfeegdjbhcaa
open Go.RowKit

section
variable {P : Program} {ops : Array Oper} {Q : Exit → Act → World → Prop} {md : Region.Mode} {S : World → Prop} {T : List Nat}

/-- What is listed when k of the calls are done, and those of the blocks are made. -/
def lstOf (L0 : Array Bool) (cs ms : List Nat) (k : Nat) (p : List Bool) : Array Bool :=
  (ms.zip p).foldl (fun l x => if x.2 then l.setIfInBounds x.1 true else l) ((cs.take k).foldl (fun l i => l.setIfInBounds i true) L0)
def boolLists : Nat → List (List Bool)
  | 0 => [[]]
  | n + 1 => (boolLists n).flatMap fun l => [false :: l, true :: l]
theorem mem_bools : ∀ (p : List Bool), p ∈ boolLists p.length
  | [] => by simp [boolLists]
  | b :: p => by
    have h := mem_bools p
    simp only [boolLists, List.length_cons, List.mem_flatMap]
    exact ⟨p, h, by cases b <;> simp⟩

/-- In each state but the last one: what comes up is the next call, or a block that is not made yet. -/
def latAt (md : Region.Mode) (ops : Array Oper) (L0 : Array Bool) (cs ms : List Nat) (k : Nat) (p : List Bool) : Bool :=
  (decide (k = cs.length) && p.all id) ||
  (!(Region.ready md ops (lstOf L0 cs ms k p)).isEmpty &&
   (Region.ready md ops (lstOf L0 cs ms k p)).all (fun i =>
    (match cs[k]? with
      | some j => i == j && ((lstOf L0 cs ms k p).setIfInBounds i true == lstOf L0 cs ms (k + 1) p)
      | none => false) ||
    (List.range ms.length).any (fun m => ms[m]? == some i && p[m]? == some false && ((lstOf L0 cs ms k p).setIfInBounds i true == lstOf L0 cs ms k (p.set m true)))))
def latOk (md : Region.Mode) (ops : Array Oper) (L0 : Array Bool) (cs ms : List Nat) : Bool :=
  (List.range (cs.length + 1)).all fun k => (boolLists ms.length).all fun p => latAt md ops L0 cs ms k p

theorem count_set : ∀ (p : List (Option Nat)) (m q : Nat), p[m]? = some none → (p.set m (some q)).count none + 1 = p.count none
  | [], m, q, h => by simp at h
  | x :: p, 0, q, h => by
    simp at h
    subst h
    simp
  | x :: p, m + 1, q, h => by
    have ih := count_set p m q (by simpa using h)
    simp only [List.set_cons_succ, List.count_cons]
    omega
theorem count_nil : ∀ (p : List (Option Nat)), p.count none = 0 → ∀ x ∈ p, x.isSome = true
  | [], _, _, h => by cases h
  | y :: p, h, x, hx => by
    rw [List.count_cons] at h
    rcases List.mem_cons.1 hx with e | e
    · subst e
      cases x
      · simp at h
      · rfl
    · exact count_nil p (by omega) x e

theorem lat_any {L0 : Array Bool} {cs ms : List Nat} {N : Nat} (J : Nat → List (Option Nat) → Act → World → Prop) (hok : latOk md ops L0 cs ms = true)
    (hS : ∀ k p a w, J k p a w → S w)
    (call : ∀ k i p a w, cs[k]? = some i → J k p a w → wpOp P ops Q i (fun b v => J (k + 1) p b v) a w)
    (alloc : ∀ k m i p a w, ms[m]? = some i → p[m]? = some none → J k p a w → wpOp P ops Q i (fun b v => ∃ q, J k (p.set m (some q)) b v) a w)
    (fin : ∀ p a w, p.length = ms.length → (∀ x ∈ p, x.isSome = true) → J cs.length p a w → wpAnyV P md ops Q S T N (lstOf L0 cs ms cs.length (p.map Option.isSome)) a w) :
    ∀ (f k : Nat) (p : List (Option Nat)) (a : Act) (w : World), p.length = ms.length → k ≤ cs.length → f = (cs.length - k) + p.count none → J k p a w →
      wpAnyV P md ops Q S T (N + f) (lstOf L0 cs ms k (p.map Option.isSome)) a w
  | 0, k, p, a, w, hp, hk, hf, hJ => by
    obtain rfl : k = cs.length := by omega
    exact fin p a w hp (count_nil p (by omega)) hJ
  | f + 1, k, p, a, w, hp, hk, hf, hJ => by
    have hat : latAt md ops L0 cs ms k (p.map Option.isSome) = true := by
      unfold latOk at hok
      rw [List.all_eq_true] at hok
      have h1 := hok k (by simp; omega)
      rw [List.all_eq_true] at h1
      refine h1 _ ?_
      have := mem_bools (p.map Option.isSome)
      rw [List.length_map, hp] at this
      exact this
    have hnot : (decide (k = cs.length) && (p.map Option.isSome).all id) = false := by
      rw [Bool.eq_false_iff]
      intro h
      rw [Bool.and_eq_true, decide_eq_true_eq, List.all_eq_true] at h
      have hc : p.count none = 0 := by
        rw [List.count_eq_zero]
        intro hm
        have := h.2 false (by rw [List.mem_map]; exact ⟨none, hm, rfl⟩)
        simp at this
      omega
    unfold latAt at hat
    rw [hnot, Bool.false_or, Bool.and_eq_true, List.all_eq_true] at hat
    obtain ⟨hne, hall⟩ := hat
    refine ⟨fun h0 => by rw [h0] at hne; simp at hne, fun i hi => ?_⟩
    have hi' := hall i hi
    rw [Bool.or_eq_true] at hi'
    rcases hi' with h | h
    · cases hck : cs[k]? with
      | none => rw [hck] at h; simp at h
      | some j =>
        rw [hck] at h
        simp only [Bool.and_eq_true, beq_iff_eq] at h
        obtain ⟨rfl, hl⟩ := h
        have hk' : k < cs.length := by
          rcases Nat.lt_or_ge k cs.length with g | g
          · exact g
          · rw [List.getElem?_eq_none g] at hck; cases hck
        refine wpOp_mono (fun b v hb => ⟨Or.inr (hS _ _ _ _ hb), ?_⟩) (call k i p a w hck hJ)
        rw [hl]
        exact lat_any J hok hS call alloc fin f (k + 1) p b v hp (by omega) (by omega) hb
    · rw [List.any_eq_true] at h
      obtain ⟨m, hm, h⟩ := h
      simp only [Bool.and_eq_true, beq_iff_eq] at h
      obtain ⟨⟨h1, h2⟩, hl⟩ := h
      have h3 : p[m]? = some none := by
        rw [List.getElem?_map] at h2
        cases hpm : p[m]? with
        | none => rw [hpm] at h2; simp at h2
        | some x =>
          rw [hpm] at h2
          cases x
          · rfl
          · simp at h2
      refine wpOp_mono (fun b v hb => ?_) (alloc k m i p a w h1 h3 hJ)
      obtain ⟨q, hb⟩ := hb
      refine ⟨Or.inr (hS _ _ _ _ hb), ?_⟩
      have e : (p.map Option.isSome).set m true = (p.set m (some q)).map Option.isSome := by
        rw [List.map_set]; rfl
      rw [hl, e]
      exact lat_any J hok hS call alloc fin f k (p.set m (some q)) b v (by rw [List.length_set]; exact hp) hk (by have := count_set p m q h3; omega) hb
end
end Go.Proofs.Ytlibfeegdjbhcaa

namespace Go.Proofs.Ytlibfeegdjbhcaa
open Go.RowKit

/-- What was there is as it was; the blocks of the row are the call's own, whole, and apart from one another. -/
structure Own (B : World) (l : List (Nat × Array Value)) (v : World) : Prop where
  base : Below B.heap.size B v
  blocks : ∀ x, x ∈ l → Has1 v x ∧ B.heap.size ≤ x.1
  apart : l.Pairwise (fun x y => x.1 ≠ y.1)

section
variable {B v v' : World} {l : List (Nat × Array Value)}
theorem Own.nil (B : World) : Own B [] B := ⟨Below.refl _ _, fun x h => (by cases h), List.Pairwise.nil⟩
theorem Own.below (h : Own B l v) (hb : Below v.heap.size v v') : Own B l v' := ⟨h.base.trans (hb.mono h.base.size), fun x hx => ⟨(h.blocks x hx).1.below hb, (h.blocks x hx).2⟩, h.apart⟩
theorem Own.drew (h : Own B l v) : Own B l v.drew := ⟨h.base.drew, h.blocks, h.apart⟩
theorem Own.drewN (h : Own B l v) (n : Nat) : Own B l (v.drewN n) := ⟨Below.drewN h.base n, h.blocks, h.apart⟩
theorem Own.made (h : Own B l v) (c : Array Value) (t : TypeId) : Own B ((v.heap.size, c) :: l) (v.alloc (.cells c t)) :=
  ⟨h.base.alloc h.base.size _, fun x hx => (by
    rcases List.mem_cons.1 hx with e | e
    · rw [e]; exact ⟨Has1.made v c t, h.base.size⟩
    · exact ⟨(h.blocks x e).1.below (bel1 _ _), (h.blocks x e).2⟩),
   List.Pairwise.cons (fun y hy => Ne.symm (Nat.ne_of_lt (h.blocks y hy).1.1)) h.apart⟩
theorem Own.nth (h : Own B l v) (i : Nat) {x : Nat × Array Value} (hx : l[i]? = some x) : Has1 v x := (h.blocks x (List.mem_of_getElem? hx)).1
theorem Own.lowest (h : Own B l v) (i : Nat) {x : Nat × Array Value} (hx : l[i]? = some x) : B.heap.size ≤ x.1 := (h.blocks x (List.mem_of_getElem? hx)).2
theorem Own.size (h : Own B l v) (i : Nat) {x : Nat × Array Value} (hx : l[i]? = some x) : x.1 < v.heap.size := (h.nth i hx).1
theorem Own.mem (h : Own B l v) : Mem B l v := ⟨h.base, fun x hx => (h.blocks x hx).1⟩
theorem Own.ne (h : Own B l v) (i j : Nat) {x y : Nat × Array Value} (hx : l[i]? = some x) (hy : l[j]? = some y) (hij : i ≠ j) : x.1 ≠ y.1 := by
  obtain ⟨li, ei⟩ := List.getElem?_eq_some_iff.1 hx
  obtain ⟨lj, ej⟩ := List.getElem?_eq_some_iff.1 hy
  have hp := List.pairwise_iff_getElem.1 h.apart
  rcases Nat.lt_or_ge i j with g | g
  · rw [← ei, ← ej]; exact hp i j li lj g
  · rw [← ei, ← ej]; exact Ne.symm (hp j i lj li (by omega))
/-- One block's cells are others now. -/
theorem Own.at (h : Own B l v) (i : Nat) {q : Nat} {c c' : Array Value} (hi : l[i]? = some (q, c)) (hbase : Below B.heap.size B v') (hq : Has1 v' (q, c')) (hother : ∀ x, Has1 v x → q ≠ x.1 → Has1 v' x) : Own B (l.set i (q, c')) v' where
  base := hbase
  blocks := fun x hx => by
    obtain ⟨j, lj, ej⟩ := List.mem_iff_getElem.1 hx
    rw [List.getElem_set] at ej
    split at ej
    · rw [← ej]; exact ⟨hq, (h.lowest i hi : B.heap.size ≤ (q, c).1)⟩
    · rename_i hne
      rw [List.length_set] at lj
      have hj : l[j]? = some x := by rw [List.getElem?_eq_getElem lj, ej]
      exact ⟨hother x (h.nth j hj) (h.ne i j hi hj hne), h.lowest j hj⟩
  apart := by
    rw [List.pairwise_iff_getElem]
    have hp := List.pairwise_iff_getElem.1 h.apart
    obtain ⟨li, ei⟩ := List.getElem?_eq_some_iff.1 hi
    have e1 : ∀ (j : Nat) (lj : j < (l.set i (q, c')).length), ((l.set i (q, c'))[j]).1 = (l[j]'(by rw [List.length_set] at lj; exact lj)).1 := fun j lj => by
      rw [List.getElem_set]
      split
      · rename_i he
        subst he
        rw [ei]
      · rfl
    intro j k lj lk hjk
    rw [e1 j lj, e1 k lk]
    rw [List.length_set] at lj lk
    exact hp j k lj lk hjk
theorem Own.putAt (h : Own B l v) (i : Nat) {q : Nat} {x y : Value} (hi : l[i]? = some (q, #[x])) (hb : Put ⟨q, 0, none⟩ y v v') : Own B (l.set i (q, #[y])) v' :=
  h.at i hi (h.base.trans (hb.lift (h.lowest i hi) h.base.size)) ((h.nth i hi).own hb) (fun _ hx hne => hx.put hne hb)
theorem Own.set1 (h : Own B l v) (i : Nat) {q : Nat} {x : Value} (hi : l[i]? = some (q, #[x])) (y : Value) : Own B (l.set i (q, #[y])) (v.setCell ⟨q, 0, none⟩ y) :=
  h.at i hi (h.base.setCell (h.lowest i hi) _) ((h.nth i hi).setIn 0 y) (fun _ hx hne => hx.set hne)
theorem Own.set2 (h : Own B l v) (i : Nat) {q : Nat} {x y : Value} (hi : l[i]? = some (q, #[x, y])) (x' y' : Value) : Own B (l.set i (q, #[x', y'])) ((v.setCell ⟨q, 0, none⟩ x').setCell ⟨q, 1, none⟩ y') :=
  h.at i hi ((h.base.setCell (h.lowest i hi) _).setCell (h.lowest i hi) _) ((h.nth i hi).set2 x' y') (fun _ hx hne => (hx.set hne).set hne)
theorem Own.set6 (h : Own B l v) (i : Nat) {q : Nat} {z0 z1 z2 z3 z4 z5 : Value} (hi : l[i]? = some (q, #[z0, z1, z2, z3, z4, z5])) (y0 y1 y2 y3 y4 y5 : Value) :
    Own B (l.set i (q, #[y0, y1, y2, y3, y4, y5])) ((((((v.setCell ⟨q, 0, none⟩ y0).setCell ⟨q, 1, none⟩ y1).setCell ⟨q, 2, none⟩ y2).setCell ⟨q, 3, none⟩ y3).setCell ⟨q, 4, none⟩ y4).setCell ⟨q, 5, none⟩ y5) :=
  h.at i hi ((((((h.base.setCell (h.lowest i hi) _).setCell (h.lowest i hi) _).setCell (h.lowest i hi) _).setCell (h.lowest i hi) _).setCell (h.lowest i hi) _).setCell (h.lowest i hi) _)
    ((((((( h.nth i hi).setIn 0 y0).setIn 1 y1).setIn 2 y2).setIn 3 y3).setIn 4 y4).setIn 5 y5) (fun _ hx hne => (((((hx.set hne).set hne).set hne).set hne).set hne).set hne)
end

/-- While some blocks are made at any time: those of the row, and the new ones so far, of the cells zc. -/
structure OwnF (B : World) (l : List (Nat × Array Value)) (zc : List (Array Value)) (p : List (Option Nat)) (v : World) : Prop where
  own : Own B l v
  blk : ∀ (m q : Nat), p[m]? = some (some q) → (∃ c, zc[m]? = some c ∧ Has1 v (q, c)) ∧ B.heap.size ≤ q ∧ ∀ x, x ∈ l → q ≠ x.1
  apart : ∀ (m n q : Nat), p[m]? = some (some q) → p[n]? = some (some q) → m = n

section
variable {B v v' : World} {l : List (Nat × Array Value)} {zc : List (Array Value)} {p : List (Option Nat)}
theorem OwnF.start (h : Own B l v) (n : Nat) : OwnF B l zc (List.replicate n none) v :=
  ⟨h, fun m q hm => by simp [List.getElem?_replicate] at hm, fun m n' q hm => by simp [List.getElem?_replicate] at hm⟩
theorem OwnF.below (h : OwnF B l zc p v) (hb : Below v.heap.size v v') : OwnF B l zc p v' :=
  ⟨h.own.below hb, fun m q hm => by
    obtain ⟨⟨c, h1, h2⟩, h3⟩ := h.blk m q hm
    exact ⟨⟨c, h1, h2.below hb⟩, h3⟩, h.apart⟩
theorem OwnF.putAt (h : OwnF B l zc p v) (i : Nat) {q : Nat} {x0 y : Value} (hi : l[i]? = some (q, #[x0])) (hb : Put ⟨q, 0, none⟩ y v v') : OwnF B (l.set i (q, #[y])) zc p v' :=
  ⟨h.own.putAt i hi hb, fun m r hm => by
    obtain ⟨⟨c, h1, h2⟩, h3, h4⟩ := h.blk m r hm
    refine ⟨⟨c, h1, h2.put (Ne.symm (h4 _ (List.mem_of_getElem? hi))) hb⟩, h3, fun x hx => ?_⟩
    rcases List.mem_or_eq_of_mem_set hx with e | e
    · exact h4 x e
    · rw [e]; exact (h4 _ (List.mem_of_getElem? hi) : r ≠ (q, #[x0]).1), h.apart⟩
theorem OwnF.alloc (h : OwnF B l zc p v) {m : Nat} {c : Array Value} (_hm : p[m]? = some none) (hz : zc[m]? = some c) (t : TypeId) : OwnF B l zc (p.set m (some v.heap.size)) (v.alloc (.cells c t)) where
  own := h.own.below (bel1 _ _)
  blk := fun n q hn => by
    rw [List.getElem?_set] at hn
    split at hn
    · rename_i e
      subst e
      split at hn
      · simp at hn
        subst hn
        exact ⟨⟨c, hz, Has1.made v c t⟩, h.own.base.size, fun x hx => Ne.symm (Nat.ne_of_lt (h.own.blocks x hx).1.1)⟩
      · simp at hn
    · obtain ⟨⟨c', h1, h2⟩, h3⟩ := h.blk n q hn
      exact ⟨⟨c', h1, h2.below (bel1 _ _)⟩, h3⟩
  apart := fun n n' q hn hn' => by
    have key : ∀ j, (p.set m (some v.heap.size))[j]? = some (some q) → (j = m ∧ q = v.heap.size) ∨ (j ≠ m ∧ p[j]? = some (some q)) := fun j hj => by
      rw [List.getElem?_set] at hj
      split at hj
      · rename_i e
        split at hj
        · simp at hj; exact Or.inl ⟨e.symm, hj.symm⟩
        · simp at hj
      · rename_i e; exact Or.inr ⟨fun e' => e e'.symm, hj⟩
    have small : ∀ j, p[j]? = some (some q) → q < v.heap.size := fun j hj => by
      obtain ⟨⟨c', _, h2⟩, _⟩ := h.blk j q hj
      exact h2.1
    rcases key n hn with ⟨e1, e2⟩ | ⟨e1, e2⟩ <;> rcases key n' hn' with ⟨g1, g2⟩ | ⟨g1, g2⟩
    · omega
    · have := small n' g2; omega
    · have := small n e2; omega
    · exact h.apart n n' q e2 g2
theorem OwnF.fin1 {c1 : Array Value} {q1 : Nat} (h : OwnF B l [c1] [some q1] v) : Own B ((q1, c1) :: l) v := by
  obtain ⟨⟨c, a1, a2⟩, a3, a4⟩ := h.blk 0 q1 rfl
  obtain rfl : c1 = c := by simpa using a1
  refine ⟨h.own.base, fun x hx => ?_, List.Pairwise.cons (fun y hy => a4 y hy) h.own.apart⟩
  rcases List.mem_cons.1 hx with e | e
  · rw [e]; exact ⟨a2, a3⟩
  · exact h.own.blocks x e
theorem OwnF.fin2 {c1 c2 : Array Value} {q1 q2 : Nat} (h : OwnF B l [c1, c2] [some q1, some q2] v) : Own B ((q1, c1) :: (q2, c2) :: l) v := by
  have k : Own B ((q2, c2) :: l) v := OwnF.fin1 ⟨h.own, fun m q hm => by
      match m with
      | 0 => exact h.blk 1 q hm
      | m + 1 => simp at hm, fun m n q hm hn => by
      match m, n with
      | 0, 0 => rfl
      | 0, n + 1 => simp at hn
      | m + 1, _ => simp at hm⟩
  obtain ⟨⟨c, a1, a2⟩, a3, a4⟩ := h.blk 0 q1 rfl
  obtain rfl : c1 = c := by simpa using a1
  refine ⟨h.own.base, fun x hx => ?_, List.Pairwise.cons (fun y hy => ?_) k.apart⟩
  · rcases List.mem_cons.1 hx with e | e
    · rw [e]; exact ⟨a2, a3⟩
    · exact k.blocks x e
  · rcases List.mem_cons.1 hy with e | e
    · rw [e]; intro he
      have := h.apart 0 1 q1 rfl (by rw [show q1 = q2 from he]; rfl)
      omega
    · exact a4 y e
theorem OwnF.fin3 {c1 c2 c3 : Array Value} {q1 q2 q3 : Nat} (h : OwnF B l [c1, c2, c3] [some q1, some q2, some q3] v) : Own B ((q1, c1) :: (q2, c2) :: (q3, c3) :: l) v := by
  have k : Own B ((q2, c2) :: (q3, c3) :: l) v := OwnF.fin2 ⟨h.own, fun m q hm => by
      match m with
      | 0 => exact h.blk 1 q hm
      | 1 => exact h.blk 2 q hm
      | m + 2 => simp at hm, fun m n q hm hn => by
      have := h.apart (m + 1) (n + 1) q hm hn
      omega⟩
  obtain ⟨⟨c, a1, a2⟩, a3, a4⟩ := h.blk 0 q1 rfl
  obtain rfl : c1 = c := by simpa using a1
  refine ⟨h.own.base, fun x hx => ?_, List.Pairwise.cons (fun y hy => ?_) k.apart⟩
  · rcases List.mem_cons.1 hx with e | e
    · rw [e]; exact ⟨a2, a3⟩
    · exact k.blocks x e
  · rcases List.mem_cons.1 hy with e | e
    · rw [e]; intro he
      have := h.apart 0 1 q1 rfl (by rw [show q1 = q2 from he]; rfl)
      omega
    · rcases List.mem_cons.1 e with e | e
      · rw [e]; intro he
        have := h.apart 0 2 q1 rfl (by rw [show q1 = q3 from he]; rfl)
        omega
      · exact a4 y e
end

section
variable {P : Program} {ops : Array Oper} {Q : Exit → Act → World → Prop} {md : Region.Mode} {S : World → Prop} {T : List Nat}
/-- One operation of a region. -/
theorem op_step {i : Nat} {o : Oper} {a : Act} {w : World} {J : Act → World → Prop} (hi : ops[i]? = some o)
    (h : ∀ K : Act → World → Prop, Shut (∀ b v, J b v → K b v) → if Region.wanted o (yielded ops a.tmps) then o.wp P a w K Q else K (a.put o.dst undef) w) : wpOp P ops Q i J a w := by
  have k := h J (fun _ _ h => h)
  unfold wpOp
  simp only [hi]
  split at k
  · rename_i hw
    rw [if_pos hw]; exact Or.inl k
  · rename_i hw
    rw [if_neg hw]; exact k

/-- As lat_any, from the beginning; the invariant knows the slots as they were then. -/
theorem put_ex {a : Act} {s : Nat} (h : s < a.tmps.size) : ∃ y, a.put (some s) y = a := by
  refine ⟨a.tmps[s], ?_⟩
  cases a
  simp only [Act.put]
  congr 1
  apply Array.ext (by simp)
  intro i h1 h2
  rw [Array.getElem_setIfInBounds]
  split
  · rename_i e; subst e; rfl
  · rfl
theorem lat_from {a0 : Act} {w0 : World} {L0 : Array Bool} (cs ms slots : List Nat) (N f : Nat) (J : Act → Nat → List (Option Nat) → Act → World → Prop) (hok : latOk md ops L0 cs ms = true) (hf : f = cs.length + ms.length)
    (hsl : (slots.all fun s => decide (s < a0.tmps.size)) = true) (h0 : ∀ A : Act, (∀ s, s ∈ slots → s < A.tmps.size) → J A 0 (List.replicate ms.length none) A w0)
    (hS : ∀ k p a w, J a0 k p a w → S w)
    (call : ∀ k i p a w, cs[k]? = some i → J a0 k p a w → wpOp P ops Q i (fun b v => J a0 (k + 1) p b v) a w)
    (alloc : ∀ k m i p a w, ms[m]? = some i → p[m]? = some none → J a0 k p a w → wpOp P ops Q i (fun b v => ∃ q, J a0 k (p.set m (some q)) b v) a w)
    (fin : ∀ p a w, p.length = ms.length → (∀ x ∈ p, x.isSome = true) → J a0 cs.length p a w → wpAnyV P md ops Q S T N (lstOf L0 cs ms cs.length (p.map Option.isSome)) a w) :
    wpAnyV P md ops Q S T (N + f) L0 a0 w0 := by
  have h := lat_any (J a0) hok hS call alloc fin f 0 (List.replicate ms.length none) a0 w0 (by simp) (Nat.zero_le _) (by rw [hf]; simp) (h0 a0 (fun s hs => by rw [List.all_eq_true] at hsl; exact of_decide_eq_true (hsl s hs)))
  have e : lstOf L0 cs ms 0 ((List.replicate ms.length none).map (Option.isSome (α := Nat))) = L0 := by
    unfold lstOf
    rw [List.take_zero, List.foldl_nil]
    have : ∀ (ms : List Nat) (L : Array Bool), (ms.zip ((List.replicate ms.length none).map (Option.isSome (α := Nat)))).foldl (fun l x => if x.2 then l.setIfInBounds x.1 true else l) L = L := by
      intro ms
      induction ms with
      | nil => intro L; rfl
      | cons m ms ih => intro L; simpa [List.replicate_succ] using ih L
    exact this ms L0
  rw [e] at h
  exact h
end
theorem fin_one {p : List (Option Nat)} (hp : p.length = 1) (h : ∀ x ∈ p, x.isSome = true) : ∃ q, p = [some q] := by
  match p, hp with
  | [some q], _ => exact ⟨q, rfl⟩
  | [none], _ => exact absurd (h none (by simp)) (by decide)
theorem fin_two {p : List (Option Nat)} (hp : p.length = 2) (h : ∀ x ∈ p, x.isSome = true) : ∃ q r, p = [some q, some r] := by
  match p, hp with
  | [some q, some r], _ => exact ⟨q, r, rfl⟩
  | [none, _], _ => exact absurd (h none (by simp)) (by decide)
  | [_, none], _ => exact absurd (h none (by simp)) (by decide)
theorem fin_three {p : List (Option Nat)} (hp : p.length = 3) (h : ∀ x ∈ p, x.isSome = true) : ∃ q r s, p = [some q, some r, some s] := by
  match p, hp with
  | [some q, some r, some s], _ => exact ⟨q, r, s, rfl⟩
  | [none, _, _], _ => exact absurd (h none (by simp)) (by decide)
  | [_, none, _], _ => exact absurd (h none (by simp)) (by decide)
  | [_, _, none], _ => exact absurd (h none (by simp)) (by decide)
theorem ptr_set {p : List (Option Nat)} {m n q : Nat} (h : (p.set m (some n))[m]? = some (some q)) : (.pointer (some ⟨n, 0, none⟩) : Value) = .pointer (some ⟨q, 0, none⟩) := by
  rw [List.getElem?_set, if_pos rfl] at h
  split at h
  · simp at h; rw [h]
  · simp at h
theorem ptr_keep {p : List (Option Nat)} {m n : Nat} (j : Nat) (hj : m ≠ j) {z : Value} (h : ∀ q, p[j]? = some (some q) → z = .pointer (some ⟨q, 0, none⟩)) : ∀ q, (p.set m (some n))[j]? = some (some q) → z = .pointer (some ⟨q, 0, none⟩) := fun q hq => by
  rw [List.getElem?_set, if_neg hj] at hq
  exact h q hq
section
variable {P : Program} {ops : Array Oper} {Q : Exit → Act → World → Prop} {md : Region.Mode} {S : World → Prop} {T : List Nat}
/-- As lat_from, of so many blocks: at the end each stands somewhere. -/
theorem lat_from1 {a0 : Act} {w0 : World} {L0 : Array Bool} (cs : List Nat) (m1 : Nat) (slots : List Nat) (N f : Nat) (J : Act → Nat → List (Option Nat) → Act → World → Prop) (hok : latOk md ops L0 cs [m1] = true) (hf : f = cs.length + 1)
    (hsl : (slots.all fun s => decide (s < a0.tmps.size)) = true) (h0 : ∀ A : Act, (∀ s, s ∈ slots → s < A.tmps.size) → J A 0 (List.replicate 1 none) A w0)
    (hS : ∀ k p a w, J a0 k p a w → S w)
    (call : ∀ k i p a w, cs[k]? = some i → J a0 k p a w → wpOp P ops Q i (fun b v => J a0 (k + 1) p b v) a w)
    (alloc : ∀ k m i p a w, [m1][m]? = some i → p[m]? = some none → J a0 k p a w → wpOp P ops Q i (fun b v => ∃ q, J a0 k (p.set m (some q)) b v) a w)
    (fin : ∀ q1 a w, J a0 cs.length [some q1] a w → wpAnyV P md ops Q S T N (lstOf L0 cs [m1] cs.length [true]) a w) :
    wpAnyV P md ops Q S T (N + f) L0 a0 w0 :=
  lat_from cs [m1] slots N f J hok hf hsl h0 hS call alloc (fun p a w hp hall hJ => by
    obtain ⟨q1, rfl⟩ := fin_one hp hall
    exact fin q1 a w hJ)
/-- As lat_from, of so many blocks: at the end each stands somewhere. -/
theorem lat_from2 {a0 : Act} {w0 : World} {L0 : Array Bool} (cs : List Nat) (m1 m2 : Nat) (slots : List Nat) (N f : Nat) (J : Act → Nat → List (Option Nat) → Act → World → Prop) (hok : latOk md ops L0 cs [m1, m2] = true) (hf : f = cs.length + 2)
    (hsl : (slots.all fun s => decide (s < a0.tmps.size)) = true) (h0 : ∀ A : Act, (∀ s, s ∈ slots → s < A.tmps.size) → J A 0 (List.replicate 2 none) A w0)
    (hS : ∀ k p a w, J a0 k p a w → S w)
    (call : ∀ k i p a w, cs[k]? = some i → J a0 k p a w → wpOp P ops Q i (fun b v => J a0 (k + 1) p b v) a w)
    (alloc : ∀ k m i p a w, [m1, m2][m]? = some i → p[m]? = some none → J a0 k p a w → wpOp P ops Q i (fun b v => ∃ q, J a0 k (p.set m (some q)) b v) a w)
    (fin : ∀ q1 q2 a w, J a0 cs.length [some q1, some q2] a w → wpAnyV P md ops Q S T N (lstOf L0 cs [m1, m2] cs.length [true, true]) a w) :
    wpAnyV P md ops Q S T (N + f) L0 a0 w0 :=
  lat_from cs [m1, m2] slots N f J hok hf hsl h0 hS call alloc (fun p a w hp hall hJ => by
    obtain ⟨q1, q2, rfl⟩ := fin_two hp hall
    exact fin q1 q2 a w hJ)
/-- As lat_from, of so many blocks: at the end each stands somewhere. -/
theorem lat_from3 {a0 : Act} {w0 : World} {L0 : Array Bool} (cs : List Nat) (m1 m2 m3 : Nat) (slots : List Nat) (N f : Nat) (J : Act → Nat → List (Option Nat) → Act → World → Prop) (hok : latOk md ops L0 cs [m1, m2, m3] = true) (hf : f = cs.length + 3)
    (hsl : (slots.all fun s => decide (s < a0.tmps.size)) = true) (h0 : ∀ A : Act, (∀ s, s ∈ slots → s < A.tmps.size) → J A 0 (List.replicate 3 none) A w0)
    (hS : ∀ k p a w, J a0 k p a w → S w)
    (call : ∀ k i p a w, cs[k]? = some i → J a0 k p a w → wpOp P ops Q i (fun b v => J a0 (k + 1) p b v) a w)
    (alloc : ∀ k m i p a w, [m1, m2, m3][m]? = some i → p[m]? = some none → J a0 k p a w → wpOp P ops Q i (fun b v => ∃ q, J a0 k (p.set m (some q)) b v) a w)
    (fin : ∀ q1 q2 q3 a w, J a0 cs.length [some q1, some q2, some q3] a w → wpAnyV P md ops Q S T N (lstOf L0 cs [m1, m2, m3] cs.length [true, true, true]) a w) :
    wpAnyV P md ops Q S T (N + f) L0 a0 w0 :=
  lat_from cs [m1, m2, m3] slots N f J hok hf hsl h0 hS call alloc (fun p a w hp hall hJ => by
    obtain ⟨q1, q2, q3, rfl⟩ := fin_three hp hall
    exact fin q1 q2 q3 a w hJ)
end
end Go.Proofs.Ytlibfeegdjbhcaa

namespace Go.Proofs.Ytlibfeegdjbhcaa
open Go.RowKit

section
variable {P : Program} {ops : Array Oper} {Q : Exit → Act → World → Prop} {md : Region.Mode} {S : World → Prop} {T : List Nat}

theorem lat_1_0 {a0 : Act} {w0 : World} {L0 : Array Bool} (c1 : Nat) (slots : List Nat) (N : Nat) (J : Act → Nat → List (Option Nat) → Act → World → Prop) (hok : latOk md ops L0 [c1] [] = true)
    (hsl : (slots.all fun s => decide (s < a0.tmps.size)) = true) (h0 : ∀ A : Act, (∀ s, s ∈ slots → s < A.tmps.size) → J A 0 (List.replicate 0 none) A w0)
    (hS : ∀ k p a w, J a0 k p a w → S w)
    (k1 : ∀ p a w, J a0 0 p a w → wpOp P ops Q c1 (fun b v => J a0 1 p b v) a w)
    (fin : ∀ a w, J a0 1 [] a w → wpAnyV P md ops Q S T N (lstOf L0 [c1] [] 1 []) a w) :
    wpAnyV P md ops Q S T (N + 1) L0 a0 w0 := by
  refine lat_from [c1] [] slots N 1 J hok rfl hsl h0 hS (fun k i p a w hk hJ => ?_) (fun k m i p a w hm hp hJ => by simp at hm) (fun p a w hp _ hJ => ?_)
  · rcases k with _ | k
    · obtain rfl : c1 = i := by simpa using hk
      exact k1 p a w hJ
    · simp at hk
  · obtain rfl : p = [] := List.length_eq_zero_iff.1 hp
    exact fin a w hJ

theorem lat_1_1 {a0 : Act} {w0 : World} {L0 : Array Bool} (c1 m1 : Nat) (slots : List Nat) (N : Nat) (J : Act → Nat → List (Option Nat) → Act → World → Prop) (hok : latOk md ops L0 [c1] [m1] = true)
    (hsl : (slots.all fun s => decide (s < a0.tmps.size)) = true) (h0 : ∀ A : Act, (∀ s, s ∈ slots → s < A.tmps.size) → J A 0 (List.replicate 1 none) A w0)
    (hS : ∀ k p a w, J a0 k p a w → S w)
    (k1 : ∀ p a w, J a0 0 p a w → wpOp P ops Q c1 (fun b v => J a0 1 p b v) a w)
    (n1 : ∀ k p a w, p[0]? = some none → J a0 k p a w → wpOp P ops Q m1 (fun b v => ∃ q, J a0 k (p.set 0 (some q)) b v) a w)
    (fin : ∀ q1 a w, J a0 1 [some q1] a w → wpAnyV P md ops Q S T N (lstOf L0 [c1] [m1] 1 [true]) a w) :
    wpAnyV P md ops Q S T (N + 2) L0 a0 w0 := by
  refine lat_from1 [c1] m1 slots N 2 J hok rfl hsl h0 hS (fun k i p a w hk hJ => ?_) (fun k m i p a w hm hp hJ => ?_) fin
  · rcases k with _ | k
    · obtain rfl : c1 = i := by simpa using hk
      exact k1 p a w hJ
    · simp at hk
  · rcases m with _ | m
    · obtain rfl : m1 = i := by simpa using hm
      exact n1 k p a w hp hJ
    · simp at hm

theorem lat_1_2 {a0 : Act} {w0 : World} {L0 : Array Bool} (c1 m1 m2 : Nat) (slots : List Nat) (N : Nat) (J : Act → Nat → List (Option Nat) → Act → World → Prop) (hok : latOk md ops L0 [c1] [m1, m2] = true)
    (hsl : (slots.all fun s => decide (s < a0.tmps.size)) = true) (h0 : ∀ A : Act, (∀ s, s ∈ slots → s < A.tmps.size) → J A 0 (List.replicate 2 none) A w0)
    (hS : ∀ k p a w, J a0 k p a w → S w)
    (k1 : ∀ p a w, J a0 0 p a w → wpOp P ops Q c1 (fun b v => J a0 1 p b v) a w)
    (n1 : ∀ k p a w, p[0]? = some none → J a0 k p a w → wpOp P ops Q m1 (fun b v => ∃ q, J a0 k (p.set 0 (some q)) b v) a w)
    (n2 : ∀ k p a w, p[1]? = some none → J a0 k p a w → wpOp P ops Q m2 (fun b v => ∃ q, J a0 k (p.set 1 (some q)) b v) a w)
    (fin : ∀ q1 q2 a w, J a0 1 [some q1, some q2] a w → wpAnyV P md ops Q S T N (lstOf L0 [c1] [m1, m2] 1 [true, true]) a w) :
    wpAnyV P md ops Q S T (N + 3) L0 a0 w0 := by
  refine lat_from2 [c1] m1 m2 slots N 3 J hok rfl hsl h0 hS (fun k i p a w hk hJ => ?_) (fun k m i p a w hm hp hJ => ?_) fin
  · rcases k with _ | k
    · obtain rfl : c1 = i := by simpa using hk
      exact k1 p a w hJ
    · simp at hk
  · rcases m with _ | _ | m
    · obtain rfl : m1 = i := by simpa using hm
      exact n1 k p a w hp hJ
    · obtain rfl : m2 = i := by simpa using hm
      exact n2 k p a w hp hJ
    · simp at hm

theorem lat_1_3 {a0 : Act} {w0 : World} {L0 : Array Bool} (c1 m1 m2 m3 : Nat) (slots : List Nat) (N : Nat) (J : Act → Nat → List (Option Nat) → Act → World → Prop) (hok : latOk md ops L0 [c1] [m1, m2, m3] = true)
    (hsl : (slots.all fun s => decide (s < a0.tmps.size)) = true) (h0 : ∀ A : Act, (∀ s, s ∈ slots → s < A.tmps.size) → J A 0 (List.replicate 3 none) A w0)
    (hS : ∀ k p a w, J a0 k p a w → S w)
    (k1 : ∀ p a w, J a0 0 p a w → wpOp P ops Q c1 (fun b v => J a0 1 p b v) a w)
    (n1 : ∀ k p a w, p[0]? = some none → J a0 k p a w → wpOp P ops Q m1 (fun b v => ∃ q, J a0 k (p.set 0 (some q)) b v) a w)
    (n2 : ∀ k p a w, p[1]? = some none → J a0 k p a w → wpOp P ops Q m2 (fun b v => ∃ q, J a0 k (p.set 1 (some q)) b v) a w)
    (n3 : ∀ k p a w, p[2]? = some none → J a0 k p a w → wpOp P ops Q m3 (fun b v => ∃ q, J a0 k (p.set 2 (some q)) b v) a w)
    (fin : ∀ q1 q2 q3 a w, J a0 1 [some q1, some q2, some q3] a w → wpAnyV P md ops Q S T N (lstOf L0 [c1] [m1, m2, m3] 1 [true, true, true]) a w) :
    wpAnyV P md ops Q S T (N + 4) L0 a0 w0 := by
  refine lat_from3 [c1] m1 m2 m3 slots N 4 J hok rfl hsl h0 hS (fun k i p a w hk hJ => ?_) (fun k m i p a w hm hp hJ => ?_) fin
  · rcases k with _ | k
    · obtain rfl : c1 = i := by simpa using hk
      exact k1 p a w hJ
    · simp at hk
  · rcases m with _ | _ | _ | m
    · obtain rfl : m1 = i := by simpa using hm
      exact n1 k p a w hp hJ
    · obtain rfl : m2 = i := by simpa using hm
      exact n2 k p a w hp hJ
    · obtain rfl : m3 = i := by simpa using hm
      exact n3 k p a w hp hJ
    · simp at hm

theorem lat_2_0 {a0 : Act} {w0 : World} {L0 : Array Bool} (c1 c2 : Nat) (slots : List Nat) (N : Nat) (J : Act → Nat → List (Option Nat) → Act → World → Prop) (hok : latOk md ops L0 [c1, c2] [] = true)
    (hsl : (slots.all fun s => decide (s < a0.tmps.size)) = true) (h0 : ∀ A : Act, (∀ s, s ∈ slots → s < A.tmps.size) → J A 0 (List.replicate 0 none) A w0)
    (hS : ∀ k p a w, J a0 k p a w → S w)
    (k1 : ∀ p a w, J a0 0 p a w → wpOp P ops Q c1 (fun b v => J a0 1 p b v) a w)
    (k2 : ∀ p a w, J a0 1 p a w → wpOp P ops Q c2 (fun b v => J a0 2 p b v) a w)
    (fin : ∀ a w, J a0 2 [] a w → wpAnyV P md ops Q S T N (lstOf L0 [c1, c2] [] 2 []) a w) :
    wpAnyV P md ops Q S T (N + 2) L0 a0 w0 := by
  refine lat_from [c1, c2] [] slots N 2 J hok rfl hsl h0 hS (fun k i p a w hk hJ => ?_) (fun k m i p a w hm hp hJ => by simp at hm) (fun p a w hp _ hJ => ?_)
  · rcases k with _ | _ | k
    · obtain rfl : c1 = i := by simpa using hk
      exact k1 p a w hJ
    · obtain rfl : c2 = i := by simpa using hk
      exact k2 p a w hJ
    · simp at hk
  · obtain rfl : p = [] := List.length_eq_zero_iff.1 hp
    exact fin a w hJ

theorem lat_2_1 {a0 : Act} {w0 : World} {L0 : Array Bool} (c1 c2 m1 : Nat) (slots : List Nat) (N : Nat) (J : Act → Nat → List (Option Nat) → Act → World → Prop) (hok : latOk md ops L0 [c1, c2] [m1] = true)
    (hsl : (slots.all fun s => decide (s < a0.tmps.size)) = true) (h0 : ∀ A : Act, (∀ s, s ∈ slots → s < A.tmps.size) → J A 0 (List.replicate 1 none) A w0)
    (hS : ∀ k p a w, J a0 k p a w → S w)
    (k1 : ∀ p a w, J a0 0 p a w → wpOp P ops Q c1 (fun b v => J a0 1 p b v) a w)
    (k2 : ∀ p a w, J a0 1 p a w → wpOp P ops Q c2 (fun b v => J a0 2 p b v) a w)
    (n1 : ∀ k p a w, p[0]? = some none → J a0 k p a w → wpOp P ops Q m1 (fun b v => ∃ q, J a0 k (p.set 0 (some q)) b v) a w)
    (fin : ∀ q1 a w, J a0 2 [some q1] a w → wpAnyV P md ops Q S T N (lstOf L0 [c1, c2] [m1] 2 [true]) a w) :
    wpAnyV P md ops Q S T (N + 3) L0 a0 w0 := by
  refine lat_from1 [c1, c2] m1 slots N 3 J hok rfl hsl h0 hS (fun k i p a w hk hJ => ?_) (fun k m i p a w hm hp hJ => ?_) fin
  · rcases k with _ | _ | k
    · obtain rfl : c1 = i := by simpa using hk
      exact k1 p a w hJ
    · obtain rfl : c2 = i := by simpa using hk
      exact k2 p a w hJ
    · simp at hk
  · rcases m with _ | m
    · obtain rfl : m1 = i := by simpa using hm
      exact n1 k p a w hp hJ
    · simp at hm

theorem lat_2_2 {a0 : Act} {w0 : World} {L0 : Array Bool} (c1 c2 m1 m2 : Nat) (slots : List Nat) (N : Nat) (J : Act → Nat → List (Option Nat) → Act → World → Prop) (hok : latOk md ops L0 [c1, c2] [m1, m2] = true)
    (hsl : (slots.all fun s => decide (s < a0.tmps.size)) = true) (h0 : ∀ A : Act, (∀ s, s ∈ slots → s < A.tmps.size) → J A 0 (List.replicate 2 none) A w0)
    (hS : ∀ k p a w, J a0 k p a w → S w)
    (k1 : ∀ p a w, J a0 0 p a w → wpOp P ops Q c1 (fun b v => J a0 1 p b v) a w)
    (k2 : ∀ p a w, J a0 1 p a w → wpOp P ops Q c2 (fun b v => J a0 2 p b v) a w)
    (n1 : ∀ k p a w, p[0]? = some none → J a0 k p a w → wpOp P ops Q m1 (fun b v => ∃ q, J a0 k (p.set 0 (some q)) b v) a w)
    (n2 : ∀ k p a w, p[1]? = some none → J a0 k p a w → wpOp P ops Q m2 (fun b v => ∃ q, J a0 k (p.set 1 (some q)) b v) a w)
    (fin : ∀ q1 q2 a w, J a0 2 [some q1, some q2] a w → wpAnyV P md ops Q S T N (lstOf L0 [c1, c2] [m1, m2] 2 [true, true]) a w) :
    wpAnyV P md ops Q S T (N + 4) L0 a0 w0 := by
  refine lat_from2 [c1, c2] m1 m2 slots N 4 J hok rfl hsl h0 hS (fun k i p a w hk hJ => ?_) (fun k m i p a w hm hp hJ => ?_) fin
  · rcases k with _ | _ | k
    · obtain rfl : c1 = i := by simpa using hk
      exact k1 p a w hJ
    · obtain rfl : c2 = i := by simpa using hk
      exact k2 p a w hJ
    · simp at hk
  · rcases m with _ | _ | m
    · obtain rfl : m1 = i := by simpa using hm
      exact n1 k p a w hp hJ
    · obtain rfl : m2 = i := by simpa using hm
      exact n2 k p a w hp hJ
    · simp at hm

theorem lat_2_3 {a0 : Act} {w0 : World} {L0 : Array Bool} (c1 c2 m1 m2 m3 : Nat) (slots : List Nat) (N : Nat) (J : Act → Nat → List (Option Nat) → Act → World → Prop) (hok : latOk md ops L0 [c1, c2] [m1, m2, m3] = true)
    (hsl : (slots.all fun s => decide (s < a0.tmps.size)) = true) (h0 : ∀ A : Act, (∀ s, s ∈ slots → s < A.tmps.size) → J A 0 (List.replicate 3 none) A w0)
    (hS : ∀ k p a w, J a0 k p a w → S w)
    (k1 : ∀ p a w, J a0 0 p a w → wpOp P ops Q c1 (fun b v => J a0 1 p b v) a w)
    (k2 : ∀ p a w, J a0 1 p a w → wpOp P ops Q c2 (fun b v => J a0 2 p b v) a w)
    (n1 : ∀ k p a w, p[0]? = some none → J a0 k p a w → wpOp P ops Q m1 (fun b v => ∃ q, J a0 k (p.set 0 (some q)) b v) a w)
    (n2 : ∀ k p a w, p[1]? = some none → J a0 k p a w → wpOp P ops Q m2 (fun b v => ∃ q, J a0 k (p.set 1 (some q)) b v) a w)
    (n3 : ∀ k p a w, p[2]? = some none → J a0 k p a w → wpOp P ops Q m3 (fun b v => ∃ q, J a0 k (p.set 2 (some q)) b v) a w)
    (fin : ∀ q1 q2 q3 a w, J a0 2 [some q1, some q2, some q3] a w → wpAnyV P md ops Q S T N (lstOf L0 [c1, c2] [m1, m2, m3] 2 [true, true, true]) a w) :
    wpAnyV P md ops Q S T (N + 5) L0 a0 w0 := by
  refine lat_from3 [c1, c2] m1 m2 m3 slots N 5 J hok rfl hsl h0 hS (fun k i p a w hk hJ => ?_) (fun k m i p a w hm hp hJ => ?_) fin
  · rcases k with _ | _ | k
    · obtain rfl : c1 = i := by simpa using hk
      exact k1 p a w hJ
    · obtain rfl : c2 = i := by simpa using hk
      exact k2 p a w hJ
    · simp at hk
  · rcases m with _ | _ | _ | m
    · obtain rfl : m1 = i := by simpa using hm
      exact n1 k p a w hp hJ
    · obtain rfl : m2 = i := by simpa using hm
      exact n2 k p a w hp hJ
    · obtain rfl : m3 = i := by simpa using hm
      exact n3 k p a w hp hJ
    · simp at hm

theorem lat_3_0 {a0 : Act} {w0 : World} {L0 : Array Bool} (c1 c2 c3 : Nat) (slots : List Nat) (N : Nat) (J : Act → Nat → List (Option Nat) → Act → World → Prop) (hok : latOk md ops L0 [c1, c2, c3] [] = true)
    (hsl : (slots.all fun s => decide (s < a0.tmps.size)) = true) (h0 : ∀ A : Act, (∀ s, s ∈ slots → s < A.tmps.size) → J A 0 (List.replicate 0 none) A w0)
    (hS : ∀ k p a w, J a0 k p a w → S w)
    (k1 : ∀ p a w, J a0 0 p a w → wpOp P ops Q c1 (fun b v => J a0 1 p b v) a w)
    (k2 : ∀ p a w, J a0 1 p a w → wpOp P ops Q c2 (fun b v => J a0 2 p b v) a w)
    (k3 : ∀ p a w, J a0 2 p a w → wpOp P ops Q c3 (fun b v => J a0 3 p b v) a w)
    (fin : ∀ a w, J a0 3 [] a w → wpAnyV P md ops Q S T N (lstOf L0 [c1, c2, c3] [] 3 []) a w) :
    wpAnyV P md ops Q S T (N + 3) L0 a0 w0 := by
  refine lat_from [c1, c2, c3] [] slots N 3 J hok rfl hsl h0 hS (fun k i p a w hk hJ => ?_) (fun k m i p a w hm hp hJ => by simp at hm) (fun p a w hp _ hJ => ?_)
  · rcases k with _ | _ | _ | k
    · obtain rfl : c1 = i := by simpa using hk
      exact k1 p a w hJ
    · obtain rfl : c2 = i := by simpa using hk
      exact k2 p a w hJ
    · obtain rfl : c3 = i := by simpa using hk
      exact k3 p a w hJ
    · simp at hk
  · obtain rfl : p = [] := List.length_eq_zero_iff.1 hp
    exact fin a w hJ

theorem lat_3_1 {a0 : Act} {w0 : World} {L0 : Array Bool} (c1 c2 c3 m1 : Nat) (slots : List Nat) (N : Nat) (J : Act → Nat → List (Option Nat) → Act → World → Prop) (hok : latOk md ops L0 [c1, c2, c3] [m1] = true)
    (hsl : (slots.all fun s => decide (s < a0.tmps.size)) = true) (h0 : ∀ A : Act, (∀ s, s ∈ slots → s < A.tmps.size) → J A 0 (List.replicate 1 none) A w0)
    (hS : ∀ k p a w, J a0 k p a w → S w)
    (k1 : ∀ p a w, J a0 0 p a w → wpOp P ops Q c1 (fun b v => J a0 1 p b v) a w)
    (k2 : ∀ p a w, J a0 1 p a w → wpOp P ops Q c2 (fun b v => J a0 2 p b v) a w)
    (k3 : ∀ p a w, J a0 2 p a w → wpOp P ops Q c3 (fun b v => J a0 3 p b v) a w)
    (n1 : ∀ k p a w, p[0]? = some none → J a0 k p a w → wpOp P ops Q m1 (fun b v => ∃ q, J a0 k (p.set 0 (some q)) b v) a w)
    (fin : ∀ q1 a w, J a0 3 [some q1] a w → wpAnyV P md ops Q S T N (lstOf L0 [c1, c2, c3] [m1] 3 [true]) a w) :
    wpAnyV P md ops Q S T (N + 4) L0 a0 w0 := by
  refine lat_from1 [c1, c2, c3] m1 slots N 4 J hok rfl hsl h0 hS (fun k i p a w hk hJ => ?_) (fun k m i p a w hm hp hJ => ?_) fin
  · rcases k with _ | _ | _ | k
    · obtain rfl : c1 = i := by simpa using hk
      exact k1 p a w hJ
    · obtain rfl : c2 = i := by simpa using hk
      exact k2 p a w hJ
    · obtain rfl : c3 = i := by simpa using hk
      exact k3 p a w hJ
    · simp at hk
  · rcases m with _ | m
    · obtain rfl : m1 = i := by simpa using hm
      exact n1 k p a w hp hJ
    · simp at hm

theorem lat_3_2 {a0 : Act} {w0 : World} {L0 : Array Bool} (c1 c2 c3 m1 m2 : Nat) (slots : List Nat) (N : Nat) (J : Act → Nat → List (Option Nat) → Act → World → Prop) (hok : latOk md ops L0 [c1, c2, c3] [m1, m2] = true)
    (hsl : (slots.all fun s => decide (s < a0.tmps.size)) = true) (h0 : ∀ A : Act, (∀ s, s ∈ slots → s < A.tmps.size) → J A 0 (List.replicate 2 none) A w0)
    (hS : ∀ k p a w, J a0 k p a w → S w)
    (k1 : ∀ p a w, J a0 0 p a w → wpOp P ops Q c1 (fun b v => J a0 1 p b v) a w)
    (k2 : ∀ p a w, J a0 1 p a w → wpOp P ops Q c2 (fun b v => J a0 2 p b v) a w)
    (k3 : ∀ p a w, J a0 2 p a w → wpOp P ops Q c3 (fun b v => J a0 3 p b v) a w)
    (n1 : ∀ k p a w, p[0]? = some none → J a0 k p a w → wpOp P ops Q m1 (fun b v => ∃ q, J a0 k (p.set 0 (some q)) b v) a w)
    (n2 : ∀ k p a w, p[1]? = some none → J a0 k p a w → wpOp P ops Q m2 (fun b v => ∃ q, J a0 k (p.set 1 (some q)) b v) a w)
    (fin : ∀ q1 q2 a w, J a0 3 [some q1, some q2] a w → wpAnyV P md ops Q S T N (lstOf L0 [c1, c2, c3] [m1, m2] 3 [true, true]) a w) :
    wpAnyV P md ops Q S T (N + 5) L0 a0 w0 := by
  refine lat_from2 [c1, c2, c3] m1 m2 slots N 5 J hok rfl hsl h0 hS (fun k i p a w hk hJ => ?_) (fun k m i p a w hm hp hJ => ?_) fin
  · rcases k with _ | _ | _ | k
    · obtain rfl : c1 = i := by simpa using hk
      exact k1 p a w hJ
    · obtain rfl : c2 = i := by simpa using hk
      exact k2 p a w hJ
    · obtain rfl : c3 = i := by simpa using hk
      exact k3 p a w hJ
    · simp at hk
  · rcases m with _ | _ | m
    · obtain rfl : m1 = i := by simpa using hm
      exact n1 k p a w hp hJ
    · obtain rfl : m2 = i := by simpa using hm
      exact n2 k p a w hp hJ
    · simp at hm

theorem lat_3_3 {a0 : Act} {w0 : World} {L0 : Array Bool} (c1 c2 c3 m1 m2 m3 : Nat) (slots : List Nat) (N : Nat) (J : Act → Nat → List (Option Nat) → Act → World → Prop) (hok : latOk md ops L0 [c1, c2, c3] [m1, m2, m3] = true)
    (hsl : (slots.all fun s => decide (s < a0.tmps.size)) = true) (h0 : ∀ A : Act, (∀ s, s ∈ slots → s < A.tmps.size) → J A 0 (List.replicate 3 none) A w0)
    (hS : ∀ k p a w, J a0 k p a w → S w)
    (k1 : ∀ p a w, J a0 0 p a w → wpOp P ops Q c1 (fun b v => J a0 1 p b v) a w)
    (k2 : ∀ p a w, J a0 1 p a w → wpOp P ops Q c2 (fun b v => J a0 2 p b v) a w)
    (k3 : ∀ p a w, J a0 2 p a w → wpOp P ops Q c3 (fun b v => J a0 3 p b v) a w)
    (n1 : ∀ k p a w, p[0]? = some none → J a0 k p a w → wpOp P ops Q m1 (fun b v => ∃ q, J a0 k (p.set 0 (some q)) b v) a w)
    (n2 : ∀ k p a w, p[1]? = some none → J a0 k p a w → wpOp P ops Q m2 (fun b v => ∃ q, J a0 k (p.set 1 (some q)) b v) a w)
    (n3 : ∀ k p a w, p[2]? = some none → J a0 k p a w → wpOp P ops Q m3 (fun b v => ∃ q, J a0 k (p.set 2 (some q)) b v) a w)
    (fin : ∀ q1 q2 q3 a w, J a0 3 [some q1, some q2, some q3] a w → wpAnyV P md ops Q S T N (lstOf L0 [c1, c2, c3] [m1, m2, m3] 3 [true, true, true]) a w) :
    wpAnyV P md ops Q S T (N + 6) L0 a0 w0 := by
  refine lat_from3 [c1, c2, c3] m1 m2 m3 slots N 6 J hok rfl hsl h0 hS (fun k i p a w hk hJ => ?_) (fun k m i p a w hm hp hJ => ?_) fin
  · rcases k with _ | _ | _ | k
    · obtain rfl : c1 = i := by simpa using hk
      exact k1 p a w hJ
    · obtain rfl : c2 = i := by simpa using hk
      exact k2 p a w hJ
    · obtain rfl : c3 = i := by simpa using hk
      exact k3 p a w hJ
    · simp at hk
  · rcases m with _ | _ | _ | m
    · obtain rfl : m1 = i := by simpa using hm
      exact n1 k p a w hp hJ
    · obtain rfl : m2 = i := by simpa using hm
      exact n2 k p a w hp hJ
    · obtain rfl : m3 = i := by simpa using hm
      exact n3 k p a w hp hJ
    · simp at hm

theorem lat_4_0 {a0 : Act} {w0 : World} {L0 : Array Bool} (c1 c2 c3 c4 : Nat) (slots : List Nat) (N : Nat) (J : Act → Nat → List (Option Nat) → Act → World → Prop) (hok : latOk md ops L0 [c1, c2, c3, c4] [] = true)
    (hsl : (slots.all fun s => decide (s < a0.tmps.size)) = true) (h0 : ∀ A : Act, (∀ s, s ∈ slots → s < A.tmps.size) → J A 0 (List.replicate 0 none) A w0)
    (hS : ∀ k p a w, J a0 k p a w → S w)
    (k1 : ∀ p a w, J a0 0 p a w → wpOp P ops Q c1 (fun b v => J a0 1 p b v) a w)
    (k2 : ∀ p a w, J a0 1 p a w → wpOp P ops Q c2 (fun b v => J a0 2 p b v) a w)
    (k3 : ∀ p a w, J a0 2 p a w → wpOp P ops Q c3 (fun b v => J a0 3 p b v) a w)
    (k4 : ∀ p a w, J a0 3 p a w → wpOp P ops Q c4 (fun b v => J a0 4 p b v) a w)
    (fin : ∀ a w, J a0 4 [] a w → wpAnyV P md ops Q S T N (lstOf L0 [c1, c2, c3, c4] [] 4 []) a w) :
    wpAnyV P md ops Q S T (N + 4) L0 a0 w0 := by
  refine lat_from [c1, c2, c3, c4] [] slots N 4 J hok rfl hsl h0 hS (fun k i p a w hk hJ => ?_) (fun k m i p a w hm hp hJ => by simp at hm) (fun p a w hp _ hJ => ?_)
  · rcases k with _ | _ | _ | _ | k
    · obtain rfl : c1 = i := by simpa using hk
      exact k1 p a w hJ
    · obtain rfl : c2 = i := by simpa using hk
      exact k2 p a w hJ
    · obtain rfl : c3 = i := by simpa using hk
      exact k3 p a w hJ
    · obtain rfl : c4 = i := by simpa using hk
      exact k4 p a w hJ
    · simp at hk
  · obtain rfl : p = [] := List.length_eq_zero_iff.1 hp
    exact fin a w hJ

theorem lat_4_1 {a0 : Act} {w0 : World} {L0 : Array Bool} (c1 c2 c3 c4 m1 : Nat) (slots : List Nat) (N : Nat) (J : Act → Nat → List (Option Nat) → Act → World → Prop) (hok : latOk md ops L0 [c1, c2, c3, c4] [m1] = true)
    (hsl : (slots.all fun s => decide (s < a0.tmps.size)) = true) (h0 : ∀ A : Act, (∀ s, s ∈ slots → s < A.tmps.size) → J A 0 (List.replicate 1 none) A w0)
    (hS : ∀ k p a w, J a0 k p a w → S w)
    (k1 : ∀ p a w, J a0 0 p a w → wpOp P ops Q c1 (fun b v => J a0 1 p b v) a w)
    (k2 : ∀ p a w, J a0 1 p a w → wpOp P ops Q c2 (fun b v => J a0 2 p b v) a w)
    (k3 : ∀ p a w, J a0 2 p a w → wpOp P ops Q c3 (fun b v => J a0 3 p b v) a w)
    (k4 : ∀ p a w, J a0 3 p a w → wpOp P ops Q c4 (fun b v => J a0 4 p b v) a w)
    (n1 : ∀ k p a w, p[0]? = some none → J a0 k p a w → wpOp P ops Q m1 (fun b v => ∃ q, J a0 k (p.set 0 (some q)) b v) a w)
    (fin : ∀ q1 a w, J a0 4 [some q1] a w → wpAnyV P md ops Q S T N (lstOf L0 [c1, c2, c3, c4] [m1] 4 [true]) a w) :
    wpAnyV P md ops Q S T (N + 5) L0 a0 w0 := by
  refine lat_from1 [c1, c2, c3, c4] m1 slots N 5 J hok rfl hsl h0 hS (fun k i p a w hk hJ => ?_) (fun k m i p a w hm hp hJ => ?_) fin
  · rcases k with _ | _ | _ | _ | k
    · obtain rfl : c1 = i := by simpa using hk
      exact k1 p a w hJ
    · obtain rfl : c2 = i := by simpa using hk
      exact k2 p a w hJ
    · obtain rfl : c3 = i := by simpa using hk
      exact k3 p a w hJ
    · obtain rfl : c4 = i := by simpa using hk
      exact k4 p a w hJ
    · simp at hk
  · rcases m with _ | m
    · obtain rfl : m1 = i := by simpa using hm
      exact n1 k p a w hp hJ
    · simp at hm

theorem lat_4_2 {a0 : Act} {w0 : World} {L0 : Array Bool} (c1 c2 c3 c4 m1 m2 : Nat) (slots : List Nat) (N : Nat) (J : Act → Nat → List (Option Nat) → Act → World → Prop) (hok : latOk md ops L0 [c1, c2, c3, c4] [m1, m2] = true)
    (hsl : (slots.all fun s => decide (s < a0.tmps.size)) = true) (h0 : ∀ A : Act, (∀ s, s ∈ slots → s < A.tmps.size) → J A 0 (List.replicate 2 none) A w0)
    (hS : ∀ k p a w, J a0 k p a w → S w)
    (k1 : ∀ p a w, J a0 0 p a w → wpOp P ops Q c1 (fun b v => J a0 1 p b v) a w)
    (k2 : ∀ p a w, J a0 1 p a w → wpOp P ops Q c2 (fun b v => J a0 2 p b v) a w)
    (k3 : ∀ p a w, J a0 2 p a w → wpOp P ops Q c3 (fun b v => J a0 3 p b v) a w)
    (k4 : ∀ p a w, J a0 3 p a w → wpOp P ops Q c4 (fun b v => J a0 4 p b v) a w)
    (n1 : ∀ k p a w, p[0]? = some none → J a0 k p a w → wpOp P ops Q m1 (fun b v => ∃ q, J a0 k (p.set 0 (some q)) b v) a w)
    (n2 : ∀ k p a w, p[1]? = some none → J a0 k p a w → wpOp P ops Q m2 (fun b v => ∃ q, J a0 k (p.set 1 (some q)) b v) a w)
    (fin : ∀ q1 q2 a w, J a0 4 [some q1, some q2] a w → wpAnyV P md ops Q S T N (lstOf L0 [c1, c2, c3, c4] [m1, m2] 4 [true, true]) a w) :
    wpAnyV P md ops Q S T (N + 6) L0 a0 w0 := by
  refine lat_from2 [c1, c2, c3, c4] m1 m2 slots N 6 J hok rfl hsl h0 hS (fun k i p a w hk hJ => ?_) (fun k m i p a w hm hp hJ => ?_) fin
  · rcases k with _ | _ | _ | _ | k
    · obtain rfl : c1 = i := by simpa using hk
      exact k1 p a w hJ
    · obtain rfl : c2 = i := by simpa using hk
      exact k2 p a w hJ
    · obtain rfl : c3 = i := by simpa using hk
      exact k3 p a w hJ
    · obtain rfl : c4 = i := by simpa using hk
      exact k4 p a w hJ
    · simp at hk
  · rcases m with _ | _ | m
    · obtain rfl : m1 = i := by simpa using hm
      exact n1 k p a w hp hJ
    · obtain rfl : m2 = i := by simpa using hm
      exact n2 k p a w hp hJ
    · simp at hm

theorem lat_4_3 {a0 : Act} {w0 : World} {L0 : Array Bool} (c1 c2 c3 c4 m1 m2 m3 : Nat) (slots : List Nat) (N : Nat) (J : Act → Nat → List (Option Nat) → Act → World → Prop) (hok : latOk md ops L0 [c1, c2, c3, c4] [m1, m2, m3] = true)
    (hsl : (slots.all fun s => decide (s < a0.tmps.size)) = true) (h0 : ∀ A : Act, (∀ s, s ∈ slots → s < A.tmps.size) → J A 0 (List.replicate 3 none) A w0)
    (hS : ∀ k p a w, J a0 k p a w → S w)
    (k1 : ∀ p a w, J a0 0 p a w → wpOp P ops Q c1 (fun b v => J a0 1 p b v) a w)
    (k2 : ∀ p a w, J a0 1 p a w → wpOp P ops Q c2 (fun b v => J a0 2 p b v) a w)
    (k3 : ∀ p a w, J a0 2 p a w → wpOp P ops Q c3 (fun b v => J a0 3 p b v) a w)
    (k4 : ∀ p a w, J a0 3 p a w → wpOp P ops Q c4 (fun b v => J a0 4 p b v) a w)
    (n1 : ∀ k p a w, p[0]? = some none → J a0 k p a w → wpOp P ops Q m1 (fun b v => ∃ q, J a0 k (p.set 0 (some q)) b v) a w)
    (n2 : ∀ k p a w, p[1]? = some none → J a0 k p a w → wpOp P ops Q m2 (fun b v => ∃ q, J a0 k (p.set 1 (some q)) b v) a w)
    (n3 : ∀ k p a w, p[2]? = some none → J a0 k p a w → wpOp P ops Q m3 (fun b v => ∃ q, J a0 k (p.set 2 (some q)) b v) a w)
    (fin : ∀ q1 q2 q3 a w, J a0 4 [some q1, some q2, some q3] a w → wpAnyV P md ops Q S T N (lstOf L0 [c1, c2, c3, c4] [m1, m2, m3] 4 [true, true, true]) a w) :
    wpAnyV P md ops Q S T (N + 7) L0 a0 w0 := by
  refine lat_from3 [c1, c2, c3, c4] m1 m2 m3 slots N 7 J hok rfl hsl h0 hS (fun k i p a w hk hJ => ?_) (fun k m i p a w hm hp hJ => ?_) fin
  · rcases k with _ | _ | _ | _ | k
    · obtain rfl : c1 = i := by simpa using hk
      exact k1 p a w hJ
    · obtain rfl : c2 = i := by simpa using hk
      exact k2 p a w hJ
    · obtain rfl : c3 = i := by simpa using hk
      exact k3 p a w hJ
    · obtain rfl : c4 = i := by simpa using hk
      exact k4 p a w hJ
    · simp at hk
  · rcases m with _ | _ | _ | m
    · obtain rfl : m1 = i := by simpa using hm
      exact n1 k p a w hp hJ
    · obtain rfl : m2 = i := by simpa using hm
      exact n2 k p a w hp hJ
    · obtain rfl : m3 = i := by simpa using hm
      exact n3 k p a w hp hJ
    · simp at hm

theorem lat_5_0 {a0 : Act} {w0 : World} {L0 : Array Bool} (c1 c2 c3 c4 c5 : Nat) (slots : List Nat) (N : Nat) (J : Act → Nat → List (Option Nat) → Act → World → Prop) (hok : latOk md ops L0 [c1, c2, c3, c4, c5] [] = true)
    (hsl : (slots.all fun s => decide (s < a0.tmps.size)) = true) (h0 : ∀ A : Act, (∀ s, s ∈ slots → s < A.tmps.size) → J A 0 (List.replicate 0 none) A w0)
    (hS : ∀ k p a w, J a0 k p a w → S w)
    (k1 : ∀ p a w, J a0 0 p a w → wpOp P ops Q c1 (fun b v => J a0 1 p b v) a w)
    (k2 : ∀ p a w, J a0 1 p a w → wpOp P ops Q c2 (fun b v => J a0 2 p b v) a w)
    (k3 : ∀ p a w, J a0 2 p a w → wpOp P ops Q c3 (fun b v => J a0 3 p b v) a w)
    (k4 : ∀ p a w, J a0 3 p a w → wpOp P ops Q c4 (fun b v => J a0 4 p b v) a w)
    (k5 : ∀ p a w, J a0 4 p a w → wpOp P ops Q c5 (fun b v => J a0 5 p b v) a w)
    (fin : ∀ a w, J a0 5 [] a w → wpAnyV P md ops Q S T N (lstOf L0 [c1, c2, c3, c4, c5] [] 5 []) a w) :
    wpAnyV P md ops Q S T (N + 5) L0 a0 w0 := by
  refine lat_from [c1, c2, c3, c4, c5] [] slots N 5 J hok rfl hsl h0 hS (fun k i p a w hk hJ => ?_) (fun k m i p a w hm hp hJ => by simp at hm) (fun p a w hp _ hJ => ?_)
  · rcases k with _ | _ | _ | _ | _ | k
    · obtain rfl : c1 = i := by simpa using hk
      exact k1 p a w hJ
    · obtain rfl : c2 = i := by simpa using hk
      exact k2 p a w hJ
    · obtain rfl : c3 = i := by simpa using hk
      exact k3 p a w hJ
    · obtain rfl : c4 = i := by simpa using hk
      exact k4 p a w hJ
    · obtain rfl : c5 = i := by simpa using hk
      exact k5 p a w hJ
    · simp at hk
  · obtain rfl : p = [] := List.length_eq_zero_iff.1 hp
    exact fin a w hJ

theorem lat_5_1 {a0 : Act} {w0 : World} {L0 : Array Bool} (c1 c2 c3 c4 c5 m1 : Nat) (slots : List Nat) (N : Nat) (J : Act → Nat → List (Option Nat) → Act → World → Prop) (hok : latOk md ops L0 [c1, c2, c3, c4, c5] [m1] = true)
    (hsl : (slots.all fun s => decide (s < a0.tmps.size)) = true) (h0 : ∀ A : Act, (∀ s, s ∈ slots → s < A.tmps.size) → J A 0 (List.replicate 1 none) A w0)
    (hS : ∀ k p a w, J a0 k p a w → S w)
    (k1 : ∀ p a w, J a0 0 p a w → wpOp P ops Q c1 (fun b v => J a0 1 p b v) a w)
    (k2 : ∀ p a w, J a0 1 p a w → wpOp P ops Q c2 (fun b v => J a0 2 p b v) a w)
    (k3 : ∀ p a w, J a0 2 p a w → wpOp P ops Q c3 (fun b v => J a0 3 p b v) a w)
    (k4 : ∀ p a w, J a0 3 p a w → wpOp P ops Q c4 (fun b v => J a0 4 p b v) a w)
    (k5 : ∀ p a w, J a0 4 p a w → wpOp P ops Q c5 (fun b v => J a0 5 p b v) a w)
    (n1 : ∀ k p a w, p[0]? = some none → J a0 k p a w → wpOp P ops Q m1 (fun b v => ∃ q, J a0 k (p.set 0 (some q)) b v) a w)
    (fin : ∀ q1 a w, J a0 5 [some q1] a w → wpAnyV P md ops Q S T N (lstOf L0 [c1, c2, c3, c4, c5] [m1] 5 [true]) a w) :
    wpAnyV P md ops Q S T (N + 6) L0 a0 w0 := by
  refine lat_from1 [c1, c2, c3, c4, c5] m1 slots N 6 J hok rfl hsl h0 hS (fun k i p a w hk hJ => ?_) (fun k m i p a w hm hp hJ => ?_) fin
  · rcases k with _ | _ | _ | _ | _ | k
    · obtain rfl : c1 = i := by simpa using hk
      exact k1 p a w hJ
    · obtain rfl : c2 = i := by simpa using hk
      exact k2 p a w hJ
    · obtain rfl : c3 = i := by simpa using hk
      exact k3 p a w hJ
    · obtain rfl : c4 = i := by simpa using hk
      exact k4 p a w hJ
    · obtain rfl : c5 = i := by simpa using hk
      exact k5 p a w hJ
    · simp at hk
  · rcases m with _ | m
    · obtain rfl : m1 = i := by simpa using hm
      exact n1 k p a w hp hJ
    · simp at hm

theorem lat_5_2 {a0 : Act} {w0 : World} {L0 : Array Bool} (c1 c2 c3 c4 c5 m1 m2 : Nat) (slots : List Nat) (N : Nat) (J : Act → Nat → List (Option Nat) → Act → World → Prop) (hok : latOk md ops L0 [c1, c2, c3, c4, c5] [m1, m2] = true)
    (hsl : (slots.all fun s => decide (s < a0.tmps.size)) = true) (h0 : ∀ A : Act, (∀ s, s ∈ slots → s < A.tmps.size) → J A 0 (List.replicate 2 none) A w0)
    (hS : ∀ k p a w, J a0 k p a w → S w)
    (k1 : ∀ p a w, J a0 0 p a w → wpOp P ops Q c1 (fun b v => J a0 1 p b v) a w)
    (k2 : ∀ p a w, J a0 1 p a w → wpOp P ops Q c2 (fun b v => J a0 2 p b v) a w)
    (k3 : ∀ p a w, J a0 2 p a w → wpOp P ops Q c3 (fun b v => J a0 3 p b v) a w)
    (k4 : ∀ p a w, J a0 3 p a w → wpOp P ops Q c4 (fun b v => J a0 4 p b v) a w)
    (k5 : ∀ p a w, J a0 4 p a w → wpOp P ops Q c5 (fun b v => J a0 5 p b v) a w)
    (n1 : ∀ k p a w, p[0]? = some none → J a0 k p a w → wpOp P ops Q m1 (fun b v => ∃ q, J a0 k (p.set 0 (some q)) b v) a w)
    (n2 : ∀ k p a w, p[1]? = some none → J a0 k p a w → wpOp P ops Q m2 (fun b v => ∃ q, J a0 k (p.set 1 (some q)) b v) a w)
    (fin : ∀ q1 q2 a w, J a0 5 [some q1, some q2] a w → wpAnyV P md ops Q S T N (lstOf L0 [c1, c2, c3, c4, c5] [m1, m2] 5 [true, true]) a w) :
    wpAnyV P md ops Q S T (N + 7) L0 a0 w0 := by
  refine lat_from2 [c1, c2, c3, c4, c5] m1 m2 slots N 7 J hok rfl hsl h0 hS (fun k i p a w hk hJ => ?_) (fun k m i p a w hm hp hJ => ?_) fin
  · rcases k with _ | _ | _ | _ | _ | k
    · obtain rfl : c1 = i := by simpa using hk
      exact k1 p a w hJ
    · obtain rfl : c2 = i := by simpa using hk
      exact k2 p a w hJ
    · obtain rfl : c3 = i := by simpa using hk
      exact k3 p a w hJ
    · obtain rfl : c4 = i := by simpa using hk
      exact k4 p a w hJ
    · obtain rfl : c5 = i := by simpa using hk
      exact k5 p a w hJ
    · simp at hk
  · rcases m with _ | _ | m
    · obtain rfl : m1 = i := by simpa using hm
      exact n1 k p a w hp hJ
    · obtain rfl : m2 = i := by simpa using hm
      exact n2 k p a w hp hJ
    · simp at hm

theorem lat_5_3 {a0 : Act} {w0 : World} {L0 : Array Bool} (c1 c2 c3 c4 c5 m1 m2 m3 : Nat) (slots : List Nat) (N : Nat) (J : Act → Nat → List (Option Nat) → Act → World → Prop) (hok : latOk md ops L0 [c1, c2, c3, c4, c5] [m1, m2, m3] = true)
    (hsl : (slots.all fun s => decide (s < a0.tmps.size)) = true) (h0 : ∀ A : Act, (∀ s, s ∈ slots → s < A.tmps.size) → J A 0 (List.replicate 3 none) A w0)
    (hS : ∀ k p a w, J a0 k p a w → S w)
    (k1 : ∀ p a w, J a0 0 p a w → wpOp P ops Q c1 (fun b v => J a0 1 p b v) a w)
    (k2 : ∀ p a w, J a0 1 p a w → wpOp P ops Q c2 (fun b v => J a0 2 p b v) a w)
    (k3 : ∀ p a w, J a0 2 p a w → wpOp P ops Q c3 (fun b v => J a0 3 p b v) a w)
    (k4 : ∀ p a w, J a0 3 p a w → wpOp P ops Q c4 (fun b v => J a0 4 p b v) a w)
    (k5 : ∀ p a w, J a0 4 p a w → wpOp P ops Q c5 (fun b v => J a0 5 p b v) a w)
    (n1 : ∀ k p a w, p[0]? = some none → J a0 k p a w → wpOp P ops Q m1 (fun b v => ∃ q, J a0 k (p.set 0 (some q)) b v) a w)
    (n2 : ∀ k p a w, p[1]? = some none → J a0 k p a w → wpOp P ops Q m2 (fun b v => ∃ q, J a0 k (p.set 1 (some q)) b v) a w)
    (n3 : ∀ k p a w, p[2]? = some none → J a0 k p a w → wpOp P ops Q m3 (fun b v => ∃ q, J a0 k (p.set 2 (some q)) b v) a w)
    (fin : ∀ q1 q2 q3 a w, J a0 5 [some q1, some q2, some q3] a w → wpAnyV P md ops Q S T N (lstOf L0 [c1, c2, c3, c4, c5] [m1, m2, m3] 5 [true, true, true]) a w) :
    wpAnyV P md ops Q S T (N + 8) L0 a0 w0 := by
  refine lat_from3 [c1, c2, c3, c4, c5] m1 m2 m3 slots N 8 J hok rfl hsl h0 hS (fun k i p a w hk hJ => ?_) (fun k m i p a w hm hp hJ => ?_) fin
  · rcases k with _ | _ | _ | _ | _ | k
    · obtain rfl : c1 = i := by simpa using hk
      exact k1 p a w hJ
    · obtain rfl : c2 = i := by simpa using hk
      exact k2 p a w hJ
    · obtain rfl : c3 = i := by simpa using hk
      exact k3 p a w hJ
    · obtain rfl : c4 = i := by simpa using hk
      exact k4 p a w hJ
    · obtain rfl : c5 = i := by simpa using hk
      exact k5 p a w hJ
    · simp at hk
  · rcases m with _ | _ | _ | m
    · obtain rfl : m1 = i := by simpa using hm
      exact n1 k p a w hp hJ
    · obtain rfl : m2 = i := by simpa using hm
      exact n2 k p a w hp hJ
    · obtain rfl : m3 = i := by simpa using hm
      exact n3 k p a w hp hJ
    · simp at hm

theorem lat_6_0 {a0 : Act} {w0 : World} {L0 : Array Bool} (c1 c2 c3 c4 c5 c6 : Nat) (slots : List Nat) (N : Nat) (J : Act → Nat → List (Option Nat) → Act → World → Prop) (hok : latOk md ops L0 [c1, c2, c3, c4, c5, c6] [] = true)
    (hsl : (slots.all fun s => decide (s < a0.tmps.size)) = true) (h0 : ∀ A : Act, (∀ s, s ∈ slots → s < A.tmps.size) → J A 0 (List.replicate 0 none) A w0)
    (hS : ∀ k p a w, J a0 k p a w → S w)
    (k1 : ∀ p a w, J a0 0 p a w → wpOp P ops Q c1 (fun b v => J a0 1 p b v) a w)
    (k2 : ∀ p a w, J a0 1 p a w → wpOp P ops Q c2 (fun b v => J a0 2 p b v) a w)
    (k3 : ∀ p a w, J a0 2 p a w → wpOp P ops Q c3 (fun b v => J a0 3 p b v) a w)
    (k4 : ∀ p a w, J a0 3 p a w → wpOp P ops Q c4 (fun b v => J a0 4 p b v) a w)
    (k5 : ∀ p a w, J a0 4 p a w → wpOp P ops Q c5 (fun b v => J a0 5 p b v) a w)
    (k6 : ∀ p a w, J a0 5 p a w → wpOp P ops Q c6 (fun b v => J a0 6 p b v) a w)
    (fin : ∀ a w, J a0 6 [] a w → wpAnyV P md ops Q S T N (lstOf L0 [c1, c2, c3, c4, c5, c6] [] 6 []) a w) :
    wpAnyV P md ops Q S T (N + 6) L0 a0 w0 := by
  refine lat_from [c1, c2, c3, c4, c5, c6] [] slots N 6 J hok rfl hsl h0 hS (fun k i p a w hk hJ => ?_) (fun k m i p a w hm hp hJ => by simp at hm) (fun p a w hp _ hJ => ?_)
  · rcases k with _ | _ | _ | _ | _ | _ | k
    · obtain rfl : c1 = i := by simpa using hk
      exact k1 p a w hJ
    · obtain rfl : c2 = i := by simpa using hk
      exact k2 p a w hJ
    · obtain rfl : c3 = i := by simpa using hk
      exact k3 p a w hJ
    · obtain rfl : c4 = i := by simpa using hk
      exact k4 p a w hJ
    · obtain rfl : c5 = i := by simpa using hk
      exact k5 p a w hJ
    · obtain rfl : c6 = i := by simpa using hk
      exact k6 p a w hJ
    · simp at hk
  · obtain rfl : p = [] := List.length_eq_zero_iff.1 hp
    exact fin a w hJ

theorem lat_6_1 {a0 : Act} {w0 : World} {L0 : Array Bool} (c1 c2 c3 c4 c5 c6 m1 : Nat) (slots : List Nat) (N : Nat) (J : Act → Nat → List (Option Nat) → Act → World → Prop) (hok : latOk md ops L0 [c1, c2, c3, c4, c5, c6] [m1] = true)
    (hsl : (slots.all fun s => decide (s < a0.tmps.size)) = true) (h0 : ∀ A : Act, (∀ s, s ∈ slots → s < A.tmps.size) → J A 0 (List.replicate 1 none) A w0)
    (hS : ∀ k p a w, J a0 k p a w → S w)
    (k1 : ∀ p a w, J a0 0 p a w → wpOp P ops Q c1 (fun b v => J a0 1 p b v) a w)
    (k2 : ∀ p a w, J a0 1 p a w → wpOp P ops Q c2 (fun b v => J a0 2 p b v) a w)
    (k3 : ∀ p a w, J a0 2 p a w → wpOp P ops Q c3 (fun b v => J a0 3 p b v) a w)
    (k4 : ∀ p a w, J a0 3 p a w → wpOp P ops Q c4 (fun b v => J a0 4 p b v) a w)
    (k5 : ∀ p a w, J a0 4 p a w → wpOp P ops Q c5 (fun b v => J a0 5 p b v) a w)
    (k6 : ∀ p a w, J a0 5 p a w → wpOp P ops Q c6 (fun b v => J a0 6 p b v) a w)
    (n1 : ∀ k p a w, p[0]? = some none → J a0 k p a w → wpOp P ops Q m1 (fun b v => ∃ q, J a0 k (p.set 0 (some q)) b v) a w)
    (fin : ∀ q1 a w, J a0 6 [some q1] a w → wpAnyV P md ops Q S T N (lstOf L0 [c1, c2, c3, c4, c5, c6] [m1] 6 [true]) a w) :
    wpAnyV P md ops Q S T (N + 7) L0 a0 w0 := by
  refine lat_from1 [c1, c2, c3, c4, c5, c6] m1 slots N 7 J hok rfl hsl h0 hS (fun k i p a w hk hJ => ?_) (fun k m i p a w hm hp hJ => ?_) fin
  · rcases k with _ | _ | _ | _ | _ | _ | k
    · obtain rfl : c1 = i := by simpa using hk
      exact k1 p a w hJ
    · obtain rfl : c2 = i := by simpa using hk
      exact k2 p a w hJ
    · obtain rfl : c3 = i := by simpa using hk
      exact k3 p a w hJ
    · obtain rfl : c4 = i := by simpa using hk
      exact k4 p a w hJ
    · obtain rfl : c5 = i := by simpa using hk
      exact k5 p a w hJ
    · obtain rfl : c6 = i := by simpa using hk
      exact k6 p a w hJ
    · simp at hk
  · rcases m with _ | m
    · obtain rfl : m1 = i := by simpa using hm
      exact n1 k p a w hp hJ
    · simp at hm

theorem lat_7_0 {a0 : Act} {w0 : World} {L0 : Array Bool} (c1 c2 c3 c4 c5 c6 c7 : Nat) (slots : List Nat) (N : Nat) (J : Act → Nat → List (Option Nat) → Act → World → Prop) (hok : latOk md ops L0 [c1, c2, c3, c4, c5, c6, c7] [] = true)
    (hsl : (slots.all fun s => decide (s < a0.tmps.size)) = true) (h0 : ∀ A : Act, (∀ s, s ∈ slots → s < A.tmps.size) → J A 0 (List.replicate 0 none) A w0)
    (hS : ∀ k p a w, J a0 k p a w → S w)
    (k1 : ∀ p a w, J a0 0 p a w → wpOp P ops Q c1 (fun b v => J a0 1 p b v) a w)
    (k2 : ∀ p a w, J a0 1 p a w → wpOp P ops Q c2 (fun b v => J a0 2 p b v) a w)
    (k3 : ∀ p a w, J a0 2 p a w → wpOp P ops Q c3 (fun b v => J a0 3 p b v) a w)
    (k4 : ∀ p a w, J a0 3 p a w → wpOp P ops Q c4 (fun b v => J a0 4 p b v) a w)
    (k5 : ∀ p a w, J a0 4 p a w → wpOp P ops Q c5 (fun b v => J a0 5 p b v) a w)
    (k6 : ∀ p a w, J a0 5 p a w → wpOp P ops Q c6 (fun b v => J a0 6 p b v) a w)
    (k7 : ∀ p a w, J a0 6 p a w → wpOp P ops Q c7 (fun b v => J a0 7 p b v) a w)
    (fin : ∀ a w, J a0 7 [] a w → wpAnyV P md ops Q S T N (lstOf L0 [c1, c2, c3, c4, c5, c6, c7] [] 7 []) a w) :
    wpAnyV P md ops Q S T (N + 7) L0 a0 w0 := by
  refine lat_from [c1, c2, c3, c4, c5, c6, c7] [] slots N 7 J hok rfl hsl h0 hS (fun k i p a w hk hJ => ?_) (fun k m i p a w hm hp hJ => by simp at hm) (fun p a w hp _ hJ => ?_)
  · rcases k with _ | _ | _ | _ | _ | _ | _ | k
    · obtain rfl : c1 = i := by simpa using hk
      exact k1 p a w hJ
    · obtain rfl : c2 = i := by simpa using hk
      exact k2 p a w hJ
    · obtain rfl : c3 = i := by simpa using hk
      exact k3 p a w hJ
    · obtain rfl : c4 = i := by simpa using hk
      exact k4 p a w hJ
    · obtain rfl : c5 = i := by simpa using hk
      exact k5 p a w hJ
    · obtain rfl : c6 = i := by simpa using hk
      exact k6 p a w hJ
    · obtain rfl : c7 = i := by simpa using hk
      exact k7 p a w hJ
    · simp at hk
  · obtain rfl : p = [] := List.length_eq_zero_iff.1 hp
    exact fin a w hJ

theorem lat_7_1 {a0 : Act} {w0 : World} {L0 : Array Bool} (c1 c2 c3 c4 c5 c6 c7 m1 : Nat) (slots : List Nat) (N : Nat) (J : Act → Nat → List (Option Nat) → Act → World → Prop) (hok : latOk md ops L0 [c1, c2, c3, c4, c5, c6, c7] [m1] = true)
    (hsl : (slots.all fun s => decide (s < a0.tmps.size)) = true) (h0 : ∀ A : Act, (∀ s, s ∈ slots → s < A.tmps.size) → J A 0 (List.replicate 1 none) A w0)
    (hS : ∀ k p a w, J a0 k p a w → S w)
    (k1 : ∀ p a w, J a0 0 p a w → wpOp P ops Q c1 (fun b v => J a0 1 p b v) a w)
    (k2 : ∀ p a w, J a0 1 p a w → wpOp P ops Q c2 (fun b v => J a0 2 p b v) a w)
    (k3 : ∀ p a w, J a0 2 p a w → wpOp P ops Q c3 (fun b v => J a0 3 p b v) a w)
    (k4 : ∀ p a w, J a0 3 p a w → wpOp P ops Q c4 (fun b v => J a0 4 p b v) a w)
    (k5 : ∀ p a w, J a0 4 p a w → wpOp P ops Q c5 (fun b v => J a0 5 p b v) a w)
    (k6 : ∀ p a w, J a0 5 p a w → wpOp P ops Q c6 (fun b v => J a0 6 p b v) a w)
    (k7 : ∀ p a w, J a0 6 p a w → wpOp P ops Q c7 (fun b v => J a0 7 p b v) a w)
    (n1 : ∀ k p a w, p[0]? = some none → J a0 k p a w → wpOp P ops Q m1 (fun b v => ∃ q, J a0 k (p.set 0 (some q)) b v) a w)
    (fin : ∀ q1 a w, J a0 7 [some q1] a w → wpAnyV P md ops Q S T N (lstOf L0 [c1, c2, c3, c4, c5, c6, c7] [m1] 7 [true]) a w) :
    wpAnyV P md ops Q S T (N + 8) L0 a0 w0 := by
  refine lat_from1 [c1, c2, c3, c4, c5, c6, c7] m1 slots N 8 J hok rfl hsl h0 hS (fun k i p a w hk hJ => ?_) (fun k m i p a w hm hp hJ => ?_) fin
  · rcases k with _ | _ | _ | _ | _ | _ | _ | k
    · obtain rfl : c1 = i := by simpa using hk
      exact k1 p a w hJ
    · obtain rfl : c2 = i := by simpa using hk
      exact k2 p a w hJ
    · obtain rfl : c3 = i := by simpa using hk
      exact k3 p a w hJ
    · obtain rfl : c4 = i := by simpa using hk
      exact k4 p a w hJ
    · obtain rfl : c5 = i := by simpa using hk
      exact k5 p a w hJ
    · obtain rfl : c6 = i := by simpa using hk
      exact k6 p a w hJ
    · obtain rfl : c7 = i := by simpa using hk
      exact k7 p a w hJ
    · simp at hk
  · rcases m with _ | m
    · obtain rfl : m1 = i := by simpa using hm
      exact n1 k p a w hp hJ
    · simp at hm

theorem lat_8_0 {a0 : Act} {w0 : World} {L0 : Array Bool} (c1 c2 c3 c4 c5 c6 c7 c8 : Nat) (slots : List Nat) (N : Nat) (J : Act → Nat → List (Option Nat) → Act → World → Prop) (hok : latOk md ops L0 [c1, c2, c3, c4, c5, c6, c7, c8] [] = true)
    (hsl : (slots.all fun s => decide (s < a0.tmps.size)) = true) (h0 : ∀ A : Act, (∀ s, s ∈ slots → s < A.tmps.size) → J A 0 (List.replicate 0 none) A w0)
    (hS : ∀ k p a w, J a0 k p a w → S w)
    (k1 : ∀ p a w, J a0 0 p a w → wpOp P ops Q c1 (fun b v => J a0 1 p b v) a w)
    (k2 : ∀ p a w, J a0 1 p a w → wpOp P ops Q c2 (fun b v => J a0 2 p b v) a w)
    (k3 : ∀ p a w, J a0 2 p a w → wpOp P ops Q c3 (fun b v => J a0 3 p b v) a w)
    (k4 : ∀ p a w, J a0 3 p a w → wpOp P ops Q c4 (fun b v => J a0 4 p b v) a w)
    (k5 : ∀ p a w, J a0 4 p a w → wpOp P ops Q c5 (fun b v => J a0 5 p b v) a w)
    (k6 : ∀ p a w, J a0 5 p a w → wpOp P ops Q c6 (fun b v => J a0 6 p b v) a w)
    (k7 : ∀ p a w, J a0 6 p a w → wpOp P ops Q c7 (fun b v => J a0 7 p b v) a w)
    (k8 : ∀ p a w, J a0 7 p a w → wpOp P ops Q c8 (fun b v => J a0 8 p b v) a w)
    (fin : ∀ a w, J a0 8 [] a w → wpAnyV P md ops Q S T N (lstOf L0 [c1, c2, c3, c4, c5, c6, c7, c8] [] 8 []) a w) :
    wpAnyV P md ops Q S T (N + 8) L0 a0 w0 := by
  refine lat_from [c1, c2, c3, c4, c5, c6, c7, c8] [] slots N 8 J hok rfl hsl h0 hS (fun k i p a w hk hJ => ?_) (fun k m i p a w hm hp hJ => by simp at hm) (fun p a w hp _ hJ => ?_)
  · rcases k with _ | _ | _ | _ | _ | _ | _ | _ | k
    · obtain rfl : c1 = i := by simpa using hk
      exact k1 p a w hJ
    · obtain rfl : c2 = i := by simpa using hk
      exact k2 p a w hJ
    · obtain rfl : c3 = i := by simpa using hk
      exact k3 p a w hJ
    · obtain rfl : c4 = i := by simpa using hk
      exact k4 p a w hJ
    · obtain rfl : c5 = i := by simpa using hk
      exact k5 p a w hJ
    · obtain rfl : c6 = i := by simpa using hk
      exact k6 p a w hJ
    · obtain rfl : c7 = i := by simpa using hk
      exact k7 p a w hJ
    · obtain rfl : c8 = i := by simpa using hk
      exact k8 p a w hJ
    · simp at hk
  · obtain rfl : p = [] := List.length_eq_zero_iff.1 hp
    exact fin a w hJ

theorem lat_8_1 {a0 : Act} {w0 : World} {L0 : Array Bool} (c1 c2 c3 c4 c5 c6 c7 c8 m1 : Nat) (slots : List Nat) (N : Nat) (J : Act → Nat → List (Option Nat) → Act → World → Prop) (hok : latOk md ops L0 [c1, c2, c3, c4, c5, c6, c7, c8] [m1] = true)
    (hsl : (slots.all fun s => decide (s < a0.tmps.size)) = true) (h0 : ∀ A : Act, (∀ s, s ∈ slots → s < A.tmps.size) → J A 0 (List.replicate 1 none) A w0)
    (hS : ∀ k p a w, J a0 k p a w → S w)
    (k1 : ∀ p a w, J a0 0 p a w → wpOp P ops Q c1 (fun b v => J a0 1 p b v) a w)
    (k2 : ∀ p a w, J a0 1 p a w → wpOp P ops Q c2 (fun b v => J a0 2 p b v) a w)
    (k3 : ∀ p a w, J a0 2 p a w → wpOp P ops Q c3 (fun b v => J a0 3 p b v) a w)
    (k4 : ∀ p a w, J a0 3 p a w → wpOp P ops Q c4 (fun b v => J a0 4 p b v) a w)
    (k5 : ∀ p a w, J a0 4 p a w → wpOp P ops Q c5 (fun b v => J a0 5 p b v) a w)
    (k6 : ∀ p a w, J a0 5 p a w → wpOp P ops Q c6 (fun b v => J a0 6 p b v) a w)
    (k7 : ∀ p a w, J a0 6 p a w → wpOp P ops Q c7 (fun b v => J a0 7 p b v) a w)
    (k8 : ∀ p a w, J a0 7 p a w → wpOp P ops Q c8 (fun b v => J a0 8 p b v) a w)
    (n1 : ∀ k p a w, p[0]? = some none → J a0 k p a w → wpOp P ops Q m1 (fun b v => ∃ q, J a0 k (p.set 0 (some q)) b v) a w)
    (fin : ∀ q1 a w, J a0 8 [some q1] a w → wpAnyV P md ops Q S T N (lstOf L0 [c1, c2, c3, c4, c5, c6, c7, c8] [m1] 8 [true]) a w) :
    wpAnyV P md ops Q S T (N + 9) L0 a0 w0 := by
  refine lat_from1 [c1, c2, c3, c4, c5, c6, c7, c8] m1 slots N 9 J hok rfl hsl h0 hS (fun k i p a w hk hJ => ?_) (fun k m i p a w hm hp hJ => ?_) fin
  · rcases k with _ | _ | _ | _ | _ | _ | _ | _ | k
    · obtain rfl : c1 = i := by simpa using hk
      exact k1 p a w hJ
    · obtain rfl : c2 = i := by simpa using hk
      exact k2 p a w hJ
    · obtain rfl : c3 = i := by simpa using hk
      exact k3 p a w hJ
    · obtain rfl : c4 = i := by simpa using hk
      exact k4 p a w hJ
    · obtain rfl : c5 = i := by simpa using hk
      exact k5 p a w hJ
    · obtain rfl : c6 = i := by simpa using hk
      exact k6 p a w hJ
    · obtain rfl : c7 = i := by simpa using hk
      exact k7 p a w hJ
    · obtain rfl : c8 = i := by simpa using hk
      exact k8 p a w hJ
    · simp at hk
  · rcases m with _ | m
    · obtain rfl : m1 = i := by simpa using hm
      exact n1 k p a w hp hJ
    · simp at hm

theorem lam_1_0 {a0 : Act} {B v : World} {x : Nat × Array Value} {l : List (Nat × Array Value)} (_ : Hid (Own B (x :: l) v)) {w0 : World} {L0 : Array Bool} (c1 : Nat) (slots : List Nat) (N : Nat) (J : List (Nat × Array Value) → Act → Nat → List (Option Nat) → Act → World → Prop) (hok : latOk md ops L0 [c1] [] = true)
    (hsl : (slots.all fun s => decide (s < a0.tmps.size)) = true) (h0 : ∀ A : Act, (∀ s, s ∈ slots → s < A.tmps.size) → J l A 0 (List.replicate 0 none) A w0)
    (hS : ∀ k p a w, J l a0 k p a w → S w)
    (k1 : ∀ p a w, J l a0 0 p a w → wpOp P ops Q c1 (fun b v => J l a0 1 p b v) a w)
    (fin : ∀ a w, J l a0 1 [] a w → wpAnyV P md ops Q S T N (lstOf L0 [c1] [] 1 []) a w) :
    wpAnyV P md ops Q S T (N + 1) L0 a0 w0 :=
  lat_1_0 c1 slots N (J l) hok hsl h0 hS k1 fin

theorem lam_1_1 {a0 : Act} {B v : World} {x : Nat × Array Value} {l : List (Nat × Array Value)} (_ : Hid (Own B (x :: l) v)) {w0 : World} {L0 : Array Bool} (c1 m1 : Nat) (slots : List Nat) (N : Nat) (J : List (Nat × Array Value) → Act → Nat → List (Option Nat) → Act → World → Prop) (hok : latOk md ops L0 [c1] [m1] = true)
    (hsl : (slots.all fun s => decide (s < a0.tmps.size)) = true) (h0 : ∀ A : Act, (∀ s, s ∈ slots → s < A.tmps.size) → J l A 0 (List.replicate 1 none) A w0)
    (hS : ∀ k p a w, J l a0 k p a w → S w)
    (k1 : ∀ p a w, J l a0 0 p a w → wpOp P ops Q c1 (fun b v => J l a0 1 p b v) a w)
    (n1 : ∀ k p a w, p[0]? = some none → J l a0 k p a w → wpOp P ops Q m1 (fun b v => ∃ q, J l a0 k (p.set 0 (some q)) b v) a w)
    (fin : ∀ q1 a w, J l a0 1 [some q1] a w → wpAnyV P md ops Q S T N (lstOf L0 [c1] [m1] 1 [true]) a w) :
    wpAnyV P md ops Q S T (N + 2) L0 a0 w0 :=
  lat_1_1 c1 m1 slots N (J l) hok hsl h0 hS k1 n1 fin

theorem lam_1_2 {a0 : Act} {B v : World} {x : Nat × Array Value} {l : List (Nat × Array Value)} (_ : Hid (Own B (x :: l) v)) {w0 : World} {L0 : Array Bool} (c1 m1 m2 : Nat) (slots : List Nat) (N : Nat) (J : List (Nat × Array Value) → Act → Nat → List (Option Nat) → Act → World → Prop) (hok : latOk md ops L0 [c1] [m1, m2] = true)
    (hsl : (slots.all fun s => decide (s < a0.tmps.size)) = true) (h0 : ∀ A : Act, (∀ s, s ∈ slots → s < A.tmps.size) → J l A 0 (List.replicate 2 none) A w0)
    (hS : ∀ k p a w, J l a0 k p a w → S w)
    (k1 : ∀ p a w, J l a0 0 p a w → wpOp P ops Q c1 (fun b v => J l a0 1 p b v) a w)
    (n1 : ∀ k p a w, p[0]? = some none → J l a0 k p a w → wpOp P ops Q m1 (fun b v => ∃ q, J l a0 k (p.set 0 (some q)) b v) a w)
    (n2 : ∀ k p a w, p[1]? = some none → J l a0 k p a w → wpOp P ops Q m2 (fun b v => ∃ q, J l a0 k (p.set 1 (some q)) b v) a w)
    (fin : ∀ q1 q2 a w, J l a0 1 [some q1, some q2] a w → wpAnyV P md ops Q S T N (lstOf L0 [c1] [m1, m2] 1 [true, true]) a w) :
    wpAnyV P md ops Q S T (N + 3) L0 a0 w0 :=
  lat_1_2 c1 m1 m2 slots N (J l) hok hsl h0 hS k1 n1 n2 fin

theorem lam_2_0 {a0 : Act} {B v : World} {x : Nat × Array Value} {l : List (Nat × Array Value)} (_ : Hid (Own B (x :: l) v)) {w0 : World} {L0 : Array Bool} (c1 c2 : Nat) (slots : List Nat) (N : Nat) (J : List (Nat × Array Value) → Act → Nat → List (Option Nat) → Act → World → Prop) (hok : latOk md ops L0 [c1, c2] [] = true)
    (hsl : (slots.all fun s => decide (s < a0.tmps.size)) = true) (h0 : ∀ A : Act, (∀ s, s ∈ slots → s < A.tmps.size) → J l A 0 (List.replicate 0 none) A w0)
    (hS : ∀ k p a w, J l a0 k p a w → S w)
    (k1 : ∀ p a w, J l a0 0 p a w → wpOp P ops Q c1 (fun b v => J l a0 1 p b v) a w)
    (k2 : ∀ p a w, J l a0 1 p a w → wpOp P ops Q c2 (fun b v => J l a0 2 p b v) a w)
    (fin : ∀ a w, J l a0 2 [] a w → wpAnyV P md ops Q S T N (lstOf L0 [c1, c2] [] 2 []) a w) :
    wpAnyV P md ops Q S T (N + 2) L0 a0 w0 :=
  lat_2_0 c1 c2 slots N (J l) hok hsl h0 hS k1 k2 fin

theorem lam_2_1 {a0 : Act} {B v : World} {x : Nat × Array Value} {l : List (Nat × Array Value)} (_ : Hid (Own B (x :: l) v)) {w0 : World} {L0 : Array Bool} (c1 c2 m1 : Nat) (slots : List Nat) (N : Nat) (J : List (Nat × Array Value) → Act → Nat → List (Option Nat) → Act → World → Prop) (hok : latOk md ops L0 [c1, c2] [m1] = true)
    (hsl : (slots.all fun s => decide (s < a0.tmps.size)) = true) (h0 : ∀ A : Act, (∀ s, s ∈ slots → s < A.tmps.size) → J l A 0 (List.replicate 1 none) A w0)
    (hS : ∀ k p a w, J l a0 k p a w → S w)
    (k1 : ∀ p a w, J l a0 0 p a w → wpOp P ops Q c1 (fun b v => J l a0 1 p b v) a w)
    (k2 : ∀ p a w, J l a0 1 p a w → wpOp P ops Q c2 (fun b v => J l a0 2 p b v) a w)
    (n1 : ∀ k p a w, p[0]? = some none → J l a0 k p a w → wpOp P ops Q m1 (fun b v => ∃ q, J l a0 k (p.set 0 (some q)) b v) a w)
    (fin : ∀ q1 a w, J l a0 2 [some q1] a w → wpAnyV P md ops Q S T N (lstOf L0 [c1, c2] [m1] 2 [true]) a w) :
    wpAnyV P md ops Q S T (N + 3) L0 a0 w0 :=
  lat_2_1 c1 c2 m1 slots N (J l) hok hsl h0 hS k1 k2 n1 fin

theorem lam_2_2 {a0 : Act} {B v : World} {x : Nat × Array Value} {l : List (Nat × Array Value)} (_ : Hid (Own B (x :: l) v)) {w0 : World} {L0 : Array Bool} (c1 c2 m1 m2 : Nat) (slots : List Nat) (N : Nat) (J : List (Nat × Array Value) → Act → Nat → List (Option Nat) → Act → World → Prop) (hok : latOk md ops L0 [c1, c2] [m1, m2] = true)
    (hsl : (slots.all fun s => decide (s < a0.tmps.size)) = true) (h0 : ∀ A : Act, (∀ s, s ∈ slots → s < A.tmps.size) → J l A 0 (List.replicate 2 none) A w0)
    (hS : ∀ k p a w, J l a0 k p a w → S w)
    (k1 : ∀ p a w, J l a0 0 p a w → wpOp P ops Q c1 (fun b v => J l a0 1 p b v) a w)
    (k2 : ∀ p a w, J l a0 1 p a w → wpOp P ops Q c2 (fun b v => J l a0 2 p b v) a w)
    (n1 : ∀ k p a w, p[0]? = some none → J l a0 k p a w → wpOp P ops Q m1 (fun b v => ∃ q, J l a0 k (p.set 0 (some q)) b v) a w)
    (n2 : ∀ k p a w, p[1]? = some none → J l a0 k p a w → wpOp P ops Q m2 (fun b v => ∃ q, J l a0 k (p.set 1 (some q)) b v) a w)
    (fin : ∀ q1 q2 a w, J l a0 2 [some q1, some q2] a w → wpAnyV P md ops Q S T N (lstOf L0 [c1, c2] [m1, m2] 2 [true, true]) a w) :
    wpAnyV P md ops Q S T (N + 4) L0 a0 w0 :=
  lat_2_2 c1 c2 m1 m2 slots N (J l) hok hsl h0 hS k1 k2 n1 n2 fin

theorem lam_3_0 {a0 : Act} {B v : World} {x : Nat × Array Value} {l : List (Nat × Array Value)} (_ : Hid (Own B (x :: l) v)) {w0 : World} {L0 : Array Bool} (c1 c2 c3 : Nat) (slots : List Nat) (N : Nat) (J : List (Nat × Array Value) → Act → Nat → List (Option Nat) → Act → World → Prop) (hok : latOk md ops L0 [c1, c2, c3] [] = true)
    (hsl : (slots.all fun s => decide (s < a0.tmps.size)) = true) (h0 : ∀ A : Act, (∀ s, s ∈ slots → s < A.tmps.size) → J l A 0 (List.replicate 0 none) A w0)
    (hS : ∀ k p a w, J l a0 k p a w → S w)
    (k1 : ∀ p a w, J l a0 0 p a w → wpOp P ops Q c1 (fun b v => J l a0 1 p b v) a w)
    (k2 : ∀ p a w, J l a0 1 p a w → wpOp P ops Q c2 (fun b v => J l a0 2 p b v) a w)
    (k3 : ∀ p a w, J l a0 2 p a w → wpOp P ops Q c3 (fun b v => J l a0 3 p b v) a w)
    (fin : ∀ a w, J l a0 3 [] a w → wpAnyV P md ops Q S T N (lstOf L0 [c1, c2, c3] [] 3 []) a w) :
    wpAnyV P md ops Q S T (N + 3) L0 a0 w0 :=
  lat_3_0 c1 c2 c3 slots N (J l) hok hsl h0 hS k1 k2 k3 fin

theorem lam_3_1 {a0 : Act} {B v : World} {x : Nat × Array Value} {l : List (Nat × Array Value)} (_ : Hid (Own B (x :: l) v)) {w0 : World} {L0 : Array Bool} (c1 c2 c3 m1 : Nat) (slots : List Nat) (N : Nat) (J : List (Nat × Array Value) → Act → Nat → List (Option Nat) → Act → World → Prop) (hok : latOk md ops L0 [c1, c2, c3] [m1] = true)
    (hsl : (slots.all fun s => decide (s < a0.tmps.size)) = true) (h0 : ∀ A : Act, (∀ s, s ∈ slots → s < A.tmps.size) → J l A 0 (List.replicate 1 none) A w0)
    (hS : ∀ k p a w, J l a0 k p a w → S w)
    (k1 : ∀ p a w, J l a0 0 p a w → wpOp P ops Q c1 (fun b v => J l a0 1 p b v) a w)
    (k2 : ∀ p a w, J l a0 1 p a w → wpOp P ops Q c2 (fun b v => J l a0 2 p b v) a w)
    (k3 : ∀ p a w, J l a0 2 p a w → wpOp P ops Q c3 (fun b v => J l a0 3 p b v) a w)
    (n1 : ∀ k p a w, p[0]? = some none → J l a0 k p a w → wpOp P ops Q m1 (fun b v => ∃ q, J l a0 k (p.set 0 (some q)) b v) a w)
    (fin : ∀ q1 a w, J l a0 3 [some q1] a w → wpAnyV P md ops Q S T N (lstOf L0 [c1, c2, c3] [m1] 3 [true]) a w) :
    wpAnyV P md ops Q S T (N + 4) L0 a0 w0 :=
  lat_3_1 c1 c2 c3 m1 slots N (J l) hok hsl h0 hS k1 k2 k3 n1 fin

theorem lam_3_2 {a0 : Act} {B v : World} {x : Nat × Array Value} {l : List (Nat × Array Value)} (_ : Hid (Own B (x :: l) v)) {w0 : World} {L0 : Array Bool} (c1 c2 c3 m1 m2 : Nat) (slots : List Nat) (N : Nat) (J : List (Nat × Array Value) → Act → Nat → List (Option Nat) → Act → World → Prop) (hok : latOk md ops L0 [c1, c2, c3] [m1, m2] = true)
    (hsl : (slots.all fun s => decide (s < a0.tmps.size)) = true) (h0 : ∀ A : Act, (∀ s, s ∈ slots → s < A.tmps.size) → J l A 0 (List.replicate 2 none) A w0)
    (hS : ∀ k p a w, J l a0 k p a w → S w)
    (k1 : ∀ p a w, J l a0 0 p a w → wpOp P ops Q c1 (fun b v => J l a0 1 p b v) a w)
    (k2 : ∀ p a w, J l a0 1 p a w → wpOp P ops Q c2 (fun b v => J l a0 2 p b v) a w)
    (k3 : ∀ p a w, J l a0 2 p a w → wpOp P ops Q c3 (fun b v => J l a0 3 p b v) a w)
    (n1 : ∀ k p a w, p[0]? = some none → J l a0 k p a w → wpOp P ops Q m1 (fun b v => ∃ q, J l a0 k (p.set 0 (some q)) b v) a w)
    (n2 : ∀ k p a w, p[1]? = some none → J l a0 k p a w → wpOp P ops Q m2 (fun b v => ∃ q, J l a0 k (p.set 1 (some q)) b v) a w)
    (fin : ∀ q1 q2 a w, J l a0 3 [some q1, some q2] a w → wpAnyV P md ops Q S T N (lstOf L0 [c1, c2, c3] [m1, m2] 3 [true, true]) a w) :
    wpAnyV P md ops Q S T (N + 5) L0 a0 w0 :=
  lat_3_2 c1 c2 c3 m1 m2 slots N (J l) hok hsl h0 hS k1 k2 k3 n1 n2 fin

theorem lam_4_0 {a0 : Act} {B v : World} {x : Nat × Array Value} {l : List (Nat × Array Value)} (_ : Hid (Own B (x :: l) v)) {w0 : World} {L0 : Array Bool} (c1 c2 c3 c4 : Nat) (slots : List Nat) (N : Nat) (J : List (Nat × Array Value) → Act → Nat → List (Option Nat) → Act → World → Prop) (hok : latOk md ops L0 [c1, c2, c3, c4] [] = true)
    (hsl : (slots.all fun s => decide (s < a0.tmps.size)) = true) (h0 : ∀ A : Act, (∀ s, s ∈ slots → s < A.tmps.size) → J l A 0 (List.replicate 0 none) A w0)
    (hS : ∀ k p a w, J l a0 k p a w → S w)
    (k1 : ∀ p a w, J l a0 0 p a w → wpOp P ops Q c1 (fun b v => J l a0 1 p b v) a w)
    (k2 : ∀ p a w, J l a0 1 p a w → wpOp P ops Q c2 (fun b v => J l a0 2 p b v) a w)
    (k3 : ∀ p a w, J l a0 2 p a w → wpOp P ops Q c3 (fun b v => J l a0 3 p b v) a w)
    (k4 : ∀ p a w, J l a0 3 p a w → wpOp P ops Q c4 (fun b v => J l a0 4 p b v) a w)
    (fin : ∀ a w, J l a0 4 [] a w → wpAnyV P md ops Q S T N (lstOf L0 [c1, c2, c3, c4] [] 4 []) a w) :
    wpAnyV P md ops Q S T (N + 4) L0 a0 w0 :=
  lat_4_0 c1 c2 c3 c4 slots N (J l) hok hsl h0 hS k1 k2 k3 k4 fin

theorem lam_4_1 {a0 : Act} {B v : World} {x : Nat × Array Value} {l : List (Nat × Array Value)} (_ : Hid (Own B (x :: l) v)) {w0 : World} {L0 : Array Bool} (c1 c2 c3 c4 m1 : Nat) (slots : List Nat) (N : Nat) (J : List (Nat × Array Value) → Act → Nat → List (Option Nat) → Act → World → Prop) (hok : latOk md ops L0 [c1, c2, c3, c4] [m1] = true)
    (hsl : (slots.all fun s => decide (s < a0.tmps.size)) = true) (h0 : ∀ A : Act, (∀ s, s ∈ slots → s < A.tmps.size) → J l A 0 (List.replicate 1 none) A w0)
    (hS : ∀ k p a w, J l a0 k p a w → S w)
    (k1 : ∀ p a w, J l a0 0 p a w → wpOp P ops Q c1 (fun b v => J l a0 1 p b v) a w)
    (k2 : ∀ p a w, J l a0 1 p a w → wpOp P ops Q c2 (fun b v => J l a0 2 p b v) a w)
    (k3 : ∀ p a w, J l a0 2 p a w → wpOp P ops Q c3 (fun b v => J l a0 3 p b v) a w)
    (k4 : ∀ p a w, J l a0 3 p a w → wpOp P ops Q c4 (fun b v => J l a0 4 p b v) a w)
    (n1 : ∀ k p a w, p[0]? = some none → J l a0 k p a w → wpOp P ops Q m1 (fun b v => ∃ q, J l a0 k (p.set 0 (some q)) b v) a w)
    (fin : ∀ q1 a w, J l a0 4 [some q1] a w → wpAnyV P md ops Q S T N (lstOf L0 [c1, c2, c3, c4] [m1] 4 [true]) a w) :
    wpAnyV P md ops Q S T (N + 5) L0 a0 w0 :=
  lat_4_1 c1 c2 c3 c4 m1 slots N (J l) hok hsl h0 hS k1 k2 k3 k4 n1 fin

theorem lam_4_2 {a0 : Act} {B v : World} {x : Nat × Array Value} {l : List (Nat × Array Value)} (_ : Hid (Own B (x :: l) v)) {w0 : World} {L0 : Array Bool} (c1 c2 c3 c4 m1 m2 : Nat) (slots : List Nat) (N : Nat) (J : List (Nat × Array Value) → Act → Nat → List (Option Nat) → Act → World → Prop) (hok : latOk md ops L0 [c1, c2, c3, c4] [m1, m2] = true)
    (hsl : (slots.all fun s => decide (s < a0.tmps.size)) = true) (h0 : ∀ A : Act, (∀ s, s ∈ slots → s < A.tmps.size) → J l A 0 (List.replicate 2 none) A w0)
    (hS : ∀ k p a w, J l a0 k p a w → S w)
    (k1 : ∀ p a w, J l a0 0 p a w → wpOp P ops Q c1 (fun b v => J l a0 1 p b v) a w)
    (k2 : ∀ p a w, J l a0 1 p a w → wpOp P ops Q c2 (fun b v => J l a0 2 p b v) a w)
    (k3 : ∀ p a w, J l a0 2 p a w → wpOp P ops Q c3 (fun b v => J l a0 3 p b v) a w)
    (k4 : ∀ p a w, J l a0 3 p a w → wpOp P ops Q c4 (fun b v => J l a0 4 p b v) a w)
    (n1 : ∀ k p a w, p[0]? = some none → J l a0 k p a w → wpOp P ops Q m1 (fun b v => ∃ q, J l a0 k (p.set 0 (some q)) b v) a w)
    (n2 : ∀ k p a w, p[1]? = some none → J l a0 k p a w → wpOp P ops Q m2 (fun b v => ∃ q, J l a0 k (p.set 1 (some q)) b v) a w)
    (fin : ∀ q1 q2 a w, J l a0 4 [some q1, some q2] a w → wpAnyV P md ops Q S T N (lstOf L0 [c1, c2, c3, c4] [m1, m2] 4 [true, true]) a w) :
    wpAnyV P md ops Q S T (N + 6) L0 a0 w0 :=
  lat_4_2 c1 c2 c3 c4 m1 m2 slots N (J l) hok hsl h0 hS k1 k2 k3 k4 n1 n2 fin

theorem lam_5_0 {a0 : Act} {B v : World} {x : Nat × Array Value} {l : List (Nat × Array Value)} (_ : Hid (Own B (x :: l) v)) {w0 : World} {L0 : Array Bool} (c1 c2 c3 c4 c5 : Nat) (slots : List Nat) (N : Nat) (J : List (Nat × Array Value) → Act → Nat → List (Option Nat) → Act → World → Prop) (hok : latOk md ops L0 [c1, c2, c3, c4, c5] [] = true)
    (hsl : (slots.all fun s => decide (s < a0.tmps.size)) = true) (h0 : ∀ A : Act, (∀ s, s ∈ slots → s < A.tmps.size) → J l A 0 (List.replicate 0 none) A w0)
    (hS : ∀ k p a w, J l a0 k p a w → S w)
    (k1 : ∀ p a w, J l a0 0 p a w → wpOp P ops Q c1 (fun b v => J l a0 1 p b v) a w)
    (k2 : ∀ p a w, J l a0 1 p a w → wpOp P ops Q c2 (fun b v => J l a0 2 p b v) a w)
    (k3 : ∀ p a w, J l a0 2 p a w → wpOp P ops Q c3 (fun b v => J l a0 3 p b v) a w)
    (k4 : ∀ p a w, J l a0 3 p a w → wpOp P ops Q c4 (fun b v => J l a0 4 p b v) a w)
    (k5 : ∀ p a w, J l a0 4 p a w → wpOp P ops Q c5 (fun b v => J l a0 5 p b v) a w)
    (fin : ∀ a w, J l a0 5 [] a w → wpAnyV P md ops Q S T N (lstOf L0 [c1, c2, c3, c4, c5] [] 5 []) a w) :
    wpAnyV P md ops Q S T (N + 5) L0 a0 w0 :=
  lat_5_0 c1 c2 c3 c4 c5 slots N (J l) hok hsl h0 hS k1 k2 k3 k4 k5 fin

theorem lam_5_1 {a0 : Act} {B v : World} {x : Nat × Array Value} {l : List (Nat × Array Value)} (_ : Hid (Own B (x :: l) v)) {w0 : World} {L0 : Array Bool} (c1 c2 c3 c4 c5 m1 : Nat) (slots : List Nat) (N : Nat) (J : List (Nat × Array Value) → Act → Nat → List (Option Nat) → Act → World → Prop) (hok : latOk md ops L0 [c1, c2, c3, c4, c5] [m1] = true)
    (hsl : (slots.all fun s => decide (s < a0.tmps.size)) = true) (h0 : ∀ A : Act, (∀ s, s ∈ slots → s < A.tmps.size) → J l A 0 (List.replicate 1 none) A w0)
    (hS : ∀ k p a w, J l a0 k p a w → S w)
    (k1 : ∀ p a w, J l a0 0 p a w → wpOp P ops Q c1 (fun b v => J l a0 1 p b v) a w)
    (k2 : ∀ p a w, J l a0 1 p a w → wpOp P ops Q c2 (fun b v => J l a0 2 p b v) a w)
    (k3 : ∀ p a w, J l a0 2 p a w → wpOp P ops Q c3 (fun b v => J l a0 3 p b v) a w)
    (k4 : ∀ p a w, J l a0 3 p a w → wpOp P ops Q c4 (fun b v => J l a0 4 p b v) a w)
    (k5 : ∀ p a w, J l a0 4 p a w → wpOp P ops Q c5 (fun b v => J l a0 5 p b v) a w)
    (n1 : ∀ k p a w, p[0]? = some none → J l a0 k p a w → wpOp P ops Q m1 (fun b v => ∃ q, J l a0 k (p.set 0 (some q)) b v) a w)
    (fin : ∀ q1 a w, J l a0 5 [some q1] a w → wpAnyV P md ops Q S T N (lstOf L0 [c1, c2, c3, c4, c5] [m1] 5 [true]) a w) :
    wpAnyV P md ops Q S T (N + 6) L0 a0 w0 :=
  lat_5_1 c1 c2 c3 c4 c5 m1 slots N (J l) hok hsl h0 hS k1 k2 k3 k4 k5 n1 fin

theorem lam_5_2 {a0 : Act} {B v : World} {x : Nat × Array Value} {l : List (Nat × Array Value)} (_ : Hid (Own B (x :: l) v)) {w0 : World} {L0 : Array Bool} (c1 c2 c3 c4 c5 m1 m2 : Nat) (slots : List Nat) (N : Nat) (J : List (Nat × Array Value) → Act → Nat → List (Option Nat) → Act → World → Prop) (hok : latOk md ops L0 [c1, c2, c3, c4, c5] [m1, m2] = true)
    (hsl : (slots.all fun s => decide (s < a0.tmps.size)) = true) (h0 : ∀ A : Act, (∀ s, s ∈ slots → s < A.tmps.size) → J l A 0 (List.replicate 2 none) A w0)
    (hS : ∀ k p a w, J l a0 k p a w → S w)
    (k1 : ∀ p a w, J l a0 0 p a w → wpOp P ops Q c1 (fun b v => J l a0 1 p b v) a w)
    (k2 : ∀ p a w, J l a0 1 p a w → wpOp P ops Q c2 (fun b v => J l a0 2 p b v) a w)
    (k3 : ∀ p a w, J l a0 2 p a w → wpOp P ops Q c3 (fun b v => J l a0 3 p b v) a w)
    (k4 : ∀ p a w, J l a0 3 p a w → wpOp P ops Q c4 (fun b v => J l a0 4 p b v) a w)
    (k5 : ∀ p a w, J l a0 4 p a w → wpOp P ops Q c5 (fun b v => J l a0 5 p b v) a w)
    (n1 : ∀ k p a w, p[0]? = some none → J l a0 k p a w → wpOp P ops Q m1 (fun b v => ∃ q, J l a0 k (p.set 0 (some q)) b v) a w)
    (n2 : ∀ k p a w, p[1]? = some none → J l a0 k p a w → wpOp P ops Q m2 (fun b v => ∃ q, J l a0 k (p.set 1 (some q)) b v) a w)
    (fin : ∀ q1 q2 a w, J l a0 5 [some q1, some q2] a w → wpAnyV P md ops Q S T N (lstOf L0 [c1, c2, c3, c4, c5] [m1, m2] 5 [true, true]) a w) :
    wpAnyV P md ops Q S T (N + 7) L0 a0 w0 :=
  lat_5_2 c1 c2 c3 c4 c5 m1 m2 slots N (J l) hok hsl h0 hS k1 k2 k3 k4 k5 n1 n2 fin

theorem lam_6_0 {a0 : Act} {B v : World} {x : Nat × Array Value} {l : List (Nat × Array Value)} (_ : Hid (Own B (x :: l) v)) {w0 : World} {L0 : Array Bool} (c1 c2 c3 c4 c5 c6 : Nat) (slots : List Nat) (N : Nat) (J : List (Nat × Array Value) → Act → Nat → List (Option Nat) → Act → World → Prop) (hok : latOk md ops L0 [c1, c2, c3, c4, c5, c6] [] = true)
    (hsl : (slots.all fun s => decide (s < a0.tmps.size)) = true) (h0 : ∀ A : Act, (∀ s, s ∈ slots → s < A.tmps.size) → J l A 0 (List.replicate 0 none) A w0)
    (hS : ∀ k p a w, J l a0 k p a w → S w)
    (k1 : ∀ p a w, J l a0 0 p a w → wpOp P ops Q c1 (fun b v => J l a0 1 p b v) a w)
    (k2 : ∀ p a w, J l a0 1 p a w → wpOp P ops Q c2 (fun b v => J l a0 2 p b v) a w)
    (k3 : ∀ p a w, J l a0 2 p a w → wpOp P ops Q c3 (fun b v => J l a0 3 p b v) a w)
    (k4 : ∀ p a w, J l a0 3 p a w → wpOp P ops Q c4 (fun b v => J l a0 4 p b v) a w)
    (k5 : ∀ p a w, J l a0 4 p a w → wpOp P ops Q c5 (fun b v => J l a0 5 p b v) a w)
    (k6 : ∀ p a w, J l a0 5 p a w → wpOp P ops Q c6 (fun b v => J l a0 6 p b v) a w)
    (fin : ∀ a w, J l a0 6 [] a w → wpAnyV P md ops Q S T N (lstOf L0 [c1, c2, c3, c4, c5, c6] [] 6 []) a w) :
    wpAnyV P md ops Q S T (N + 6) L0 a0 w0 :=
  lat_6_0 c1 c2 c3 c4 c5 c6 slots N (J l) hok hsl h0 hS k1 k2 k3 k4 k5 k6 fin

theorem lam_6_1 {a0 : Act} {B v : World} {x : Nat × Array Value} {l : List (Nat × Array Value)} (_ : Hid (Own B (x :: l) v)) {w0 : World} {L0 : Array Bool} (c1 c2 c3 c4 c5 c6 m1 : Nat) (slots : List Nat) (N : Nat) (J : List (Nat × Array Value) → Act → Nat → List (Option Nat) → Act → World → Prop) (hok : latOk md ops L0 [c1, c2, c3, c4, c5, c6] [m1] = true)
    (hsl : (slots.all fun s => decide (s < a0.tmps.size)) = true) (h0 : ∀ A : Act, (∀ s, s ∈ slots → s < A.tmps.size) → J l A 0 (List.replicate 1 none) A w0)
    (hS : ∀ k p a w, J l a0 k p a w → S w)
    (k1 : ∀ p a w, J l a0 0 p a w → wpOp P ops Q c1 (fun b v => J l a0 1 p b v) a w)
    (k2 : ∀ p a w, J l a0 1 p a w → wpOp P ops Q c2 (fun b v => J l a0 2 p b v) a w)
    (k3 : ∀ p a w, J l a0 2 p a w → wpOp P ops Q c3 (fun b v => J l a0 3 p b v) a w)
    (k4 : ∀ p a w, J l a0 3 p a w → wpOp P ops Q c4 (fun b v => J l a0 4 p b v) a w)
    (k5 : ∀ p a w, J l a0 4 p a w → wpOp P ops Q c5 (fun b v => J l a0 5 p b v) a w)
    (k6 : ∀ p a w, J l a0 5 p a w → wpOp P ops Q c6 (fun b v => J l a0 6 p b v) a w)
    (n1 : ∀ k p a w, p[0]? = some none → J l a0 k p a w → wpOp P ops Q m1 (fun b v => ∃ q, J l a0 k (p.set 0 (some q)) b v) a w)
    (fin : ∀ q1 a w, J l a0 6 [some q1] a w → wpAnyV P md ops Q S T N (lstOf L0 [c1, c2, c3, c4, c5, c6] [m1] 6 [true]) a w) :
    wpAnyV P md ops Q S T (N + 7) L0 a0 w0 :=
  lat_6_1 c1 c2 c3 c4 c5 c6 m1 slots N (J l) hok hsl h0 hS k1 k2 k3 k4 k5 k6 n1 fin

theorem lam_7_0 {a0 : Act} {B v : World} {x : Nat × Array Value} {l : List (Nat × Array Value)} (_ : Hid (Own B (x :: l) v)) {w0 : World} {L0 : Array Bool} (c1 c2 c3 c4 c5 c6 c7 : Nat) (slots : List Nat) (N : Nat) (J : List (Nat × Array Value) → Act → Nat → List (Option Nat) → Act → World → Prop) (hok : latOk md ops L0 [c1, c2, c3, c4, c5, c6, c7] [] = true)
    (hsl : (slots.all fun s => decide (s < a0.tmps.size)) = true) (h0 : ∀ A : Act, (∀ s, s ∈ slots → s < A.tmps.size) → J l A 0 (List.replicate 0 none) A w0)
    (hS : ∀ k p a w, J l a0 k p a w → S w)
    (k1 : ∀ p a w, J l a0 0 p a w → wpOp P ops Q c1 (fun b v => J l a0 1 p b v) a w)
    (k2 : ∀ p a w, J l a0 1 p a w → wpOp P ops Q c2 (fun b v => J l a0 2 p b v) a w)
    (k3 : ∀ p a w, J l a0 2 p a w → wpOp P ops Q c3 (fun b v => J l a0 3 p b v) a w)
    (k4 : ∀ p a w, J l a0 3 p a w → wpOp P ops Q c4 (fun b v => J l a0 4 p b v) a w)
    (k5 : ∀ p a w, J l a0 4 p a w → wpOp P ops Q c5 (fun b v => J l a0 5 p b v) a w)
    (k6 : ∀ p a w, J l a0 5 p a w → wpOp P ops Q c6 (fun b v => J l a0 6 p b v) a w)
    (k7 : ∀ p a w, J l a0 6 p a w → wpOp P ops Q c7 (fun b v => J l a0 7 p b v) a w)
    (fin : ∀ a w, J l a0 7 [] a w → wpAnyV P md ops Q S T N (lstOf L0 [c1, c2, c3, c4, c5, c6, c7] [] 7 []) a w) :
    wpAnyV P md ops Q S T (N + 7) L0 a0 w0 :=
  lat_7_0 c1 c2 c3 c4 c5 c6 c7 slots N (J l) hok hsl h0 hS k1 k2 k3 k4 k5 k6 k7 fin

theorem lam_7_1 {a0 : Act} {B v : World} {x : Nat × Array Value} {l : List (Nat × Array Value)} (_ : Hid (Own B (x :: l) v)) {w0 : World} {L0 : Array Bool} (c1 c2 c3 c4 c5 c6 c7 m1 : Nat) (slots : List Nat) (N : Nat) (J : List (Nat × Array Value) → Act → Nat → List (Option Nat) → Act → World → Prop) (hok : latOk md ops L0 [c1, c2, c3, c4, c5, c6, c7] [m1] = true)
    (hsl : (slots.all fun s => decide (s < a0.tmps.size)) = true) (h0 : ∀ A : Act, (∀ s, s ∈ slots → s < A.tmps.size) → J l A 0 (List.replicate 1 none) A w0)
    (hS : ∀ k p a w, J l a0 k p a w → S w)
    (k1 : ∀ p a w, J l a0 0 p a w → wpOp P ops Q c1 (fun b v => J l a0 1 p b v) a w)
    (k2 : ∀ p a w, J l a0 1 p a w → wpOp P ops Q c2 (fun b v => J l a0 2 p b v) a w)
    (k3 : ∀ p a w, J l a0 2 p a w → wpOp P ops Q c3 (fun b v => J l a0 3 p b v) a w)
    (k4 : ∀ p a w, J l a0 3 p a w → wpOp P ops Q c4 (fun b v => J l a0 4 p b v) a w)
    (k5 : ∀ p a w, J l a0 4 p a w → wpOp P ops Q c5 (fun b v => J l a0 5 p b v) a w)
    (k6 : ∀ p a w, J l a0 5 p a w → wpOp P ops Q c6 (fun b v => J l a0 6 p b v) a w)
    (k7 : ∀ p a w, J l a0 6 p a w → wpOp P ops Q c7 (fun b v => J l a0 7 p b v) a w)
    (n1 : ∀ k p a w, p[0]? = some none → J l a0 k p a w → wpOp P ops Q m1 (fun b v => ∃ q, J l a0 k (p.set 0 (some q)) b v) a w)
    (fin : ∀ q1 a w, J l a0 7 [some q1] a w → wpAnyV P md ops Q S T N (lstOf L0 [c1, c2, c3, c4, c5, c6, c7] [m1] 7 [true]) a w) :
    wpAnyV P md ops Q S T (N + 8) L0 a0 w0 :=
  lat_7_1 c1 c2 c3 c4 c5 c6 c7 m1 slots N (J l) hok hsl h0 hS k1 k2 k3 k4 k5 k6 k7 n1 fin

theorem lam_8_0 {a0 : Act} {B v : World} {x : Nat × Array Value} {l : List (Nat × Array Value)} (_ : Hid (Own B (x :: l) v)) {w0 : World} {L0 : Array Bool} (c1 c2 c3 c4 c5 c6 c7 c8 : Nat) (slots : List Nat) (N : Nat) (J : List (Nat × Array Value) → Act → Nat → List (Option Nat) → Act → World → Prop) (hok : latOk md ops L0 [c1, c2, c3, c4, c5, c6, c7, c8] [] = true)
    (hsl : (slots.all fun s => decide (s < a0.tmps.size)) = true) (h0 : ∀ A : Act, (∀ s, s ∈ slots → s < A.tmps.size) → J l A 0 (List.replicate 0 none) A w0)
    (hS : ∀ k p a w, J l a0 k p a w → S w)
    (k1 : ∀ p a w, J l a0 0 p a w → wpOp P ops Q c1 (fun b v => J l a0 1 p b v) a w)
    (k2 : ∀ p a w, J l a0 1 p a w → wpOp P ops Q c2 (fun b v => J l a0 2 p b v) a w)
    (k3 : ∀ p a w, J l a0 2 p a w → wpOp P ops Q c3 (fun b v => J l a0 3 p b v) a w)
    (k4 : ∀ p a w, J l a0 3 p a w → wpOp P ops Q c4 (fun b v => J l a0 4 p b v) a w)
    (k5 : ∀ p a w, J l a0 4 p a w → wpOp P ops Q c5 (fun b v => J l a0 5 p b v) a w)
    (k6 : ∀ p a w, J l a0 5 p a w → wpOp P ops Q c6 (fun b v => J l a0 6 p b v) a w)
    (k7 : ∀ p a w, J l a0 6 p a w → wpOp P ops Q c7 (fun b v => J l a0 7 p b v) a w)
    (k8 : ∀ p a w, J l a0 7 p a w → wpOp P ops Q c8 (fun b v => J l a0 8 p b v) a w)
    (fin : ∀ a w, J l a0 8 [] a w → wpAnyV P md ops Q S T N (lstOf L0 [c1, c2, c3, c4, c5, c6, c7, c8] [] 8 []) a w) :
    wpAnyV P md ops Q S T (N + 8) L0 a0 w0 :=
  lat_8_0 c1 c2 c3 c4 c5 c6 c7 c8 slots N (J l) hok hsl h0 hS k1 k2 k3 k4 k5 k6 k7 k8 fin

theorem lam_8_1 {a0 : Act} {B v : World} {x : Nat × Array Value} {l : List (Nat × Array Value)} (_ : Hid (Own B (x :: l) v)) {w0 : World} {L0 : Array Bool} (c1 c2 c3 c4 c5 c6 c7 c8 m1 : Nat) (slots : List Nat) (N : Nat) (J : List (Nat × Array Value) → Act → Nat → List (Option Nat) → Act → World → Prop) (hok : latOk md ops L0 [c1, c2, c3, c4, c5, c6, c7, c8] [m1] = true)
    (hsl : (slots.all fun s => decide (s < a0.tmps.size)) = true) (h0 : ∀ A : Act, (∀ s, s ∈ slots → s < A.tmps.size) → J l A 0 (List.replicate 1 none) A w0)
    (hS : ∀ k p a w, J l a0 k p a w → S w)
    (k1 : ∀ p a w, J l a0 0 p a w → wpOp P ops Q c1 (fun b v => J l a0 1 p b v) a w)
    (k2 : ∀ p a w, J l a0 1 p a w → wpOp P ops Q c2 (fun b v => J l a0 2 p b v) a w)
    (k3 : ∀ p a w, J l a0 2 p a w → wpOp P ops Q c3 (fun b v => J l a0 3 p b v) a w)
    (k4 : ∀ p a w, J l a0 3 p a w → wpOp P ops Q c4 (fun b v => J l a0 4 p b v) a w)
    (k5 : ∀ p a w, J l a0 4 p a w → wpOp P ops Q c5 (fun b v => J l a0 5 p b v) a w)
    (k6 : ∀ p a w, J l a0 5 p a w → wpOp P ops Q c6 (fun b v => J l a0 6 p b v) a w)
    (k7 : ∀ p a w, J l a0 6 p a w → wpOp P ops Q c7 (fun b v => J l a0 7 p b v) a w)
    (k8 : ∀ p a w, J l a0 7 p a w → wpOp P ops Q c8 (fun b v => J l a0 8 p b v) a w)
    (n1 : ∀ k p a w, p[0]? = some none → J l a0 k p a w → wpOp P ops Q m1 (fun b v => ∃ q, J l a0 k (p.set 0 (some q)) b v) a w)
    (fin : ∀ q1 a w, J l a0 8 [some q1] a w → wpAnyV P md ops Q S T N (lstOf L0 [c1, c2, c3, c4, c5, c6, c7, c8] [m1] 8 [true]) a w) :
    wpAnyV P md ops Q S T (N + 9) L0 a0 w0 :=
  lat_8_1 c1 c2 c3 c4 c5 c6 c7 c8 m1 slots N (J l) hok hsl h0 hS k1 k2 k3 k4 k5 k6 k7 k8 n1 fin

end
end Go.Proofs.Ytlibfeegdjbhcaa

namespace Go.Proofs.Ytlibfeegdjbhcaa
open Go.RowKit

abbrev RowL := List (Nat × Array Value)
section
variable {B v : World} {l : RowL} {x y z : Nat × Array Value}
theorem Own.front (h : Own B (x :: y :: l) v) : Own B (y :: x :: l) v := by
  have h1 := List.pairwise_cons.1 h.apart
  have h2 := List.pairwise_cons.1 h1.2
  refine ⟨h.base, fun r hr => h.blocks r ?_, ?_⟩
  · simp only [List.mem_cons] at hr ⊢
    rcases hr with e | e | e <;> simp [e]
  · refine List.pairwise_cons.2 ⟨fun r hr => ?_, List.pairwise_cons.2 ⟨fun r hr => h1.1 r (List.mem_cons_of_mem _ hr), h2.2⟩⟩
    rcases List.mem_cons.1 hr with e | e
    · rw [e]; exact Ne.symm (h1.1 y (List.mem_cons_self ..))
    · exact h2.1 r e
theorem Own.under (h : Own B (x :: y :: z :: l) v) : Own B (x :: z :: y :: l) v := by
  have h1 := List.pairwise_cons.1 h.apart
  have k : Own B (y :: z :: l) v := ⟨h.base, fun r hr => h.blocks r (List.mem_cons_of_mem _ hr), h1.2⟩
  have k' := k.front
  refine ⟨h.base, fun r hr => ?_, List.pairwise_cons.2 ⟨fun r hr => h1.1 r ?_, k'.apart⟩⟩
  · rcases List.mem_cons.1 hr with e | e
    · rw [e]; exact h.blocks x (List.mem_cons_self ..)
    · exact k'.blocks r e
  · simp only [List.mem_cons] at hr ⊢
    rcases hr with e | e | e <;> simp [e]
theorem Own.tail (h : Own B (x :: l) v) : Own B l v := ⟨h.base, fun r hr => h.blocks r (List.mem_cons_of_mem _ hr), (List.pairwise_cons.1 h.apart).2⟩
theorem Own.front2 (h : Own B (x :: y :: z :: l) v) : Own B (z :: x :: y :: l) v := h.under.front
end
section
variable {B v v' : World} {l : RowL} {q : Nat} {x y x' y' : Value} {z : Nat × Array Value}
theorem Own.putHead (h : Own B ((q, #[x]) :: l) v) (hb : Put ⟨q, 0, none⟩ y v v') : Own B ((q, #[y]) :: l) v' := h.putAt 0 rfl hb
theorem Own.setHead (h : Own B ((q, #[x, y]) :: l) v) (x' y' : Value) : Own B ((q, #[x', y']) :: l) ((v.setCell ⟨q, 0, none⟩ x').setCell ⟨q, 1, none⟩ y') := h.set2 0 rfl x' y'
theorem Own.setNext (h : Own B (z :: (q, #[x, y]) :: l) v) (x' y' : Value) : Own B (z :: (q, #[x', y']) :: l) ((v.setCell ⟨q, 0, none⟩ x').setCell ⟨q, 1, none⟩ y') := h.set2 1 rfl x' y'
theorem OwnF.putHead {zc : List (Array Value)} {p : List (Option Nat)} (h : OwnF B ((q, #[x]) :: l) zc p v) (hb : Put ⟨q, 0, none⟩ y v v') : OwnF B ((q, #[y]) :: l) zc p v' := h.putAt 0 rfl hb
end
/-- tails_take, of loads and moves that are wanted, where no last operation writes what others load. -/
theorem tk {P : Program} {ops : Array Oper} {Q : Exit → Act → World → Prop} {md : Region.Mode} {S : World → Prop} {o : Oper} {x : Value} {n : Nat} {listed : Array Bool} {a : Act} {w : World} (i : Nat) (hi : ops[i]? = some o)
    (hb : (Region.noSelect ops && Region.free md ops listed i && (Region.ready md ops listed).contains i && closedB md ops listed) = true)
    (hy : Region.wanted o (yielded ops a.tmps) = true ∧ ∀ w, S w → (execOp a.eval o).run P w = .ok (.value x) w) (hQ : ∀ c a w, Q (.panic c) (a.put o.dst x) w → Q (.panic c) a w) (hS : S w)
    (h : wpAnyV P md ops Q S [] n (listed.setIfInBounds i true) (a.put o.dst x) w) : wpAnyV P md ops Q S [] (n + 1) listed a w := by
  simp only [Bool.and_eq_true] at hb
  exact tails_take hi hb.1.1.1 hb.1.1.2 hb.1.2 (by rw [hb.2]; rfl) hQ (Or.inl hy) hS h

/-- What calls upon a calculator with the error e answer, and leave. -/
abbrev KN (f : FuncId) (e e' : Int) (x rl rh : Nat) : Prop := ∀ (pb : Nat) (v : World), Has1 v (pb, #[.int .i64 e]) → Calls Try.prog f #[.pointer (some ⟨pb, 0, none⟩), .float .f64 x] v fun r w' => r = .returned (.agg #[.float .f64 rl, .float .f64 rh]) ∧ Put ⟨pb, 0, none⟩ (.int .i64 e') v w'
abbrev K1 (f : FuncId) (e e' : Int) (al ah rl rh : Nat) : Prop := ∀ (pb : Nat) (v : World), Has1 v (pb, #[.int .i64 e]) → Calls Try.prog f #[.pointer (some ⟨pb, 0, none⟩), .agg #[.float .f64 al, .float .f64 ah]] v fun r w' => r = .returned (.agg #[.float .f64 rl, .float .f64 rh]) ∧ Put ⟨pb, 0, none⟩ (.int .i64 e') v w'
abbrev K2 (f : FuncId) (e e' : Int) (al ah bl bh rl rh : Nat) : Prop := ∀ (pb : Nat) (v : World), Has1 v (pb, #[.int .i64 e]) → Calls Try.prog f #[.pointer (some ⟨pb, 0, none⟩), .agg #[.float .f64 al, .float .f64 ah], .agg #[.float .f64 bl, .float .f64 bh]] v fun r w' => r = .returned (.agg #[.float .f64 rl, .float .f64 rh]) ∧ Put ⟨pb, 0, none⟩ (.int .i64 e') v w'
/-- What calls of an interval answer. -/
abbrev KI (f : FuncId) (al ah rl rh : Nat) : Prop := ∀ v : World, Calls Try.prog f #[.agg #[.float .f64 al, .float .f64 ah]] v fun r w' => r = .returned (.agg #[.float .f64 rl, .float .f64 rh]) ∧ Below v.heap.size v w'
abbrev KD (f : FuncId) (al ah x y rl rh : Nat) : Prop := ∀ v : World, Calls Try.prog f #[.agg #[.float .f64 al, .float .f64 ah], .float .f64 x, .float .f64 y] v fun r w' => r = .returned (.agg #[.float .f64 rl, .float .f64 rh]) ∧ Below v.heap.size v w'

end Go.Proofs.Ytlibfeegdjbhcaa

namespace Go.Proofs.Ytlibfeegdjbhcaa
open Go.RowKit

/-- One step of a calculator with the error e, upon two intervals, or upon one. -/
def sqrtR (a : Res) : Res := sqrtI a.lo a.hi
def stA (e : Int) (a b : Res) : Res := stepI e (ivR a.lo a.hi && ivR b.lo b.hi) (addR a b)
def stS (e : Int) (a b : Res) : Res := stepI e (ivR a.lo a.hi && ivR b.lo b.hi) (subR a b)
def stM (e : Int) (a b : Res) : Res := stepI e (ivR a.lo a.hi && ivR b.lo b.hi) (mulR a b)
def stN (e : Int) (a : Res) : Res := stepI e (ivR a.lo a.hi) (negR a)
def stQ (e : Int) (a : Res) : Res := stepI e (ivR a.lo a.hi) (sqrR a)
def stR (e : Int) (a : Res) : Res := stepI e (ivR a.lo a.hi) (sqrtR a)

structure V3 where
  x : Res
  y : Res
  z : Res
def bothV (f : Int → Res → Res → Res) (e : Int) (a b : V3) : V3 := ⟨f e a.x b.x, f (f e a.x b.x).e a.y b.y, f (f (f e a.x b.x).e a.y b.y).e a.z b.z⟩
def eachV (f : Int → Res → Res) (e : Int) (a : V3) : V3 := ⟨f e a.x, f (f e a.x).e a.y, f (f (f e a.x).e a.y).e a.z⟩
def addV := bothV stA
def subV := bothV stS
def negV := eachV stN
def scaleV (e : Int) (k : Res) (a : V3) : V3 := eachV (fun e x => stM e k x) e a
def dot1 (e : Int) (a b : V3) : Res := stM e a.x b.x
def dot2 (e : Int) (a b : V3) : Res := stM (dot1 e a b).e a.y b.y
def dot3 (e : Int) (a b : V3) : Res := stA (dot2 e a b).e (dot1 e a b) (dot2 e a b)
def dot4 (e : Int) (a b : V3) : Res := stM (dot3 e a b).e a.z b.z
def dotV (e : Int) (a b : V3) : Res := stA (dot4 e a b).e (dot3 e a b) (dot4 e a b)
def acr1 (e : Int) (p q : Res) : Res := stM e p q
def acr2 (e : Int) (p q r s : Res) : Res := stM (acr1 e p q).e r s
def across (e : Int) (p q r s : Res) : Res := stS (acr2 e p q r s).e (acr1 e p q) (acr2 e p q r s)
def crsX (e : Int) (a b : V3) : Res := across e a.y b.z a.z b.y
def crsY (e : Int) (a b : V3) : Res := across (crsX e a b).e a.z b.x a.x b.z
def crsZ (e : Int) (a b : V3) : Res := across (crsY e a b).e a.x b.y a.y b.x
def crossV (e : Int) (a b : V3) : V3 := ⟨crsX e a b, crsY e a b, crsZ e a b⟩
def nrm1 (e : Int) (a : V3) : Res := stQ e a.x
def nrm2 (e : Int) (a : V3) : Res := stQ (nrm1 e a).e a.y
def nrm3 (e : Int) (a : V3) : Res := stA (nrm2 e a).e (nrm1 e a) (nrm2 e a)
def nrm4 (e : Int) (a : V3) : Res := stQ (nrm3 e a).e a.z
def nrm5 (e : Int) (a : V3) : Res := stA (nrm4 e a).e (nrm3 e a) (nrm4 e a)
def normV (e : Int) (a : V3) : Res := stR (nrm5 e a).e (nrm5 e a)

theorem st_none {e : Int} {ok : Bool} {r : Res} (h : (stepI e ok r).e = 0) : e = 0 ∧ ok = true ∧ stepI e ok r = r := by
  unfold stepI at h ⊢
  by_cases he : e = 0
  · rw [if_pos he] at h ⊢
    cases ok
    · rw [if_neg Bool.false_ne_true] at h; exact absurd h (by decide)
    · exact ⟨he, rfl, if_pos rfl⟩
  · rw [if_neg he] at h; exact absurd h he

/-- A step without an error: of parts it has none either, and answers a part. -/
theorem st2_in {j : Nat} (hj : j < 10) {e e' : Int} {a A b B : Res} (h : (stepI e (ivR A.lo A.hi && ivR B.lo B.hi) (askI A.lo A.hi B.lo B.hi j)).e = 0) (he : e' = 0) (ia : In a A) (fA : Fit A) (ib : In b B) (fB : Fit B) :
    Fit (stepI e (ivR A.lo A.hi && ivR B.lo B.hi) (askI A.lo A.hi B.lo B.hi j)) ∧ In (stepI e' (ivR a.lo a.hi && ivR b.lo b.hi) (askI a.lo a.hi b.lo b.hi j)) (stepI e (ivR A.lo A.hi && ivR B.lo B.hi) (askI A.lo A.hi B.lo B.hi j)) := by
  obtain ⟨_, _, h3⟩ := st_none h
  rw [h3] at h ⊢
  rw [he, ia.fit.iv, ib.fit.iv, show (true && true) = true from rfl, stepI_ok]
  exact ⟨ask_fit A B j hj fA fB h, ask_in a A b B j hj ia fA ib fB h⟩
theorem st1_in {j : Nat} (hj : j < 10) {e e' : Int} {a A : Res} (h : (stepI e (ivR A.lo A.hi) (askI A.lo A.hi A.lo A.hi j)).e = 0) (he : e' = 0) (ia : In a A) (fA : Fit A) :
    Fit (stepI e (ivR A.lo A.hi) (askI A.lo A.hi A.lo A.hi j)) ∧ In (stepI e' (ivR a.lo a.hi) (askI a.lo a.hi a.lo a.hi j)) (stepI e (ivR A.lo A.hi) (askI A.lo A.hi A.lo A.hi j)) := by
  obtain ⟨_, _, h3⟩ := st_none h
  rw [h3] at h ⊢
  rw [he, ia.fit.iv, stepI_ok]
  exact ⟨ask_fit A A j hj fA fA h, ask_in a A a A j hj ia fA ia fA h⟩
theorem stA_in {e e' : Int} {a A b B : Res} (h : (stA e A B).e = 0) (he : e' = 0) (ia : In a A) (fA : Fit A) (ib : In b B) (fB : Fit B) : Fit (stA e A B) ∧ In (stA e' a b) (stA e A B) := st2_in (j := 0) (by decide) h he ia fA ib fB
theorem stS_in {e e' : Int} {a A b B : Res} (h : (stS e A B).e = 0) (he : e' = 0) (ia : In a A) (fA : Fit A) (ib : In b B) (fB : Fit B) : Fit (stS e A B) ∧ In (stS e' a b) (stS e A B) := st2_in (j := 1) (by decide) h he ia fA ib fB
theorem stM_in {e e' : Int} {a A b B : Res} (h : (stM e A B).e = 0) (he : e' = 0) (ia : In a A) (fA : Fit A) (ib : In b B) (fB : Fit B) : Fit (stM e A B) ∧ In (stM e' a b) (stM e A B) := st2_in (j := 2) (by decide) h he ia fA ib fB
theorem stQ_in {e e' : Int} {a A : Res} (h : (stQ e A).e = 0) (he : e' = 0) (ia : In a A) (fA : Fit A) : Fit (stQ e A) ∧ In (stQ e' a) (stQ e A) := st1_in (j := 6) (by decide) h he ia fA
theorem stR_in {e e' : Int} {a A : Res} (h : (stR e A).e = 0) (he : e' = 0) (ia : In a A) (fA : Fit A) : Fit (stR e A) ∧ In (stR e' a) (stR e A) := st1_in (j := 7) (by decide) h he ia fA
theorem stN_in {e e' : Int} {a A : Res} (h : (stN e A).e = 0) (he : e' = 0) (ia : In a A) (fA : Fit A) : Fit (stN e A) ∧ In (stN e' a) (stN e A) := st1_in (j := 8) (by decide) h he ia fA
theorem stA_e {e : Int} {a b : Res} (h : (stA e a b).e = 0) : e = 0 := (st_none h).1
theorem stS_e {e : Int} {a b : Res} (h : (stS e a b).e = 0) : e = 0 := (st_none h).1
theorem stM_e {e : Int} {a b : Res} (h : (stM e a b).e = 0) : e = 0 := (st_none h).1
theorem stN_e {e : Int} {a : Res} (h : (stN e a).e = 0) : e = 0 := (st_none h).1
theorem stQ_e {e : Int} {a : Res} (h : (stQ e a).e = 0) : e = 0 := (st_none h).1
theorem stR_e {e : Int} {a : Res} (h : (stR e a).e = 0) : e = 0 := (st_none h).1

structure FitV (a : V3) : Prop where
  x : Fit a.x
  y : Fit a.y
  z : Fit a.z
structure InV (a b : V3) : Prop where
  x : In a.x b.x
  y : In a.y b.y
  z : In a.z b.z
theorem InV.refl {a : V3} (h : FitV a) : InV a a := ⟨.refl h.x, .refl h.y, .refl h.z⟩
theorem InV.fit {a b : V3} (h : InV a b) : FitV a := ⟨h.x.fit, h.y.fit, h.z.fit⟩

theorem both_in {f : Int → Res → Res → Res} (f_in : ∀ {e e' : Int} {a A b B : Res}, (f e A B).e = 0 → e' = 0 → In a A → Fit A → In b B → Fit B → Fit (f e A B) ∧ In (f e' a b) (f e A B)) (f_e : ∀ {e : Int} {a b : Res}, (f e a b).e = 0 → e = 0)
    {e e' : Int} {a A b B : V3} (h : (bothV f e A B).z.e = 0) (he : e' = 0) (ia : InV a A) (fA : FitV A) (ib : InV b B) (fB : FitV B) : FitV (bothV f e A B) ∧ InV (bothV f e' a b) (bothV f e A B) := by
  have h2 := f_e h
  have h1 := f_e h2
  obtain ⟨f1, i1⟩ := f_in h1 he ia.x fA.x ib.x fB.x
  obtain ⟨f2, i2⟩ := f_in h2 i1.fit.e ia.y fA.y ib.y fB.y
  obtain ⟨f3, i3⟩ := f_in h i2.fit.e ia.z fA.z ib.z fB.z
  exact ⟨⟨f1, f2, f3⟩, ⟨i1, i2, i3⟩⟩
theorem each_in {f g : Int → Res → Res} (f_in : ∀ {e e' : Int} {a A : Res}, (f e A).e = 0 → e' = 0 → In a A → Fit A → Fit (f e A) ∧ In (g e' a) (f e A)) (f_e : ∀ {e : Int} {a : Res}, (f e a).e = 0 → e = 0)
    {e e' : Int} {a A : V3} (h : (eachV f e A).z.e = 0) (he : e' = 0) (ia : InV a A) (fA : FitV A) : FitV (eachV f e A) ∧ InV (eachV g e' a) (eachV f e A) := by
  have h2 := f_e h
  have h1 := f_e h2
  obtain ⟨f1, i1⟩ := f_in h1 he ia.x fA.x
  obtain ⟨f2, i2⟩ := f_in h2 i1.fit.e ia.y fA.y
  obtain ⟨f3, i3⟩ := f_in h i2.fit.e ia.z fA.z
  exact ⟨⟨f1, f2, f3⟩, ⟨i1, i2, i3⟩⟩

section
variable {e e' : Int} {a A b B : V3} {k K : Res}
theorem addV_in (h : (addV e A B).z.e = 0) (he : e' = 0) (ia : InV a A) (fA : FitV A) (ib : InV b B) (fB : FitV B) : FitV (addV e A B) ∧ InV (addV e' a b) (addV e A B) := both_in stA_in stA_e h he ia fA ib fB
theorem subV_in (h : (subV e A B).z.e = 0) (he : e' = 0) (ia : InV a A) (fA : FitV A) (ib : InV b B) (fB : FitV B) : FitV (subV e A B) ∧ InV (subV e' a b) (subV e A B) := both_in stS_in stS_e h he ia fA ib fB
theorem negV_in (h : (negV e A).z.e = 0) (he : e' = 0) (ia : InV a A) (fA : FitV A) : FitV (negV e A) ∧ InV (negV e' a) (negV e A) := each_in stN_in stN_e h he ia fA
theorem scaleV_in (h : (scaleV e K A).z.e = 0) (he : e' = 0) (ik : In k K) (fK : Fit K) (ia : InV a A) (fA : FitV A) : FitV (scaleV e K A) ∧ InV (scaleV e' k a) (scaleV e K A) :=
  each_in (f := fun e x => stM e K x) (g := fun e x => stM e k x) (fun h he ia fA => stM_in h he ik fK ia fA) (fun h => stM_e h) h he ia fA
theorem dotV_in (h : (dotV e A B).e = 0) (he : e' = 0) (ia : InV a A) (fA : FitV A) (ib : InV b B) (fB : FitV B) : Fit (dotV e A B) ∧ In (dotV e' a b) (dotV e A B) := by
  have h4 := stA_e h
  have h3 := stM_e h4
  have h2 := stA_e h3
  have h1 := stM_e h2
  obtain ⟨f1, i1⟩ := stM_in h1 he ia.x fA.x ib.x fB.x
  obtain ⟨f2, i2⟩ := stM_in h2 i1.fit.e ia.y fA.y ib.y fB.y
  obtain ⟨f3, i3⟩ := stA_in h3 i2.fit.e i1 f1 i2 f2
  obtain ⟨f4, i4⟩ := stM_in h4 i3.fit.e ia.z fA.z ib.z fB.z
  exact stA_in h i4.fit.e i3 f3 i4 f4
theorem across_in {p q r s P Q R S : Res} (h : (across e P Q R S).e = 0) (he : e' = 0) (ip : In p P) (fP : Fit P) (iq : In q Q) (fQ : Fit Q) (ir : In r R) (fR : Fit R) (is : In s S) (fS : Fit S) : Fit (across e P Q R S) ∧ In (across e' p q r s) (across e P Q R S) := by
  have h2 := stS_e h
  have h1 := stM_e h2
  obtain ⟨f1, i1⟩ := stM_in h1 he ip fP iq fQ
  obtain ⟨f2, i2⟩ := stM_in h2 i1.fit.e ir fR is fS
  exact stS_in h i2.fit.e i1 f1 i2 f2
theorem across_e {p q r s : Res} (h : (across e p q r s).e = 0) : e = 0 := stM_e (stM_e (stS_e h))
theorem crossV_in (h : (crossV e A B).z.e = 0) (he : e' = 0) (ia : InV a A) (fA : FitV A) (ib : InV b B) (fB : FitV B) : FitV (crossV e A B) ∧ InV (crossV e' a b) (crossV e A B) := by
  have h2 : (crsY e A B).e = 0 := across_e h
  have h1 : (crsX e A B).e = 0 := across_e h2
  obtain ⟨f1, i1⟩ := across_in h1 he ia.y fA.y ib.z fB.z ia.z fA.z ib.y fB.y
  obtain ⟨f2, i2⟩ := across_in h2 i1.fit.e ia.z fA.z ib.x fB.x ia.x fA.x ib.z fB.z
  obtain ⟨f3, i3⟩ := across_in h i2.fit.e ia.x fA.x ib.y fB.y ia.y fA.y ib.x fB.x
  exact ⟨⟨f1, f2, f3⟩, ⟨i1, i2, i3⟩⟩
theorem normV_in (h : (normV e A).e = 0) (he : e' = 0) (ia : InV a A) (fA : FitV A) : Fit (normV e A) ∧ In (normV e' a) (normV e A) := by
  have h5 := stR_e h
  have h4 := stA_e h5
  have h3 := stQ_e h4
  have h2 := stA_e h3
  have h1 := stQ_e h2
  obtain ⟨f1, i1⟩ := stQ_in h1 he ia.x fA.x
  obtain ⟨f2, i2⟩ := stQ_in h2 i1.fit.e ia.y fA.y
  obtain ⟨f3, i3⟩ := stA_in h3 i2.fit.e i1 f1 i2 f2
  obtain ⟨f4, i4⟩ := stQ_in h4 i3.fit.e ia.z fA.z
  obtain ⟨f5, i5⟩ := stA_in h5 i4.fit.e i3 f3 i4 f4
  exact stR_in h i5.fit.e i5 f5
end

/-- A vector and another one, less that one, has it again. -/
theorem again_in {e : Int} {a b : Res} {f : Int} (fa : Fit a) (fb : Fit b) (h1 : (stA e a b).e = 0) (h2 : (stS f (stA e a b) b).e = 0) : val (stS f (stA e a b) b).lo ≤ val a.lo ∧ val a.hi ≤ val (stS f (stA e a b) b).hi := by
  have fs := (stA_in h1 rfl (.refl fa) fa (.refl fb) fb).1
  obtain ⟨_, _, g1⟩ := st_none h1
  obtain ⟨_, _, g2⟩ := st_none h2
  have e1 : stA e a b = addR a b := g1
  have e2 : stS f (stA e a b) b = subR (stA e a b) b := g2
  have k1 : (addR a b).e = 0 := by rw [← e1]; exact h1
  have k2 : (subR (stA e a b) b).e = 0 := by rw [← e2]; exact h2
  rw [e2]
  obtain ⟨p1, p2, p3⟩ := tight_e k1
  obtain ⟨q1, q2, q3⟩ := tight_e k2
  have d1 := add_down a.lo b.lo fa.rlo fb.rlo
  have u1 := add_up a.hi b.hi fa.rhi fb.rhi
  rw [p1] at d1
  rw [p2] at u1
  have d2 := sub_down (stA e a b).lo b.hi fs.rlo fb.rhi
  have u2 := sub_up (stA e a b).hi b.lo fs.rhi fb.rlo
  rw [q1] at d2
  rw [q2] at u2
  have m1 : (stA e a b).lo = addW a.lo b.lo false := by rw [e1]; exact congrArg Res.lo p3
  have m2 : (stA e a b).hi = addW a.hi b.hi true := by rw [e1]; exact congrArg Res.hi p3
  have m3 : (subR (stA e a b) b).lo = subW (stA e a b).lo b.hi false := congrArg Res.lo q3
  have m4 : (subR (stA e a b) b).hi = subW (stA e a b).hi b.lo true := congrArg Res.hi q3
  obtain ⟨_, _, x1, _⟩ := d1.ok
  obtain ⟨_, _, x2, _⟩ := u1.ok
  obtain ⟨_, _, x3, _⟩ := d2.ok
  obtain ⟨_, _, x4, _⟩ := u2.ok
  rw [← m1] at x1
  rw [← m2] at x2
  rw [m3, m4]
  have l1 := fb.le
  have l2 := fa.le
  omega

end Go.Proofs.Ytlibfeegdjbhcaa

namespace Go.Proofs.Ytlibfeegdjbhcaa
open Go.RowKit
attribute [local go_sem] run_store_float

/-- What calls upon one calculator leave: its block holds the error e; the blocks of the row stand, apart from it. -/
structure EnvE (B : World) (pb : Nat) (e : Int) (l : List (Nat × Array Value)) (v : World) : Prop where
  put : Put ⟨pb, 0, none⟩ (.int .i64 e) B v
  cal : Has1 v (pb, #[.int .i64 e])
  blocks : ∀ p, p ∈ l → Has1 v p ∧ pb ≠ p.1

theorem Has1.six {v : World} {b : Nat} {x0 x1 x2 x3 x4 x5 : Value} (h : Has1 v (b, #[x0, x1, x2, x3, x4, x5])) : v.cell? ⟨b, 0, none⟩ = some x0 ∧ v.cell? ⟨b, 1, none⟩ = some x1 ∧ v.cell? ⟨b, 2, none⟩ = some x2 ∧ v.cell? ⟨b, 3, none⟩ = some x3 ∧ v.cell? ⟨b, 4, none⟩ = some x4 ∧ v.cell? ⟨b, 5, none⟩ = some x5 := ⟨h.2.1 0, h.2.1 1, h.2.1 2, h.2.1 3, h.2.1 4, h.2.1 5⟩
theorem Has1.six6 {v : World} {q : Nat} {z0 z1 z2 z3 z4 z5 : Value} (h : Has1 v (q, #[z0, z1, z2, z3, z4, z5])) (y0 y1 y2 y3 y4 y5 : Value) :
    Has1 ((((((v.setCell ⟨q, 0, none⟩ y0).setCell ⟨q, 1, none⟩ y1).setCell ⟨q, 2, none⟩ y2).setCell ⟨q, 3, none⟩ y3).setCell ⟨q, 4, none⟩ y4).setCell ⟨q, 5, none⟩ y5) (q, #[y0, y1, y2, y3, y4, y5]) :=
  (((((h.setIn 0 y0).setIn 1 y1).setIn 2 y2).setIn 3 y3).setIn 4 y4).setIn 5 y5

section
variable {B v v' : World} {pb : Nat} {e e' : Int} {l : List (Nat × Array Value)}
theorem put_self {w : World} {p : Addr} {x : Value} (h : w.cell? p = some x) : Put p x w w := Put.of_below h (Below.refl _ _)
theorem EnvE.start (h : Has1 B (pb, #[.int .i64 e])) : EnvE B pb e [] B := ⟨Put.of_below h.pc (Below.refl _ _), h, fun p hp => by cases hp⟩
theorem EnvE.add (h : EnvE B pb e l v) {p : Nat × Array Value} (hp : Has1 v p) (hn : pb ≠ p.1) : EnvE B pb e (p :: l) v :=
  ⟨h.put, h.cal, fun q hq => by
    rcases List.mem_cons.1 hq with g | g
    · rw [g]; exact ⟨hp, hn⟩
    · exact h.blocks q g⟩
theorem EnvE.below (h : EnvE B pb e l v) (hb : Below v.heap.size v v') : EnvE B pb e l v' := ⟨h.put.below hb, h.cal.below hb, fun p hp => ⟨(h.blocks p hp).1.below hb, (h.blocks p hp).2⟩⟩
theorem EnvE.putc (h : EnvE B pb e l v) (hp : Put ⟨pb, 0, none⟩ (.int .i64 e') v v') : EnvE B pb e' l v' := ⟨h.put.trans hp, h.cal.own hp, fun p hq => ⟨(h.blocks p hq).1.put (h.blocks p hq).2 hp, (h.blocks p hq).2⟩⟩
theorem EnvE.drew (h : EnvE B pb e l v) : EnvE B pb e l v.drew := ⟨h.put.below (Below.refl _ _).drew, h.cal, h.blocks⟩
theorem EnvE.made (h : EnvE B pb e l v) (c : Array Value) (t : TypeId) : EnvE B pb e ((v.heap.size, c) :: l) (v.alloc (.cells c t)) :=
  (h.below (bel1 _ _)).add (Has1.made v c t) (Nat.ne_of_lt h.cal.1)
theorem EnvE.sub (h : EnvE B pb e l v) {k : List (Nat × Array Value)} (hk : ∀ p, p ∈ k → p ∈ l) : EnvE B pb e k v := ⟨h.put, h.cal, fun p hp => h.blocks p (hk p hp)⟩
theorem EnvE.nth (h : EnvE B pb e l v) (i : Nat) {p : Nat × Array Value} (hp : l[i]? = some p) : Has1 v p := (h.blocks p (List.mem_of_getElem? hp)).1
theorem EnvE.ne (h : EnvE B pb e l v) (i : Nat) {p : Nat × Array Value} (hp : l[i]? = some p) : pb ≠ p.1 := (h.blocks p (List.mem_of_getElem? hp)).2
theorem EnvE.set2 (h : EnvE B pb e l v) {q : Nat} {x y : Value} (hx : Has1 v (q, #[x, y])) (hn : pb ≠ q) (hB : B.heap.size ≤ q) (x' y' : Value) : EnvE B pb e [(q, #[x', y'])] ((v.setCell ⟨q, 0, none⟩ x').setCell ⟨q, 1, none⟩ y') where
  put := by
    have hb : Below B.heap.size (B.setCell ⟨pb, 0, none⟩ (.int .i64 e)) v := h.put
    exact (hb.setCell hB _).setCell hB _
  cal := (h.cal.set (Ne.symm hn)).set (Ne.symm hn)
  blocks := fun p hp => by
    rw [List.mem_singleton] at hp
    rw [hp]; exact ⟨hx.set2 _ _, hn⟩
theorem EnvE.set6 (h : EnvE B pb e l v) {q : Nat} {z0 z1 z2 z3 z4 z5 : Value} (hx : Has1 v (q, #[z0, z1, z2, z3, z4, z5])) (hn : pb ≠ q) (hB : B.heap.size ≤ q) (y0 y1 y2 y3 y4 y5 : Value) :
    EnvE B pb e [(q, #[y0, y1, y2, y3, y4, y5])] ((((((v.setCell ⟨q, 0, none⟩ y0).setCell ⟨q, 1, none⟩ y1).setCell ⟨q, 2, none⟩ y2).setCell ⟨q, 3, none⟩ y3).setCell ⟨q, 4, none⟩ y4).setCell ⟨q, 5, none⟩ y5) where
  put := by
    have hb : Below B.heap.size (B.setCell ⟨pb, 0, none⟩ (.int .i64 e)) v := h.put
    exact (((((hb.setCell hB _).setCell hB _).setCell hB _).setCell hB _).setCell hB _).setCell hB _
  cal := (((((h.cal.set (Ne.symm hn)).set (Ne.symm hn)).set (Ne.symm hn)).set (Ne.symm hn)).set (Ne.symm hn)).set (Ne.symm hn)
  blocks := fun p hp => by
    rw [List.mem_singleton] at hp
    rw [hp]; exact ⟨hx.six6 _ _ _ _ _ _, hn⟩
end

/-- What a call upon a calculator answers. -/
abbrev CE2 (f : FuncId) (pb : Nat) (e e' : Int) (al ah bl bh rl rh : Nat) : Prop := ∀ v : World, Has1 v (pb, #[.int .i64 e]) → Calls Try.prog f #[.pointer (some ⟨pb, 0, none⟩), .agg #[.float .f64 al, .float .f64 ah], .agg #[.float .f64 bl, .float .f64 bh]] v fun r w' => r = .returned (.agg #[.float .f64 rl, .float .f64 rh]) ∧ Put ⟨pb, 0, none⟩ (.int .i64 e') v w'
abbrev CE1 (f : FuncId) (pb : Nat) (e e' : Int) (al ah rl rh : Nat) : Prop := ∀ v : World, Has1 v (pb, #[.int .i64 e]) → Calls Try.prog f #[.pointer (some ⟨pb, 0, none⟩), .agg #[.float .f64 al, .float .f64 ah]] v fun r w' => r = .returned (.agg #[.float .f64 rl, .float .f64 rh]) ∧ Put ⟨pb, 0, none⟩ (.int .i64 e') v w'

/-- An interval of words. -/
structure Wd (a : Res) : Prop where
  lo : a.lo < 18446744073709551616
  hi : a.hi < 18446744073709551616
theorem Fit.wd {a : Res} (h : Fit a) : Wd a := ⟨h.lo, h.hi⟩
theorem told_e {R : Res} {pb : Nat} {w : World} {f : FuncId} {args : Array Value} (h : Calls Try.prog f args w (Told R pb 0 w)) :
    Calls Try.prog f args w fun r w' => r = .returned (.agg #[.float .f64 R.lo, .float .f64 R.hi]) ∧ Put ⟨pb, 0, none⟩ (.int .i64 R.e) w w' := h.mono fun _ _ ⟨h1, h2⟩ => ⟨h1, h2⟩
theorem ce_add (e : Int) {a b : Res} (ha : Wd a) (hb : Wd b) (pb : Nat) : CE2 28 pb e (stA e a b).e a.lo a.hi b.lo b.hi (stA e a b).lo (stA e a b).hi := fun v h => told_e (cAdd_any e a.lo a.hi b.lo b.hi pb 0 v ha.lo ha.hi hb.lo hb.hi h.pc h.pf)
theorem ce_sub (e : Int) {a b : Res} (ha : Wd a) (hb : Wd b) (pb : Nat) : CE2 42 pb e (stS e a b).e a.lo a.hi b.lo b.hi (stS e a b).lo (stS e a b).hi := fun v h => told_e (cSub_any e a.lo a.hi b.lo b.hi pb 0 v ha.lo ha.hi hb.lo hb.hi h.pc h.pf)
theorem ce_mul (e : Int) {a b : Res} (ha : Wd a) (hb : Wd b) (pb : Nat) : CE2 40 pb e (stM e a b).e a.lo a.hi b.lo b.hi (stM e a b).lo (stM e a b).hi := fun v h => told_e (cMul_any e a.lo a.hi b.lo b.hi pb 0 v ha.lo ha.hi hb.lo hb.hi h.pc h.pf)
theorem ce_sqr (e : Int) {a : Res} (ha : Wd a) (pb : Nat) : CE1 29 pb e (stQ e a).e a.lo a.hi (stQ e a).lo (stQ e a).hi := fun v h => told_e (cSqr_any e a.lo a.hi pb 0 v ha.lo ha.hi h.pc h.pf)
theorem ce_sqrt (e : Int) {a : Res} (ha : Wd a) (pb : Nat) : CE1 27 pb e (stR e a).e a.lo a.hi (stR e a).lo (stR e a).hi := fun v h => told_e (cSqrt_any e a.lo a.hi pb 0 v ha.lo ha.hi h.pc h.pf)

set_option maxRecDepth 100000 in
set_option maxHeartbeats 4000000 in
/-- Dot, by letters. -/
theorem dot_walk (axl axh ayl ayh azl azh bxl bxh byl byh bzl bzh m1l m1h m2l m2h m3l m3h m4l m4h m5l m5h : Nat) (e e1 e2 e3 e4 e5 : Int) (pb : Nat) (w : World) (hC : Has1 w (pb, #[.int .i64 e]))
    (d1 : Hid (CE2 40 pb e e1 axl axh bxl bxh m1l m1h)) (d2 : Hid (CE2 40 pb e1 e2 ayl ayh byl byh m2l m2h)) (d3 : Hid (CE2 28 pb e2 e3 m1l m1h m2l m2h m3l m3h)) (d4 : Hid (CE2 40 pb e3 e4 azl azh bzl bzh m4l m4h)) (d5 : Hid (CE2 28 pb e4 e5 m3l m3h m4l m4h m5l m5h)) :
    Calls Try.prog 25 #[.pointer (some ⟨pb, 0, none⟩), .agg #[.float .f64 axl, .float .f64 axh, .float .f64 ayl, .float .f64 ayh, .float .f64 azl, .float .f64 azh], .agg #[.float .f64 bxl, .float .f64 bxh, .float .f64 byl, .float .f64 byh, .float .f64 bzl, .float .f64 bzh]] w fun r w' => r = .returned (.agg #[.float .f64 m5l, .float .f64 m5h]) ∧ Put ⟨pb, 0, none⟩ (.int .i64 e5) w w' := by
  have E := Lib.hid ((((EnvE.start hC).made #[.float .f64 axl, .float .f64 axh, .float .f64 ayl, .float .f64 ayh, .float .f64 azl, .float .f64 azh] 28).made #[.float .f64 bxl, .float .f64 bxh, .float .f64 byl, .float .f64 byh, .float .f64 bzl, .float .f64 bzh] 28).made #[.float .f64 0, .float .f64 0] 26)
  simp only [World.size_alloc] at E
  
  go_enter Try.func25, Try.ntmps25
  go_upto_region 1 with fail
  revert E
  generalize (((w.alloc (.cells #[.float .f64 axl, .float .f64 axh, .float .f64 ayl, .float .f64 ayh, .float .f64 azl, .float .f64 azh] 28)).alloc (.cells #[.float .f64 bxl, .float .f64 bxh, .float .f64 byl, .float .f64 byh, .float .f64 bzl, .float .f64 bzh] 28)).alloc (.cells #[.float .f64 0, .float .f64 0] 26)) = W
  intro E
  obtain ⟨k1, k2, k3, k4, k5, k6⟩ := (E.out.nth 2 rfl).six; obtain ⟨k7, k8, k9, k10, k11, k12⟩ := (E.out.nth 1 rfl).six; have kc := (E.out.nth 0 rfl).2.1; have kf := (E.out.nth 0 rfl).2.2
  go_region_held3 (fun w' => w'.cell? ⟨w.heap.size, 0, none⟩ = some (.float .f64 axl) ∧ w'.cell? ⟨w.heap.size, 1, none⟩ = some (.float .f64 axh) ∧ w'.cell? ⟨w.heap.size, 2, none⟩ = some (.float .f64 ayl) ∧ w'.cell? ⟨w.heap.size, 3, none⟩ = some (.float .f64 ayh) ∧ w'.cell? ⟨w.heap.size, 4, none⟩ = some (.float .f64 azl) ∧ w'.cell? ⟨w.heap.size, 5, none⟩ = some (.float .f64 azh) ∧ w'.cell? ⟨w.heap.size + 1, 0, none⟩ = some (.float .f64 bxl) ∧ w'.cell? ⟨w.heap.size + 1, 1, none⟩ = some (.float .f64 bxh) ∧ w'.cell? ⟨w.heap.size + 1, 2, none⟩ = some (.float .f64 byl) ∧ w'.cell? ⟨w.heap.size + 1, 3, none⟩ = some (.float .f64 byh) ∧ w'.cell? ⟨w.heap.size + 1, 4, none⟩ = some (.float .f64 bzl) ∧ w'.cell? ⟨w.heap.size + 1, 5, none⟩ = some (.float .f64 bzh)) (((try dsimp only); (repeat' apply And.intro); all_goals (repeat (first | (with_reducible assumption) | ((with_reducible refine keep_undrew ?_); (with_reducible assumption)) | (with_reducible refine keep_drew ?_) | (with_reducible refine keep_alloc _ ?_) | (with_reducible refine keep_set _ (by first | (with_reducible assumption) | omega) ?_)))))
    (first
      | (go_at_call 40; (with_reducible refine (d1.out _ E.out.drew.cal).mono ?_); rintro rr w5 ⟨rfl, hp⟩; have E' := Lib.hid (E.out.drew.putc hp); clear E hp k1 k2 k3 k4 k5 k6 k7 k8 k9 k10 k11 k12 kc kf; have E := E'; clear E'; obtain ⟨k1, k2, k3, k4, k5, k6⟩ := (E.out.nth 2 rfl).six; obtain ⟨k7, k8, k9, k10, k11, k12⟩ := (E.out.nth 1 rfl).six; have kc := (E.out.nth 0 rfl).2.1; have kf := (E.out.nth 0 rfl).2.2)
      | (go_at_call 40; (with_reducible refine (d2.out _ E.out.cal).mono ?_); rintro rr w5 ⟨rfl, hp⟩; have E' := Lib.hid (E.out.putc hp); clear E hp k1 k2 k3 k4 k5 k6 k7 k8 k9 k10 k11 k12 kc kf; have E := E'; clear E'; obtain ⟨k1, k2, k3, k4, k5, k6⟩ := (E.out.nth 2 rfl).six; obtain ⟨k7, k8, k9, k10, k11, k12⟩ := (E.out.nth 1 rfl).six; have kc := (E.out.nth 0 rfl).2.1; have kf := (E.out.nth 0 rfl).2.2)
      | (go_at_call 28; (with_reducible refine (d3.out _ E.out.cal).mono ?_); rintro rr w5 ⟨rfl, hp⟩; have E' := Lib.hid (E.out.putc hp); clear E hp k1 k2 k3 k4 k5 k6 k7 k8 k9 k10 k11 k12 kc kf; have E := E'; clear E'; obtain ⟨k1, k2, k3, k4, k5, k6⟩ := (E.out.nth 2 rfl).six; obtain ⟨k7, k8, k9, k10, k11, k12⟩ := (E.out.nth 1 rfl).six; have kc := (E.out.nth 0 rfl).2.1; have kf := (E.out.nth 0 rfl).2.2)
      | (go_at_call 40; (with_reducible refine (d4.out _ E.out.cal).mono ?_); rintro rr w5 ⟨rfl, hp⟩; have E' := Lib.hid (E.out.putc hp); clear E hp k1 k2 k3 k4 k5 k6 k7 k8 k9 k10 k11 k12 kc kf; have E := E'; clear E'; obtain ⟨k1, k2, k3, k4, k5, k6⟩ := (E.out.nth 2 rfl).six; obtain ⟨k7, k8, k9, k10, k11, k12⟩ := (E.out.nth 1 rfl).six; have kc := (E.out.nth 0 rfl).2.1; have kf := (E.out.nth 0 rfl).2.2)
      | (go_at_call 28; (with_reducible refine (d5.out _ E.out.cal).mono ?_); rintro rr w5 ⟨rfl, hp⟩; have E' := Lib.hid (E.out.putc hp); clear E hp k1 k2 k3 k4 k5 k6 k7 k8 k9 k10 k11 k12 kc kf; have E := E'; clear E'; obtain ⟨k1, k2, k3, k4, k5, k6⟩ := (E.out.nth 2 rfl).six; obtain ⟨k7, k8, k9, k10, k11, k12⟩ := (E.out.nth 1 rfl).six; have kc := (E.out.nth 0 rfl).2.1; have kf := (E.out.nth 0 rfl).2.2))
  have F := Lib.hid (E.out.set2 (E.out.nth 0 rfl) (E.out.ne 0 rfl) (by omega) (.float .f64 m5l) (.float .f64 m5h))
  go_wp2
  obtain ⟨f1, f2⟩ := (F.out.nth 0 rfl).two
  exact bodyPost_ret (v := .agg #[.float .f64 m5l, .float .f64 m5h]) (by simp [results, Try.results25, go_sem, f1, f2]) rfl ⟨rfl, F.out.put⟩

set_option maxRecDepth 100000 in
set_option maxHeartbeats 4000000 in
/-- Norm, by letters. -/
theorem norm_walk (axl axh ayl ayh azl azh n1l n1h n2l n2h n3l n3h n4l n4h n5l n5h n6l n6h : Nat) (e e1 e2 e3 e4 e5 e6 : Int) (pb : Nat) (w : World) (hC : Has1 w (pb, #[.int .i64 e]))
    (d1 : Hid (CE1 29 pb e e1 axl axh n1l n1h)) (d2 : Hid (CE1 29 pb e1 e2 ayl ayh n2l n2h)) (d3 : Hid (CE2 28 pb e2 e3 n1l n1h n2l n2h n3l n3h)) (d4 : Hid (CE1 29 pb e3 e4 azl azh n4l n4h)) (d5 : Hid (CE2 28 pb e4 e5 n3l n3h n4l n4h n5l n5h)) (d6 : Hid (CE1 27 pb e5 e6 n5l n5h n6l n6h)) :
    Calls Try.prog 9 #[.pointer (some ⟨pb, 0, none⟩), .agg #[.float .f64 axl, .float .f64 axh, .float .f64 ayl, .float .f64 ayh, .float .f64 azl, .float .f64 azh]] w fun r w' => r = .returned (.agg #[.float .f64 n6l, .float .f64 n6h]) ∧ Put ⟨pb, 0, none⟩ (.int .i64 e6) w w' := by
  have E := Lib.hid (((EnvE.start hC).made #[.float .f64 axl, .float .f64 axh, .float .f64 ayl, .float .f64 ayh, .float .f64 azl, .float .f64 azh] 28).made #[.float .f64 0, .float .f64 0] 26)
  simp only [World.size_alloc] at E
  
  go_enter Try.func9, Try.ntmps9
  go_upto_region 1 with fail
  revert E
  generalize ((w.alloc (.cells #[.float .f64 axl, .float .f64 axh, .float .f64 ayl, .float .f64 ayh, .float .f64 azl, .float .f64 azh] 28)).alloc (.cells #[.float .f64 0, .float .f64 0] 26)) = W
  intro E
  obtain ⟨k1, k2, k3, k4, k5, k6⟩ := (E.out.nth 1 rfl).six; have kc := (E.out.nth 0 rfl).2.1; have kf := (E.out.nth 0 rfl).2.2
  go_region_held3 (fun w' => w'.cell? ⟨w.heap.size, 0, none⟩ = some (.float .f64 axl) ∧ w'.cell? ⟨w.heap.size, 1, none⟩ = some (.float .f64 axh) ∧ w'.cell? ⟨w.heap.size, 2, none⟩ = some (.float .f64 ayl) ∧ w'.cell? ⟨w.heap.size, 3, none⟩ = some (.float .f64 ayh) ∧ w'.cell? ⟨w.heap.size, 4, none⟩ = some (.float .f64 azl) ∧ w'.cell? ⟨w.heap.size, 5, none⟩ = some (.float .f64 azh)) (((try dsimp only); (repeat' apply And.intro); all_goals (repeat (first | (with_reducible assumption) | ((with_reducible refine keep_undrew ?_); (with_reducible assumption)) | (with_reducible refine keep_drew ?_) | (with_reducible refine keep_alloc _ ?_) | (with_reducible refine keep_set _ (by first | (with_reducible assumption) | omega) ?_)))))
    (first
      | (go_at_call 29; (with_reducible refine (d1.out _ E.out.drew.cal).mono ?_); rintro rr w5 ⟨rfl, hp⟩; have E' := Lib.hid (E.out.drew.putc hp); clear E hp k1 k2 k3 k4 k5 k6 kc kf; have E := E'; clear E'; obtain ⟨k1, k2, k3, k4, k5, k6⟩ := (E.out.nth 1 rfl).six; have kc := (E.out.nth 0 rfl).2.1; have kf := (E.out.nth 0 rfl).2.2)
      | (go_at_call 29; (with_reducible refine (d2.out _ E.out.cal).mono ?_); rintro rr w5 ⟨rfl, hp⟩; have E' := Lib.hid (E.out.putc hp); clear E hp k1 k2 k3 k4 k5 k6 kc kf; have E := E'; clear E'; obtain ⟨k1, k2, k3, k4, k5, k6⟩ := (E.out.nth 1 rfl).six; have kc := (E.out.nth 0 rfl).2.1; have kf := (E.out.nth 0 rfl).2.2)
      | (go_at_call 28; (with_reducible refine (d3.out _ E.out.cal).mono ?_); rintro rr w5 ⟨rfl, hp⟩; have E' := Lib.hid (E.out.putc hp); clear E hp k1 k2 k3 k4 k5 k6 kc kf; have E := E'; clear E'; obtain ⟨k1, k2, k3, k4, k5, k6⟩ := (E.out.nth 1 rfl).six; have kc := (E.out.nth 0 rfl).2.1; have kf := (E.out.nth 0 rfl).2.2)
      | (go_at_call 29; (with_reducible refine (d4.out _ E.out.cal).mono ?_); rintro rr w5 ⟨rfl, hp⟩; have E' := Lib.hid (E.out.putc hp); clear E hp k1 k2 k3 k4 k5 k6 kc kf; have E := E'; clear E'; obtain ⟨k1, k2, k3, k4, k5, k6⟩ := (E.out.nth 1 rfl).six; have kc := (E.out.nth 0 rfl).2.1; have kf := (E.out.nth 0 rfl).2.2)
      | (go_at_call 28; (with_reducible refine (d5.out _ E.out.cal).mono ?_); rintro rr w5 ⟨rfl, hp⟩; have E' := Lib.hid (E.out.putc hp); clear E hp k1 k2 k3 k4 k5 k6 kc kf; have E := E'; clear E'; obtain ⟨k1, k2, k3, k4, k5, k6⟩ := (E.out.nth 1 rfl).six; have kc := (E.out.nth 0 rfl).2.1; have kf := (E.out.nth 0 rfl).2.2)
      | (go_at_call 27; (with_reducible refine (d6.out _ E.out.cal).mono ?_); rintro rr w5 ⟨rfl, hp⟩; have E' := Lib.hid (E.out.putc hp); clear E hp k1 k2 k3 k4 k5 k6 kc kf; have E := E'; clear E'; obtain ⟨k1, k2, k3, k4, k5, k6⟩ := (E.out.nth 1 rfl).six; have kc := (E.out.nth 0 rfl).2.1; have kf := (E.out.nth 0 rfl).2.2))
  have F := Lib.hid (E.out.set2 (E.out.nth 0 rfl) (E.out.ne 0 rfl) (by omega) (.float .f64 n6l) (.float .f64 n6h))
  go_wp2
  obtain ⟨f1, f2⟩ := (F.out.nth 0 rfl).two
  exact bodyPost_ret (v := .agg #[.float .f64 n6l, .float .f64 n6h]) (by simp [results, Try.results9, go_sem, f1, f2]) rfl ⟨rfl, F.out.put⟩

set_option maxRecDepth 100000 in
set_option maxHeartbeats 4000000 in
/-- Cross's literal, by letters. -/
theorem across_walk (pl ph ql qh ul uh vl vh xl xh yl yh zl zh : Nat) (e e1 e2 e3 : Int) (pb cp : Nat) (w : World) (hC : Has1 w (pb, #[.int .i64 e])) (hP : Has1 w (cp, #[.pointer (some ⟨pb, 0, none⟩)])) (n1 : pb ≠ cp)
    (d1 : Hid (CE2 40 pb e e1 pl ph ql qh xl xh)) (d2 : Hid (CE2 40 pb e1 e2 ul uh vl vh yl yh)) (d3 : Hid (CE2 42 pb e2 e3 xl xh yl yh zl zh)) :
    Calls Try.prog 41 #[.agg #[.float .f64 pl, .float .f64 ph], .agg #[.float .f64 ql, .float .f64 qh], .agg #[.float .f64 ul, .float .f64 uh], .agg #[.float .f64 vl, .float .f64 vh], .pointer (some ⟨cp, 0, none⟩)] w fun r w' => r = .returned (.agg #[.float .f64 zl, .float .f64 zh]) ∧ Put ⟨pb, 0, none⟩ (.int .i64 e3) w w' := by
  have E := Lib.hid ((((((((EnvE.start hC).add hP n1)).made #[.float .f64 pl, .float .f64 ph] 26).made #[.float .f64 ql, .float .f64 qh] 26).made #[.float .f64 ul, .float .f64 uh] 26).made #[.float .f64 vl, .float .f64 vh] 26).made #[.float .f64 0, .float .f64 0] 26)
  simp only [World.size_alloc] at E
  have g1 : cp < w.heap.size := hP.1
  go_enter Try.func41, Try.ntmps41
  go_upto_region 1 with fail
  revert E
  generalize (((((w.alloc (.cells #[.float .f64 pl, .float .f64 ph] 26)).alloc (.cells #[.float .f64 ql, .float .f64 qh] 26)).alloc (.cells #[.float .f64 ul, .float .f64 uh] 26)).alloc (.cells #[.float .f64 vl, .float .f64 vh] 26)).alloc (.cells #[.float .f64 0, .float .f64 0] 26)) = W
  intro E
  have k1 := (E.out.nth 5 rfl).pc; obtain ⟨k2, k3⟩ := (E.out.nth 4 rfl).two; obtain ⟨k4, k5⟩ := (E.out.nth 3 rfl).two; obtain ⟨k6, k7⟩ := (E.out.nth 2 rfl).two; obtain ⟨k8, k9⟩ := (E.out.nth 1 rfl).two; have kc := (E.out.nth 0 rfl).2.1; have kf := (E.out.nth 0 rfl).2.2
  go_region_held3 (fun w' => w'.cell? ⟨cp, 0, none⟩ = some (.pointer (some ⟨pb, 0, none⟩)) ∧ w'.cell? ⟨w.heap.size, 0, none⟩ = some (.float .f64 pl) ∧ w'.cell? ⟨w.heap.size, 1, none⟩ = some (.float .f64 ph) ∧ w'.cell? ⟨w.heap.size + 1, 0, none⟩ = some (.float .f64 ql) ∧ w'.cell? ⟨w.heap.size + 1, 1, none⟩ = some (.float .f64 qh) ∧ w'.cell? ⟨w.heap.size + 1 + 1, 0, none⟩ = some (.float .f64 ul) ∧ w'.cell? ⟨w.heap.size + 1 + 1, 1, none⟩ = some (.float .f64 uh) ∧ w'.cell? ⟨w.heap.size + 1 + 1 + 1, 0, none⟩ = some (.float .f64 vl) ∧ w'.cell? ⟨w.heap.size + 1 + 1 + 1, 1, none⟩ = some (.float .f64 vh)) (((try dsimp only); (repeat' apply And.intro); all_goals (repeat (first | (with_reducible assumption) | ((with_reducible refine keep_undrew ?_); (with_reducible assumption)) | (with_reducible refine keep_drew ?_) | (with_reducible refine keep_alloc _ ?_) | (with_reducible refine keep_set _ (by first | (with_reducible assumption) | omega) ?_)))))
    (first
      | (go_at_call 40; (with_reducible refine (d1.out _ E.out.drew.cal).mono ?_); rintro rr w5 ⟨rfl, hp⟩; have E' := Lib.hid (E.out.drew.putc hp); clear E hp k1 k2 k3 k4 k5 k6 k7 k8 k9 kc kf; have E := E'; clear E'; have k1 := (E.out.nth 5 rfl).pc; obtain ⟨k2, k3⟩ := (E.out.nth 4 rfl).two; obtain ⟨k4, k5⟩ := (E.out.nth 3 rfl).two; obtain ⟨k6, k7⟩ := (E.out.nth 2 rfl).two; obtain ⟨k8, k9⟩ := (E.out.nth 1 rfl).two; have kc := (E.out.nth 0 rfl).2.1; have kf := (E.out.nth 0 rfl).2.2)
      | (go_at_call 40; (with_reducible refine (d2.out _ E.out.cal).mono ?_); rintro rr w5 ⟨rfl, hp⟩; have E' := Lib.hid (E.out.putc hp); clear E hp k1 k2 k3 k4 k5 k6 k7 k8 k9 kc kf; have E := E'; clear E'; have k1 := (E.out.nth 5 rfl).pc; obtain ⟨k2, k3⟩ := (E.out.nth 4 rfl).two; obtain ⟨k4, k5⟩ := (E.out.nth 3 rfl).two; obtain ⟨k6, k7⟩ := (E.out.nth 2 rfl).two; obtain ⟨k8, k9⟩ := (E.out.nth 1 rfl).two; have kc := (E.out.nth 0 rfl).2.1; have kf := (E.out.nth 0 rfl).2.2)
      | (go_at_call 42; (with_reducible refine (d3.out _ E.out.cal).mono ?_); rintro rr w5 ⟨rfl, hp⟩; have E' := Lib.hid (E.out.putc hp); clear E hp k1 k2 k3 k4 k5 k6 k7 k8 k9 kc kf; have E := E'; clear E'; have k1 := (E.out.nth 5 rfl).pc; obtain ⟨k2, k3⟩ := (E.out.nth 4 rfl).two; obtain ⟨k4, k5⟩ := (E.out.nth 3 rfl).two; obtain ⟨k6, k7⟩ := (E.out.nth 2 rfl).two; obtain ⟨k8, k9⟩ := (E.out.nth 1 rfl).two; have kc := (E.out.nth 0 rfl).2.1; have kf := (E.out.nth 0 rfl).2.2))
  have F := Lib.hid (E.out.set2 (E.out.nth 0 rfl) (E.out.ne 0 rfl) (by omega) (.float .f64 zl) (.float .f64 zh))
  go_wp2
  obtain ⟨f1, f2⟩ := (F.out.nth 0 rfl).two
  exact bodyPost_ret (v := .agg #[.float .f64 zl, .float .f64 zh]) (by simp [results, Try.results41, go_sem, f1, f2]) rfl ⟨rfl, F.out.put⟩

set_option maxRecDepth 100000 in
set_option maxHeartbeats 4000000 in
/-- Cross, by letters. -/
theorem cross_walk (axl axh ayl ayh azl azh bxl bxh byl byh bzl bzh rxl rxh ryl ryh rzl rzh : Nat) (e e1 e2 e3 : Int) (pb : Nat) (w : World) (hC : Has1 w (pb, #[.int .i64 e]))
    (d1 : Hid (∀ (cp : Nat) (v : World), Has1 v (pb, #[.int .i64 e]) → Has1 v (cp, #[.pointer (some ⟨pb, 0, none⟩)]) → pb ≠ cp → Calls Try.prog 41 #[.agg #[.float .f64 ayl, .float .f64 ayh], .agg #[.float .f64 bzl, .float .f64 bzh], .agg #[.float .f64 azl, .float .f64 azh], .agg #[.float .f64 byl, .float .f64 byh], .pointer (some ⟨cp, 0, none⟩)] v fun r w' => r = .returned (.agg #[.float .f64 rxl, .float .f64 rxh]) ∧ Put ⟨pb, 0, none⟩ (.int .i64 e1) v w')) (d2 : Hid (∀ (cp : Nat) (v : World), Has1 v (pb, #[.int .i64 e1]) → Has1 v (cp, #[.pointer (some ⟨pb, 0, none⟩)]) → pb ≠ cp → Calls Try.prog 41 #[.agg #[.float .f64 azl, .float .f64 azh], .agg #[.float .f64 bxl, .float .f64 bxh], .agg #[.float .f64 axl, .float .f64 axh], .agg #[.float .f64 bzl, .float .f64 bzh], .pointer (some ⟨cp, 0, none⟩)] v fun r w' => r = .returned (.agg #[.float .f64 ryl, .float .f64 ryh]) ∧ Put ⟨pb, 0, none⟩ (.int .i64 e2) v w')) (d3 : Hid (∀ (cp : Nat) (v : World), Has1 v (pb, #[.int .i64 e2]) → Has1 v (cp, #[.pointer (some ⟨pb, 0, none⟩)]) → pb ≠ cp → Calls Try.prog 41 #[.agg #[.float .f64 axl, .float .f64 axh], .agg #[.float .f64 byl, .float .f64 byh], .agg #[.float .f64 ayl, .float .f64 ayh], .agg #[.float .f64 bxl, .float .f64 bxh], .pointer (some ⟨cp, 0, none⟩)] v fun r w' => r = .returned (.agg #[.float .f64 rzl, .float .f64 rzh]) ∧ Put ⟨pb, 0, none⟩ (.int .i64 e3) v w')) :
    Calls Try.prog 26 #[.pointer (some ⟨pb, 0, none⟩), .agg #[.float .f64 axl, .float .f64 axh, .float .f64 ayl, .float .f64 ayh, .float .f64 azl, .float .f64 azh], .agg #[.float .f64 bxl, .float .f64 bxh, .float .f64 byl, .float .f64 byh, .float .f64 bzl, .float .f64 bzh]] w fun r w' => r = .returned (.agg #[.float .f64 rxl, .float .f64 rxh, .float .f64 ryl, .float .f64 ryh, .float .f64 rzl, .float .f64 rzh]) ∧ Put ⟨pb, 0, none⟩ (.int .i64 e3) w w' := by
  have E := Lib.hid (((((EnvE.start hC).made #[.pointer (some ⟨pb, 0, none⟩)] 39).made #[.float .f64 axl, .float .f64 axh, .float .f64 ayl, .float .f64 ayh, .float .f64 azl, .float .f64 azh] 28).made #[.float .f64 bxl, .float .f64 bxh, .float .f64 byl, .float .f64 byh, .float .f64 bzl, .float .f64 bzh] 28).made #[.float .f64 0, .float .f64 0, .float .f64 0, .float .f64 0, .float .f64 0, .float .f64 0] 28)
  simp only [World.size_alloc] at E
  
  go_enter Try.func26, Try.ntmps26
  go_upto_region 2 with fail
  revert E
  generalize ((((w.alloc (.cells #[.pointer (some ⟨pb, 0, none⟩)] 39)).alloc (.cells #[.float .f64 axl, .float .f64 axh, .float .f64 ayl, .float .f64 ayh, .float .f64 azl, .float .f64 azh] 28)).alloc (.cells #[.float .f64 bxl, .float .f64 bxh, .float .f64 byl, .float .f64 byh, .float .f64 bzl, .float .f64 bzh] 28)).alloc (.cells #[.float .f64 0, .float .f64 0, .float .f64 0, .float .f64 0, .float .f64 0, .float .f64 0] 28)) = W
  intro E
  obtain ⟨k1, k2, k3, k4, k5, k6⟩ := (E.out.nth 2 rfl).six; obtain ⟨k7, k8, k9, k10, k11, k12⟩ := (E.out.nth 1 rfl).six; have kc := (E.out.nth 0 rfl).2.1; have kf := (E.out.nth 0 rfl).2.2
  go_region_held3 (fun w' => w'.cell? ⟨w.heap.size + 1, 0, none⟩ = some (.float .f64 axl) ∧ w'.cell? ⟨w.heap.size + 1, 1, none⟩ = some (.float .f64 axh) ∧ w'.cell? ⟨w.heap.size + 1, 2, none⟩ = some (.float .f64 ayl) ∧ w'.cell? ⟨w.heap.size + 1, 3, none⟩ = some (.float .f64 ayh) ∧ w'.cell? ⟨w.heap.size + 1, 4, none⟩ = some (.float .f64 azl) ∧ w'.cell? ⟨w.heap.size + 1, 5, none⟩ = some (.float .f64 azh) ∧ w'.cell? ⟨w.heap.size + 1 + 1, 0, none⟩ = some (.float .f64 bxl) ∧ w'.cell? ⟨w.heap.size + 1 + 1, 1, none⟩ = some (.float .f64 bxh) ∧ w'.cell? ⟨w.heap.size + 1 + 1, 2, none⟩ = some (.float .f64 byl) ∧ w'.cell? ⟨w.heap.size + 1 + 1, 3, none⟩ = some (.float .f64 byh) ∧ w'.cell? ⟨w.heap.size + 1 + 1, 4, none⟩ = some (.float .f64 bzl) ∧ w'.cell? ⟨w.heap.size + 1 + 1, 5, none⟩ = some (.float .f64 bzh)) (((try dsimp only); (repeat' apply And.intro); all_goals (repeat (first | (with_reducible assumption) | ((with_reducible refine keep_undrew ?_); (with_reducible assumption)) | (with_reducible refine keep_drew ?_) | (with_reducible refine keep_alloc _ ?_) | (with_reducible refine keep_set _ (by first | (with_reducible assumption) | omega) ?_)))))
    (first
      | (go_at_call 41; (with_reducible refine (d1.out w.heap.size _ E.out.drew.cal (E.out.drew.nth 3 rfl) (E.out.drew.ne 3 rfl)).mono ?_); rintro rr w5 ⟨rfl, hp⟩; have E' := Lib.hid (E.out.drew.putc hp); clear E hp k1 k2 k3 k4 k5 k6 k7 k8 k9 k10 k11 k12 kc kf; have E := E'; clear E'; obtain ⟨k1, k2, k3, k4, k5, k6⟩ := (E.out.nth 2 rfl).six; obtain ⟨k7, k8, k9, k10, k11, k12⟩ := (E.out.nth 1 rfl).six; have kc := (E.out.nth 0 rfl).2.1; have kf := (E.out.nth 0 rfl).2.2)
      | (go_at_call 41; (with_reducible refine (d2.out w.heap.size _ E.out.cal (E.out.nth 3 rfl) (E.out.ne 3 rfl)).mono ?_); rintro rr w5 ⟨rfl, hp⟩; have E' := Lib.hid (E.out.putc hp); clear E hp k1 k2 k3 k4 k5 k6 k7 k8 k9 k10 k11 k12 kc kf; have E := E'; clear E'; obtain ⟨k1, k2, k3, k4, k5, k6⟩ := (E.out.nth 2 rfl).six; obtain ⟨k7, k8, k9, k10, k11, k12⟩ := (E.out.nth 1 rfl).six; have kc := (E.out.nth 0 rfl).2.1; have kf := (E.out.nth 0 rfl).2.2)
      | (go_at_call 41; (with_reducible refine (d3.out w.heap.size _ E.out.cal (E.out.nth 3 rfl) (E.out.ne 3 rfl)).mono ?_); rintro rr w5 ⟨rfl, hp⟩; have E' := Lib.hid (E.out.putc hp); clear E hp k1 k2 k3 k4 k5 k6 k7 k8 k9 k10 k11 k12 kc kf; have E := E'; clear E'; obtain ⟨k1, k2, k3, k4, k5, k6⟩ := (E.out.nth 2 rfl).six; obtain ⟨k7, k8, k9, k10, k11, k12⟩ := (E.out.nth 1 rfl).six; have kc := (E.out.nth 0 rfl).2.1; have kf := (E.out.nth 0 rfl).2.2))
  have F := Lib.hid (E.out.set6 (E.out.nth 0 rfl) (E.out.ne 0 rfl) (by omega) (.float .f64 rxl) (.float .f64 rxh) (.float .f64 ryl) (.float .f64 ryh) (.float .f64 rzl) (.float .f64 rzh))
  go_wp2
  obtain ⟨f1, f2, f3, f4, f5, f6⟩ := (F.out.nth 0 rfl).six
  exact bodyPost_ret (v := .agg #[.float .f64 rxl, .float .f64 rxh, .float .f64 ryl, .float .f64 ryh, .float .f64 rzl, .float .f64 rzh]) (by simp [results, Try.results26, go_sem, f1, f2, f3, f4, f5, f6]) rfl ⟨rfl, F.out.put⟩

end Go.Proofs.Ytlibfeegdjbhcaa

namespace Go.Proofs.Ytlibfeegdjbhcaa
open Go.RowKit

theorem nil_wd {r : Res} (h : Nil0 r) (he : r.e ≠ 0) : Wd r := by
  obtain ⟨h1, h2⟩ := h he
  exact ⟨by rw [h1]; decide, by rw [h2]; decide⟩
theorem st2_wd {j : Nat} (hj : j < 6) (e : Int) {a b : Res} (ha : Wd a) (hb : Wd b) : Wd (stepI e (ivR a.lo a.hi && ivR b.lo b.hi) (askI a.lo a.hi b.lo b.hi j)) := by
  by_cases h : (stepI e (ivR a.lo a.hi && ivR b.lo b.hi) (askI a.lo a.hi b.lo b.hi j)).e = 0
  · obtain ⟨_, h2, h3⟩ := st_none h
    rw [Bool.and_eq_true] at h2
    rw [h3] at h ⊢
    obtain ⟨n1, _, n3, _⟩ := ask_nums a.lo a.hi b.lo b.hi j (by omega) ha.lo ha.hi hb.lo hb.hi h2.1 h2.2 h
    exact ⟨n1, n3⟩
  · refine nil_wd ?_ h
    have hn := ask_nil e a.lo a.hi b.lo b.hi j (by omega)
    rcases (show j = 0 ∨ j = 1 ∨ j = 2 ∨ j = 3 ∨ j = 4 ∨ j = 5 by omega) with rfl | rfl | rfl | rfl | rfl | rfl <;> exact hn
theorem st1_wd {j : Nat} (hj : j = 6 ∨ j = 7 ∨ j = 8) (e : Int) {a : Res} (ha : Wd a) : Wd (stepI e (ivR a.lo a.hi) (askI a.lo a.hi a.lo a.hi j)) := by
  by_cases h : (stepI e (ivR a.lo a.hi) (askI a.lo a.hi a.lo a.hi j)).e = 0
  · obtain ⟨_, h2, h3⟩ := st_none h
    rw [h3] at h ⊢
    obtain ⟨n1, _, n3, _⟩ := ask_nums a.lo a.hi a.lo a.hi j (by omega) ha.lo ha.hi ha.lo ha.hi h2 h2 h
    exact ⟨n1, n3⟩
  · refine nil_wd ?_ h
    have hn := ask_nil e a.lo a.hi a.lo a.hi j (by omega)
    rcases hj with rfl | rfl | rfl <;> exact hn

section
variable {a b p q r s k : Res} (e : Int) (ha : Wd a) (hb : Wd b)
include ha hb in
theorem stA_wd : Wd (stA e a b) := st2_wd (j := 0) (by decide) e ha hb
include ha hb in
theorem stS_wd : Wd (stS e a b) := st2_wd (j := 1) (by decide) e ha hb
include ha hb in
theorem stM_wd : Wd (stM e a b) := st2_wd (j := 2) (by decide) e ha hb
include ha in
theorem stQ_wd : Wd (stQ e a) := st1_wd (j := 6) (by decide) e ha
include ha in
theorem stR_wd : Wd (stR e a) := st1_wd (j := 7) (by decide) e ha
include ha in
theorem stN_wd : Wd (stN e a) := st1_wd (j := 8) (by decide) e ha
end

structure WdV (a : V3) : Prop where
  x : Wd a.x
  y : Wd a.y
  z : Wd a.z
theorem FitV.wd {a : V3} (h : FitV a) : WdV a := ⟨h.x.wd, h.y.wd, h.z.wd⟩

section
variable {a b : V3} {k : Res} (e : Int) (ha : WdV a) (hb : WdV b) (hk : Wd k)
include ha hb in
theorem both_wd {f : Int → Res → Res → Res} (hf : ∀ (e : Int) {a b : Res}, Wd a → Wd b → Wd (f e a b)) : WdV (bothV f e a b) := ⟨hf _ ha.x hb.x, hf _ ha.y hb.y, hf _ ha.z hb.z⟩
include ha in
theorem each_wd {f : Int → Res → Res} (hf : ∀ (e : Int) {a : Res}, Wd a → Wd (f e a)) : WdV (eachV f e a) := ⟨hf _ ha.x, hf _ ha.y, hf _ ha.z⟩
include ha hb in
theorem addV_wd : WdV (addV e a b) := both_wd e ha hb (fun e _ _ => stA_wd e)
include ha hb in
theorem subV_wd : WdV (subV e a b) := both_wd e ha hb (fun e _ _ => stS_wd e)
include ha in
theorem negV_wd : WdV (negV e a) := each_wd e ha (fun e _ => stN_wd e)
include ha hk in
theorem scaleV_wd : WdV (scaleV e k a) := each_wd e ha (fun e _ h => stM_wd e hk h)
include ha hb in
theorem dotV_wd : Wd (dotV e a b) := stA_wd _ (stA_wd _ (stM_wd _ ha.x hb.x) (stM_wd _ ha.y hb.y)) (stM_wd _ ha.z hb.z)
theorem across_wd {p q r s : Res} (e : Int) (hp : Wd p) (hq : Wd q) (hr : Wd r) (hs : Wd s) : Wd (across e p q r s) := stS_wd _ (stM_wd _ hp hq) (stM_wd _ hr hs)
include ha hb in
theorem crossV_wd : WdV (crossV e a b) := ⟨across_wd _ ha.y hb.z ha.z hb.y, across_wd _ ha.z hb.x ha.x hb.z, across_wd _ ha.x hb.y ha.y hb.x⟩
include ha in
theorem normV_wd : Wd (normV e a) := stR_wd _ (stA_wd _ (stA_wd _ (stQ_wd _ ha.x) (stQ_wd _ ha.y)) (stQ_wd _ ha.z))

include ha hb in
theorem dot_any (pb : Nat) (v : World) (hC : Has1 v (pb, #[.int .i64 e])) :
    Calls Try.prog 25 #[.pointer (some ⟨pb, 0, none⟩), .agg #[.float .f64 a.x.lo, .float .f64 a.x.hi, .float .f64 a.y.lo, .float .f64 a.y.hi, .float .f64 a.z.lo, .float .f64 a.z.hi], .agg #[.float .f64 b.x.lo, .float .f64 b.x.hi, .float .f64 b.y.lo, .float .f64 b.y.hi, .float .f64 b.z.lo, .float .f64 b.z.hi]] v
      fun r w' => r = .returned (.agg #[.float .f64 (dotV e a b).lo, .float .f64 (dotV e a b).hi]) ∧ Put ⟨pb, 0, none⟩ (.int .i64 (dotV e a b).e) v w' := by
  have m1 := stM_wd e ha.x hb.x
  have m2 := stM_wd (dot1 e a b).e ha.y hb.y
  have m3 := stA_wd (dot2 e a b).e m1 m2
  have m4 := stM_wd (dot3 e a b).e ha.z hb.z
  exact dot_walk _ _ _ _ _ _ _ _ _ _ _ _ _ _ _ _ _ _ _ _ _ _ e _ _ _ _ _ pb v hC (Lib.hid (ce_mul e ha.x hb.x pb)) (Lib.hid (ce_mul _ ha.y hb.y pb)) (Lib.hid (ce_add _ m1 m2 pb)) (Lib.hid (ce_mul _ ha.z hb.z pb)) (Lib.hid (ce_add _ m3 m4 pb))

include ha in
theorem norm_any (pb : Nat) (v : World) (hC : Has1 v (pb, #[.int .i64 e])) :
    Calls Try.prog 9 #[.pointer (some ⟨pb, 0, none⟩), .agg #[.float .f64 a.x.lo, .float .f64 a.x.hi, .float .f64 a.y.lo, .float .f64 a.y.hi, .float .f64 a.z.lo, .float .f64 a.z.hi]] v
      fun r w' => r = .returned (.agg #[.float .f64 (normV e a).lo, .float .f64 (normV e a).hi]) ∧ Put ⟨pb, 0, none⟩ (.int .i64 (normV e a).e) v w' := by
  have m1 := stQ_wd e ha.x
  have m2 := stQ_wd (nrm1 e a).e ha.y
  have m3 := stA_wd (nrm2 e a).e m1 m2
  have m4 := stQ_wd (nrm3 e a).e ha.z
  have m5 := stA_wd (nrm4 e a).e m3 m4
  exact norm_walk _ _ _ _ _ _ _ _ _ _ _ _ _ _ _ _ _ _ e _ _ _ _ _ _ pb v hC (Lib.hid (ce_sqr e ha.x pb)) (Lib.hid (ce_sqr _ ha.y pb)) (Lib.hid (ce_add _ m1 m2 pb)) (Lib.hid (ce_sqr _ ha.z pb)) (Lib.hid (ce_add _ m3 m4 pb)) (Lib.hid (ce_sqrt _ m5 pb))

include ha hb in
theorem vcross_any (pb : Nat) (v : World) (hC : Has1 v (pb, #[.int .i64 e])) :
    Calls Try.prog 26 #[.pointer (some ⟨pb, 0, none⟩), .agg #[.float .f64 a.x.lo, .float .f64 a.x.hi, .float .f64 a.y.lo, .float .f64 a.y.hi, .float .f64 a.z.lo, .float .f64 a.z.hi], .agg #[.float .f64 b.x.lo, .float .f64 b.x.hi, .float .f64 b.y.lo, .float .f64 b.y.hi, .float .f64 b.z.lo, .float .f64 b.z.hi]] v
      fun r w' => r = .returned (.agg #[.float .f64 (crossV e a b).x.lo, .float .f64 (crossV e a b).x.hi, .float .f64 (crossV e a b).y.lo, .float .f64 (crossV e a b).y.hi, .float .f64 (crossV e a b).z.lo, .float .f64 (crossV e a b).z.hi]) ∧ Put ⟨pb, 0, none⟩ (.int .i64 (crossV e a b).z.e) v w' := by
  have A : ∀ {p q r s : Res} (e : Int), Wd p → Wd q → Wd r → Wd s → ∀ (cp : Nat) (v : World), Has1 v (pb, #[.int .i64 e]) → Has1 v (cp, #[.pointer (some ⟨pb, 0, none⟩)]) → pb ≠ cp →
      Calls Try.prog 41 #[.agg #[.float .f64 p.lo, .float .f64 p.hi], .agg #[.float .f64 q.lo, .float .f64 q.hi], .agg #[.float .f64 r.lo, .float .f64 r.hi], .agg #[.float .f64 s.lo, .float .f64 s.hi], .pointer (some ⟨cp, 0, none⟩)] v
        fun x w' => x = .returned (.agg #[.float .f64 (across e p q r s).lo, .float .f64 (across e p q r s).hi]) ∧ Put ⟨pb, 0, none⟩ (.int .i64 (across e p q r s).e) v w' := fun e hp hq hr hs cp v hC hP n1 =>
    across_walk _ _ _ _ _ _ _ _ _ _ _ _ _ _ e _ _ _ pb cp v hC hP n1 (Lib.hid (ce_mul e hp hq pb)) (Lib.hid (ce_mul _ hr hs pb)) (Lib.hid (ce_sub _ (stM_wd e hp hq) (stM_wd _ hr hs) pb))
  exact cross_walk _ _ _ _ _ _ _ _ _ _ _ _ _ _ _ _ _ _ e _ _ _ pb v hC (Lib.hid (A e ha.y hb.z ha.z hb.y)) (Lib.hid (A _ ha.z hb.x ha.x hb.z)) (Lib.hid (A _ ha.x hb.y ha.y hb.x))
end

end Go.Proofs.Ytlibfeegdjbhcaa

namespace Go.Proofs.Ytlibfeegdjbhcaa
open Go.RowKit
attribute [local go_sem] run_store_float

set_option maxRecDepth 100000 in
set_option maxHeartbeats 4000000 in
/-- Unit's literal: a quotient, and what of it is from -1 to 1. -/
theorem unitLit_walk (xl xh ll lh ql qh ml mh : Nat) (b : Bool) (e e1 : Int) (pb lp : Nat) (w : World) (hC : Has1 w (pb, #[.int .i64 e])) (hL : Has1 w (lp, #[.float .f64 ll, .float .f64 lh])) (n1 : pb ≠ lp)
    (cD : Hid (CE2 19 pb e e1 xl xh ll lh ql qh))
    (cM : Hid (∀ w, Calls Try.prog 18 #[.agg #[.float .f64 ql, .float .f64 qh], .agg #[.float .f64 13830554455654793216, .float .f64 4607182418800017408]] w fun r w' => r = .returned (.tuple #[.agg #[.float .f64 ml, .float .f64 mh], .bool b]) ∧ Below w.heap.size w w')) :
    Calls Try.prog 17 #[.agg #[.float .f64 xl, .float .f64 xh], .pointer (some ⟨pb, 0, none⟩), .pointer (some ⟨lp, 0, none⟩)] w fun r w' => r = .returned (.agg #[.float .f64 ml, .float .f64 mh]) ∧ Put ⟨pb, 0, none⟩ (.int .i64 e1) w w' := by
  have E := Lib.hid ((((EnvE.start hC).add hL n1).made #[.float .f64 xl, .float .f64 xh] 26).made #[.float .f64 0, .float .f64 0] 26)
  simp only [World.size_alloc] at E
  obtain ⟨k1, k2⟩ := (E.out.nth 1 rfl).two
  obtain ⟨k3, k4⟩ := (E.out.nth 2 rfl).two
  clear hC hL n1
  go_enter Try.func17, Try.ntmps17
  go_wp2_with fail
  refine (cD.out _ E.out.cal).mono ?_
  rintro r w1 ⟨rfl, hp⟩
  have E1 := Lib.hid (E.out.putc hp)
  clear E hp k1 k2 k3 k4
  go_wp2_with fail
  refine (cM.out _).mono ?_
  rintro r w2 ⟨rfl, hb⟩
  have E2 := Lib.hid ((E1.out.below hb).made #[.float .f64 ml, .float .f64 mh] 26)
  clear E1 hb
  obtain ⟨k1, k2⟩ := (E2.out.nth 0 rfl).two
  have kc := (E2.out.nth 1 rfl).2.1
  have kf := (E2.out.nth 1 rfl).2.2
  have F := Lib.hid (E2.out.set2 (E2.out.nth 1 rfl) (E2.out.ne 1 rfl) (by omega) (.float .f64 ml) (.float .f64 mh))
  go_wp2
  obtain ⟨f1, f2⟩ := (F.out.nth 0 rfl).two
  exact bodyPost_ret (v := .agg #[.float .f64 ml, .float .f64 mh]) (by simp [results, Try.results17, go_sem, f1, f2]) rfl ⟨rfl, F.out.put⟩

set_option maxRecDepth 100000 in
set_option maxHeartbeats 4000000 in
/-- The parts of a unit vector. -/
theorem each_unit (axl axh ayl ayh azl azh rxl rxh ryl ryh rzl rzh ll lh : Nat) (e e1 e2 e3 : Int) (pb lp : Nat) (w : World) (hC : Has1 w (pb, #[.int .i64 e])) (hP : Has1 w (lp, #[.float .f64 ll, .float .f64 lh])) (n1 : pb ≠ lp)
    (d1 : Hid (∀ v : World, Has1 v (pb, #[.int .i64 e]) → Has1 v (lp, #[.float .f64 ll, .float .f64 lh]) → pb ≠ lp → Calls Try.prog 17 #[.agg #[.float .f64 axl, .float .f64 axh], .pointer (some ⟨pb, 0, none⟩), .pointer (some ⟨lp, 0, none⟩)] v fun r w' => r = .returned (.agg #[.float .f64 rxl, .float .f64 rxh]) ∧ Put ⟨pb, 0, none⟩ (.int .i64 e1) v w')) (d2 : Hid (∀ v : World, Has1 v (pb, #[.int .i64 e1]) → Has1 v (lp, #[.float .f64 ll, .float .f64 lh]) → pb ≠ lp → Calls Try.prog 17 #[.agg #[.float .f64 ayl, .float .f64 ayh], .pointer (some ⟨pb, 0, none⟩), .pointer (some ⟨lp, 0, none⟩)] v fun r w' => r = .returned (.agg #[.float .f64 ryl, .float .f64 ryh]) ∧ Put ⟨pb, 0, none⟩ (.int .i64 e2) v w')) (d3 : Hid (∀ v : World, Has1 v (pb, #[.int .i64 e2]) → Has1 v (lp, #[.float .f64 ll, .float .f64 lh]) → pb ≠ lp → Calls Try.prog 17 #[.agg #[.float .f64 azl, .float .f64 azh], .pointer (some ⟨pb, 0, none⟩), .pointer (some ⟨lp, 0, none⟩)] v fun r w' => r = .returned (.agg #[.float .f64 rzl, .float .f64 rzh]) ∧ Put ⟨pb, 0, none⟩ (.int .i64 e3) v w')) :
    Calls Try.prog 16 #[.agg #[.float .f64 axl, .float .f64 axh, .float .f64 ayl, .float .f64 ayh, .float .f64 azl, .float .f64 azh], .func (.func 17) #[] #[.pointer (some ⟨pb, 0, none⟩), .pointer (some ⟨lp, 0, none⟩)]] w fun r w' => r = .returned (.agg #[.float .f64 rxl, .float .f64 rxh, .float .f64 ryl, .float .f64 ryh, .float .f64 rzl, .float .f64 rzh]) ∧ Put ⟨pb, 0, none⟩ (.int .i64 e3) w w' := by
  have E := Lib.hid (((((EnvE.start hC).add hP n1)).made #[.float .f64 axl, .float .f64 axh, .float .f64 ayl, .float .f64 ayh, .float .f64 azl, .float .f64 azh] 28).made #[.float .f64 0, .float .f64 0, .float .f64 0, .float .f64 0, .float .f64 0, .float .f64 0] 28)
  simp only [World.size_alloc] at E
  
  go_enter Try.func16, Try.ntmps16
  go_upto_region 1 with fail
  revert E
  generalize ((w.alloc (.cells #[.float .f64 axl, .float .f64 axh, .float .f64 ayl, .float .f64 ayh, .float .f64 azl, .float .f64 azh] 28)).alloc (.cells #[.float .f64 0, .float .f64 0, .float .f64 0, .float .f64 0, .float .f64 0, .float .f64 0] 28)) = W
  intro E
  obtain ⟨k1, k2, k3, k4, k5, k6⟩ := (E.out.nth 1 rfl).six; have kc := (E.out.nth 0 rfl).2.1; have kf := (E.out.nth 0 rfl).2.2
  go_region_held3 (fun w' => w'.cell? ⟨w.heap.size, 0, none⟩ = some (.float .f64 axl) ∧ w'.cell? ⟨w.heap.size, 1, none⟩ = some (.float .f64 axh) ∧ w'.cell? ⟨w.heap.size, 2, none⟩ = some (.float .f64 ayl) ∧ w'.cell? ⟨w.heap.size, 3, none⟩ = some (.float .f64 ayh) ∧ w'.cell? ⟨w.heap.size, 4, none⟩ = some (.float .f64 azl) ∧ w'.cell? ⟨w.heap.size, 5, none⟩ = some (.float .f64 azh)) (((try dsimp only); (repeat' apply And.intro); all_goals (repeat (first | (with_reducible assumption) | ((with_reducible refine keep_undrew ?_); (with_reducible assumption)) | (with_reducible refine keep_drew ?_) | (with_reducible refine keep_alloc _ ?_) | (with_reducible refine keep_set _ (by first | (with_reducible assumption) | omega) ?_)))))
    (first
      | (go_at_call 17; (with_reducible refine (d1.out _ E.out.drew.cal (E.out.drew.nth 2 rfl) (E.out.drew.ne 2 rfl)).mono ?_); rintro rr w5 ⟨rfl, hp⟩; have E' := Lib.hid (E.out.drew.putc hp); clear E hp k1 k2 k3 k4 k5 k6 kc kf; have E := E'; clear E'; obtain ⟨k1, k2, k3, k4, k5, k6⟩ := (E.out.nth 1 rfl).six; have kc := (E.out.nth 0 rfl).2.1; have kf := (E.out.nth 0 rfl).2.2)
      | (go_at_call 17; (with_reducible refine (d2.out _ E.out.cal (E.out.nth 2 rfl) (E.out.ne 2 rfl)).mono ?_); rintro rr w5 ⟨rfl, hp⟩; have E' := Lib.hid (E.out.putc hp); clear E hp k1 k2 k3 k4 k5 k6 kc kf; have E := E'; clear E'; obtain ⟨k1, k2, k3, k4, k5, k6⟩ := (E.out.nth 1 rfl).six; have kc := (E.out.nth 0 rfl).2.1; have kf := (E.out.nth 0 rfl).2.2)
      | (go_at_call 17; (with_reducible refine (d3.out _ E.out.cal (E.out.nth 2 rfl) (E.out.ne 2 rfl)).mono ?_); rintro rr w5 ⟨rfl, hp⟩; have E' := Lib.hid (E.out.putc hp); clear E hp k1 k2 k3 k4 k5 k6 kc kf; have E := E'; clear E'; obtain ⟨k1, k2, k3, k4, k5, k6⟩ := (E.out.nth 1 rfl).six; have kc := (E.out.nth 0 rfl).2.1; have kf := (E.out.nth 0 rfl).2.2))
  have F := Lib.hid (E.out.set6 (E.out.nth 0 rfl) (E.out.ne 0 rfl) (by omega) (.float .f64 rxl) (.float .f64 rxh) (.float .f64 ryl) (.float .f64 ryh) (.float .f64 rzl) (.float .f64 rzh))
  go_wp2
  obtain ⟨f1, f2, f3, f4, f5, f6⟩ := (F.out.nth 0 rfl).six
  exact bodyPost_ret (v := .agg #[.float .f64 rxl, .float .f64 rxh, .float .f64 ryl, .float .f64 ryh, .float .f64 rzl, .float .f64 rzh]) (by simp [results, Try.results16, go_sem, f1, f2, f3, f4, f5, f6]) rfl ⟨rfl, F.out.put⟩

end Go.Proofs.Ytlibfeegdjbhcaa

namespace Go.Proofs.Ytlibfeegdjbhcaa
open Go.RowKit
attribute [local go_sem] run_store_float

theorem run_max3 (a b c : Nat) (ha : a < 18446744073709551616) (hb : b < 18446744073709551616) (hc : c < 18446744073709551616) (ra : rightB a = true) (rb : rightB b = true) (rc : rightB c = true) (ts : Array TypeId) (t : TypeId) (w : World) :
    (Builtin.max_ ts t #[.float .f64 a, .float .f64 b, .float .f64 c]).run Try.prog w = .ok (.float .f64 (maxW (maxW a b) c)) w := by
  obtain ⟨m1, m2, _⟩ := max_facts a b ha hb ra rb
  have h1 := (run_less a b ha hb ra rb #[] 0 w).2
  have h2 := (run_less (maxW a b) c m1 hc m2 rc #[] 0 w).2
  simp [Builtin.max_] at h1 h2 ⊢
  simp [h1, h2]

theorem Has1.three {v : World} {b : Nat} {x y z : Value} (h : Has1 v (b, #[x, y, z])) : v.cell? ⟨b, 0, none⟩ = some x ∧ v.cell? ⟨b, 1, none⟩ = some y ∧ v.cell? ⟨b, 2, none⟩ = some z := ⟨h.2.1 0, h.2.1 1, h.2.1 2⟩

abbrev CalcR (x : Nat) (b : Bool) : Prop := ∀ w : World, Calls Try.prog 22 #[.float .f64 x] w fun r w' => r = .returned (.bool b) ∧ w = w'
abbrev CalcAbs (x r : Nat) : Prop := ∀ w : World, Calls Try.prog 5 #[.float .f64 x] w fun e w' => e = .returned (.float .f64 r) ∧ w = w'

set_option maxRecDepth 100000 in
theorem hasUnit_bad (x y z : Nat) (rx ry rz : Bool) (w : World) (h : Hid ((rx && ry && rz) = false)) (c1 : Hid (CalcR x rx)) (c2 : Hid (CalcR y ry)) (c3 : Hid (CalcR z rz)) :
    Calls Try.prog 14 #[.agg #[.float .f64 x, .float .f64 y, .float .f64 z]] w fun r w' => r = .returned (.bool false) ∧ Below w.heap.size w w' := by
  have M := Lib.hid ((Own.nil w).made #[.float .f64 x, .float .f64 y, .float .f64 z] 24)
  obtain ⟨k1, k2, k3⟩ := (M.out.nth 0 rfl).three
  cases rx
  · go_enter Try.func14, Try.ntmps14
    go_wp2_with fail
    refine (c1.out _).mono ?_
    rintro r ww ⟨rfl, rfl⟩
    go_wp2
    go_ret
    exact ⟨rfl, M.out.base⟩
  · cases ry
    · go_enter Try.func14, Try.ntmps14
      go_wp2_with fail
      refine (c1.out _).mono ?_
      rintro r ww ⟨rfl, rfl⟩
      go_wp2_with fail
      refine (c2.out _).mono ?_
      rintro r ww ⟨rfl, rfl⟩
      go_wp2
      go_ret
      exact ⟨rfl, M.out.base⟩
    · obtain rfl : rz = false := h.out
      go_enter Try.func14, Try.ntmps14
      go_wp2_with fail
      refine (c1.out _).mono ?_
      rintro r ww ⟨rfl, rfl⟩
      go_wp2_with fail
      refine (c2.out _).mono ?_
      rintro r ww ⟨rfl, rfl⟩
      go_wp2_with fail
      refine (c3.out _).mono ?_
      rintro r ww ⟨rfl, rfl⟩
      go_wp2
      go_ret
      exact ⟨rfl, M.out.base⟩

set_option maxRecDepth 100000 in
set_option maxHeartbeats 4000000 in
theorem hasUnit_walk (x y z p q s m : Nat) (b1 b2 : Bool) (w : World) (c1 : Hid (CalcR x true)) (c2 : Hid (CalcR y true)) (c3 : Hid (CalcR z true))
    (a1 : Hid (CalcAbs x p)) (a2 : Hid (CalcAbs y q)) (a3 : Hid (CalcAbs z s)) (hm : ∀ ts t w, (Builtin.max_ ts t #[.float .f64 p, .float .f64 q, .float .f64 s]).run Try.prog w = .ok (.float .f64 m) w)
    (o1 : ((FloatKind.f64.format.order 4318952042648305664 m == some Ordering.lt) || (FloatKind.f64.format.order 4318952042648305664 m == some Ordering.eq)) = b1)
    (o2 : ((FloatKind.f64.format.order m 4895412794951729152 == some Ordering.lt) || (FloatKind.f64.format.order m 4895412794951729152 == some Ordering.eq)) = b2) :
    Calls Try.prog 14 #[.agg #[.float .f64 x, .float .f64 y, .float .f64 z]] w fun r w' => r = .returned (.bool (b1 && b2)) ∧ Below w.heap.size w w' := by
  have M := Lib.hid ((Own.nil w).made #[.float .f64 x, .float .f64 y, .float .f64 z] 24)
  obtain ⟨k1, k2, k3⟩ := (M.out.nth 0 rfl).three
  go_enter Try.func14, Try.ntmps14
  go_wp2_with fail
  refine (c1.out _).mono ?_
  rintro r ww ⟨rfl, rfl⟩
  go_wp2_with fail
  refine (c2.out _).mono ?_
  rintro r ww ⟨rfl, rfl⟩
  go_wp2_with fail
  refine (c3.out _).mono ?_
  rintro r ww ⟨rfl, rfl⟩
  go_upto_region 3 with fail
  clear c1 c2 c3
  revert M k1 k2 k3
  generalize w.alloc (.cells #[.float .f64 x, .float .f64 y, .float .f64 z] 24) = W
  intro M k1 k2 k3
  go_region_held3 (fun w' => w'.cell? ⟨w.heap.size, 0, none⟩ = some (.float .f64 x) ∧ w'.cell? ⟨w.heap.size, 1, none⟩ = some (.float .f64 y) ∧ w'.cell? ⟨w.heap.size, 2, none⟩ = some (.float .f64 z)) (((try dsimp only); (repeat' apply And.intro); all_goals (repeat (first | (with_reducible assumption) | ((with_reducible refine keep_undrew ?_); (with_reducible assumption)) | (with_reducible refine keep_drew ?_)))))
    (first
      | (go_at_call 5; (with_reducible refine (a1.out _).mono ?_); rintro rr w5 ⟨rfl, rfl⟩)
      | (go_at_call 5; (with_reducible refine (a2.out _).mono ?_); rintro rr w5 ⟨rfl, rfl⟩)
      | (go_at_call 5; (with_reducible refine (a3.out _).mono ?_); rintro rr w5 ⟨rfl, rfl⟩))
  cases b1
  · go_wp2
    go_ret
    exact ⟨rfl, M.out.base.drew⟩
  · go_wp2
    go_ret
    exact ⟨by rw [← o2]; rfl, M.out.base.drew⟩

end Go.Proofs.Ytlibfeegdjbhcaa

namespace Go.Proofs.Ytlibfeegdjbhcaa
open Go.RowKit
attribute [local go_sem] run_store_float

abbrev CalcV (f : FuncId) (pb : Nat) (a0 a1 a2 a3 a4 a5 nl nh : Nat) : Prop := ∀ v : World, Has1 v (pb, #[.int .i64 0]) → Calls Try.prog f #[.pointer (some ⟨pb, 0, none⟩), .agg #[.float .f64 a0, .float .f64 a1, .float .f64 a2, .float .f64 a3, .float .f64 a4, .float .f64 a5]] v fun r w' => r = .returned (.agg #[.float .f64 nl, .float .f64 nh]) ∧ Put ⟨pb, 0, none⟩ (.int .i64 0) v w'

/-- Region 4 of Unit: three numbers, and a block, made at any time. -/
def UnitJ (w : World) (x y z pb : Nat) (a0 : Act) (k : Nat) (p : List (Option Nat)) (a : Act) (v : World) : Prop :=
  ∃ y1 y2 y3 y4 z1 : Value, a = (((((a0.put (some 13) y1).put (some 16) y2).put (some 19) y3).put (some 20) y4).put (some 5) z1) ∧
    (0 < k → y1 = .agg #[.float .f64 x, .float .f64 x]) ∧
    (1 < k → y2 = .agg #[.float .f64 y, .float .f64 y]) ∧
    (2 < k → y3 = .agg #[.float .f64 z, .float .f64 z]) ∧
    (3 < k → y4 = .agg #[.float .f64 x, .float .f64 x, .float .f64 y, .float .f64 y, .float .f64 z, .float .f64 z]) ∧
    (∀ q, p[0]? = some (some q) → z1 = .pointer (some ⟨q, 0, none⟩)) ∧
    OwnF w [(pb, #[.int .i64 0]), (w.heap.size + 1, #[.float .f64 0, .float .f64 0, .float .f64 0, .float .f64 0, .float .f64 0, .float .f64 0]), (w.heap.size, #[.float .f64 x, .float .f64 y, .float .f64 z])] [#[.float .f64 0, .float .f64 0, .float .f64 0, .float .f64 0, .float .f64 0, .float .f64 0]] p v

theorem UnitJ_0 {w : World} {x y z pb : Nat} {a0 a : Act} {p : List (Option Nat)} {v : World} (h : UnitJ w x y z pb a0 0 p a v) :
    ∃ y1 y2 y3 y4 z1 : Value, a = (((((a0.put (some 13) y1).put (some 16) y2).put (some 19) y3).put (some 20) y4).put (some 5) z1) ∧ (∀ q, p[0]? = some (some q) → z1 = .pointer (some ⟨q, 0, none⟩)) ∧ OwnF w [(pb, #[.int .i64 0]), (w.heap.size + 1, #[.float .f64 0, .float .f64 0, .float .f64 0, .float .f64 0, .float .f64 0, .float .f64 0]), (w.heap.size, #[.float .f64 x, .float .f64 y, .float .f64 z])] [#[.float .f64 0, .float .f64 0, .float .f64 0, .float .f64 0, .float .f64 0, .float .f64 0]] p v := by
  obtain ⟨y1, y2, y3, y4, z1, ha, hhe1, hhe2, hhe3, hhe4, hhg1, h⟩ := h
  exact ⟨y1, y2, y3, y4, z1, ha, hhg1, h⟩
theorem UnitJ_1 {w : World} {x y z pb : Nat} {a0 a : Act} {p : List (Option Nat)} {v : World} (h : UnitJ w x y z pb a0 1 p a v) :
    ∃ y2 y3 y4 z1 : Value, a = (((((a0.put (some 13) (.agg #[.float .f64 x, .float .f64 x])).put (some 16) y2).put (some 19) y3).put (some 20) y4).put (some 5) z1) ∧ (∀ q, p[0]? = some (some q) → z1 = .pointer (some ⟨q, 0, none⟩)) ∧ OwnF w [(pb, #[.int .i64 0]), (w.heap.size + 1, #[.float .f64 0, .float .f64 0, .float .f64 0, .float .f64 0, .float .f64 0, .float .f64 0]), (w.heap.size, #[.float .f64 x, .float .f64 y, .float .f64 z])] [#[.float .f64 0, .float .f64 0, .float .f64 0, .float .f64 0, .float .f64 0, .float .f64 0]] p v := by
  obtain ⟨y1, y2, y3, y4, z1, ha, hhe1, hhe2, hhe3, hhe4, hhg1, h⟩ := h
  obtain rfl := hhe1 (by decide)
  exact ⟨y2, y3, y4, z1, ha, hhg1, h⟩
theorem UnitJ_2 {w : World} {x y z pb : Nat} {a0 a : Act} {p : List (Option Nat)} {v : World} (h : UnitJ w x y z pb a0 2 p a v) :
    ∃ y3 y4 z1 : Value, a = (((((a0.put (some 13) (.agg #[.float .f64 x, .float .f64 x])).put (some 16) (.agg #[.float .f64 y, .float .f64 y])).put (some 19) y3).put (some 20) y4).put (some 5) z1) ∧ (∀ q, p[0]? = some (some q) → z1 = .pointer (some ⟨q, 0, none⟩)) ∧ OwnF w [(pb, #[.int .i64 0]), (w.heap.size + 1, #[.float .f64 0, .float .f64 0, .float .f64 0, .float .f64 0, .float .f64 0, .float .f64 0]), (w.heap.size, #[.float .f64 x, .float .f64 y, .float .f64 z])] [#[.float .f64 0, .float .f64 0, .float .f64 0, .float .f64 0, .float .f64 0, .float .f64 0]] p v := by
  obtain ⟨y1, y2, y3, y4, z1, ha, hhe1, hhe2, hhe3, hhe4, hhg1, h⟩ := h
  obtain rfl := hhe1 (by decide)
  obtain rfl := hhe2 (by decide)
  exact ⟨y3, y4, z1, ha, hhg1, h⟩
theorem UnitJ_3 {w : World} {x y z pb : Nat} {a0 a : Act} {p : List (Option Nat)} {v : World} (h : UnitJ w x y z pb a0 3 p a v) :
    ∃ y4 z1 : Value, a = (((((a0.put (some 13) (.agg #[.float .f64 x, .float .f64 x])).put (some 16) (.agg #[.float .f64 y, .float .f64 y])).put (some 19) (.agg #[.float .f64 z, .float .f64 z])).put (some 20) y4).put (some 5) z1) ∧ (∀ q, p[0]? = some (some q) → z1 = .pointer (some ⟨q, 0, none⟩)) ∧ OwnF w [(pb, #[.int .i64 0]), (w.heap.size + 1, #[.float .f64 0, .float .f64 0, .float .f64 0, .float .f64 0, .float .f64 0, .float .f64 0]), (w.heap.size, #[.float .f64 x, .float .f64 y, .float .f64 z])] [#[.float .f64 0, .float .f64 0, .float .f64 0, .float .f64 0, .float .f64 0, .float .f64 0]] p v := by
  obtain ⟨y1, y2, y3, y4, z1, ha, hhe1, hhe2, hhe3, hhe4, hhg1, h⟩ := h
  obtain rfl := hhe1 (by decide)
  obtain rfl := hhe2 (by decide)
  obtain rfl := hhe3 (by decide)
  exact ⟨y4, z1, ha, hhg1, h⟩
theorem UnitJ_fin {w : World} {x y z pb : Nat} {qq1 : Nat} {a0 a : Act} {v : World} (h : UnitJ w x y z pb a0 4 [some qq1] a v) :
    a = (((((a0.put (some 13) (.agg #[.float .f64 x, .float .f64 x])).put (some 16) (.agg #[.float .f64 y, .float .f64 y])).put (some 19) (.agg #[.float .f64 z, .float .f64 z])).put (some 20) (.agg #[.float .f64 x, .float .f64 x, .float .f64 y, .float .f64 y, .float .f64 z, .float .f64 z])).put (some 5) (.pointer (some ⟨qq1, 0, none⟩))) ∧ OwnF w [(pb, #[.int .i64 0]), (w.heap.size + 1, #[.float .f64 0, .float .f64 0, .float .f64 0, .float .f64 0, .float .f64 0, .float .f64 0]), (w.heap.size, #[.float .f64 x, .float .f64 y, .float .f64 z])] [#[.float .f64 0, .float .f64 0, .float .f64 0, .float .f64 0, .float .f64 0, .float .f64 0]] [some qq1] v := by
  obtain ⟨y1, y2, y3, y4, z1, ha, hhe1, hhe2, hhe3, hhe4, hhg1, h⟩ := h
  obtain rfl := hhe1 (by decide)
  obtain rfl := hhe2 (by decide)
  obtain rfl := hhe3 (by decide)
  obtain rfl := hhe4 (by decide)
  obtain rfl := hhg1 _ rfl
  exact ⟨ha, h⟩

set_option maxRecDepth 100000 in
set_option maxHeartbeats 4000000 in
theorem unit_walk (x y z nl nh ul uh vl vh tl th : Nat) (w : World)
    (cU : Hid (∀ w, Calls Try.prog 14 #[.agg #[.float .f64 x, .float .f64 y, .float .f64 z]] w fun r w' => r = .returned (.bool true) ∧ Below w.heap.size w w'))
    (c1 : Hid (∀ pb, CalcN pb x)) (c2 : Hid (∀ pb, CalcN pb y)) (c3 : Hid (∀ pb, CalcN pb z)) (cN : Hid (∀ pb, CalcV 9 pb x x y y z z nl nh))
    (cE : Hid (∀ (pb lp : Nat) (v : World), Has1 v (pb, #[.int .i64 0]) → Has1 v (lp, #[.float .f64 nl, .float .f64 nh]) → pb ≠ lp → Calls Try.prog 16 #[.agg #[.float .f64 x, .float .f64 x, .float .f64 y, .float .f64 y, .float .f64 z, .float .f64 z], .func (.func 17) #[] #[.pointer (some ⟨pb, 0, none⟩), .pointer (some ⟨lp, 0, none⟩)]] v fun r w' => r = .returned (.agg #[.float .f64 ul, .float .f64 uh, .float .f64 vl, .float .f64 vh, .float .f64 tl, .float .f64 th]) ∧ Put ⟨pb, 0, none⟩ (.int .i64 0) v w')) :
    Calls Try.prog 4 #[.agg #[.float .f64 x, .float .f64 y, .float .f64 z]] w fun r w' => r = .returned (.tuple #[.agg #[.float .f64 ul, .float .f64 uh, .float .f64 vl, .float .f64 vh, .float .f64 tl, .float .f64 th], .int .i64 0]) ∧ Below w.heap.size w w' := by
  have M := Lib.hid (((Own.nil w).made #[.float .f64 x, .float .f64 y, .float .f64 z] 24).made #[.float .f64 0, .float .f64 0, .float .f64 0, .float .f64 0, .float .f64 0, .float .f64 0] 28)
  simp only [World.size_alloc] at M
  obtain ⟨k1, k2, k3⟩ := (M.out.nth 1 rfl).three
  go_enter Try.func4, Try.ntmps4
  go_wp2_with fail
  refine (cU.out _).mono ?_
  rintro r w1 ⟨rfl, hb⟩
  have M0 := Lib.hid (M.out.below hb)
  clear hb k1 k2 k3 M cU
  go_upto_region 4 with fail
  have M := Lib.hid ((M0.out.made #[.int .i64 0] 37).drew)
  clear M0
  obtain ⟨k1, k2, k3⟩ := (M.out.nth 2 rfl).three
  refine wp_region_noPanic ?_
  refine tails_region (S := fun w' => w'.cell? ⟨w.heap.size, 0, none⟩ = some (.float .f64 x) ∧ w'.cell? ⟨w.heap.size, 1, none⟩ = some (.float .f64 y) ∧ w'.cell? ⟨w.heap.size, 2, none⟩ = some (.float .f64 z)) [11] (by kernel_rfl) ?_ (fun hS => ?_)
  · exact ⟨k1, k2, k3⟩
  refine tails_take (T := [11]) (i := 0) (o := _) (x := ?_) rfl (by kernel_rfl) (by kernel_rfl) (by kernel_rfl) (by kernel_rfl) (fun _ _ _ h => h) (Or.inl ⟨by rfl, ?_⟩) (by assumption) ?_
  rotate_left; focus (intro w hSw; (try dsimp only at hSw); go_simp; first | done | with_reducible rfl)
  refine tails_take (T := [11]) (i := 1) (o := _) (x := ?_) rfl (by kernel_rfl) (by kernel_rfl) (by kernel_rfl) (by kernel_rfl) (fun _ _ _ h => h) (Or.inl ⟨by rfl, ?_⟩) (by assumption) ?_
  rotate_left; focus (intro w hSw; (try dsimp only at hSw); go_simp; first | done | with_reducible rfl)
  refine tails_take (T := [11]) (i := 3) (o := _) (x := ?_) rfl (by kernel_rfl) (by kernel_rfl) (by kernel_rfl) (by kernel_rfl) (fun _ _ _ h => h) (Or.inl ⟨by rfl, ?_⟩) (by assumption) ?_
  rotate_left; focus (intro w hSw; (try dsimp only at hSw); go_simp; first | done | with_reducible rfl)
  refine tails_take (T := [11]) (i := 4) (o := _) (x := ?_) rfl (by kernel_rfl) (by kernel_rfl) (by kernel_rfl) (by kernel_rfl) (fun _ _ _ h => h) (Or.inl ⟨by rfl, ?_⟩) (by assumption) ?_
  rotate_left; focus (intro w hSw; (try dsimp only at hSw); go_simp; first | done | with_reducible rfl)
  refine tails_take (T := [11]) (i := 6) (o := _) (x := ?_) rfl (by kernel_rfl) (by kernel_rfl) (by kernel_rfl) (by kernel_rfl) (fun _ _ _ h => h) (Or.inl ⟨by rfl, ?_⟩) (by assumption) ?_
  rotate_left; focus (intro w hSw; (try dsimp only at hSw); go_simp; first | done | with_reducible rfl)
  refine tails_take (T := [11]) (i := 7) (o := _) (x := ?_) rfl (by kernel_rfl) (by kernel_rfl) (by kernel_rfl) (by kernel_rfl) (fun _ _ _ h => h) (Or.inl ⟨by rfl, ?_⟩) (by assumption) ?_
  rotate_left; focus (intro w hSw; (try dsimp only at hSw); go_simp; first | done | with_reducible rfl)
  conv => arg 9; simp only [Act.put, go_sem]
  refine lat_4_1 (T := [11]) 2 5 8 9 10 [13, 16, 19, 20, 5] 1 (UnitJ w x y z w1.heap.size) (by kernel_rfl) (by kernel_rfl) ?_ ?_ ?_ ?_ ?_ ?_ ?_ ?_
  · intro A hA
    obtain ⟨y1, hq1⟩ := put_ex (hA 13 (by simp))
    obtain ⟨y2, hq2⟩ := put_ex (hA 16 (by simp))
    obtain ⟨y3, hq3⟩ := put_ex (hA 19 (by simp))
    obtain ⟨y4, hq4⟩ := put_ex (hA 20 (by simp))
    obtain ⟨z1, hq5⟩ := put_ex (hA 5 (by simp))
    exact ⟨y1, y2, y3, y4, z1, by rw [hq1, hq2, hq3, hq4, hq5], by omega, by omega, by omega, by omega, by simp, OwnF.start M.out 1⟩
  · rintro k p a v ⟨y1, y2, y3, y4, z1, _, _, _, _, _, _, h⟩
    exact (h.own.nth 2 rfl).three
  · intro p a v hJ
    refine op_step (o := _) rfl (fun K hK => ?_)
    obtain ⟨y1, y2, y3, y4, z1, rfl, gg1, h⟩ := UnitJ_0 hJ
    have h := Lib.hid h
    clear hJ
    go_simp
    refine (c1.out _ _ (h.out.own.nth 0 rfl)).mono ?_
    rintro rr w5 ⟨rfl, hp⟩
    try go_wp2_with fail
    refine hK.out _ _ ⟨.agg #[.float .f64 x, .float .f64 x], y2, y3, y4, z1, ?_, fun _ => rfl, by omega, by omega, by omega, gg1, h.out.putAt 0 rfl hp⟩
    kernel_rfl
  · intro p a v hJ
    refine op_step (o := _) rfl (fun K hK => ?_)
    obtain ⟨y2, y3, y4, z1, rfl, gg1, h⟩ := UnitJ_1 hJ
    have h := Lib.hid h
    clear hJ
    go_simp
    refine (c2.out _ _ (h.out.own.nth 0 rfl)).mono ?_
    rintro rr w5 ⟨rfl, hp⟩
    try go_wp2_with fail
    refine hK.out _ _ ⟨.agg #[.float .f64 x, .float .f64 x], .agg #[.float .f64 y, .float .f64 y], y3, y4, z1, ?_, fun _ => rfl, fun _ => rfl, by omega, by omega, gg1, h.out.putAt 0 rfl hp⟩
    kernel_rfl
  · intro p a v hJ
    refine op_step (o := _) rfl (fun K hK => ?_)
    obtain ⟨y3, y4, z1, rfl, gg1, h⟩ := UnitJ_2 hJ
    have h := Lib.hid h
    clear hJ
    go_simp
    refine (c3.out _ _ (h.out.own.nth 0 rfl)).mono ?_
    rintro rr w5 ⟨rfl, hp⟩
    try go_wp2_with fail
    refine hK.out _ _ ⟨.agg #[.float .f64 x, .float .f64 x], .agg #[.float .f64 y, .float .f64 y], .agg #[.float .f64 z, .float .f64 z], y4, z1, ?_, fun _ => rfl, fun _ => rfl, fun _ => rfl, by omega, gg1, h.out.putAt 0 rfl hp⟩
    kernel_rfl
  · intro p a v hJ
    refine op_step (o := _) rfl (fun K hK => ?_)
    obtain ⟨y4, z1, rfl, gg1, h⟩ := UnitJ_3 hJ
    have h := Lib.hid h
    clear hJ
    go_simp
    refine hK.out _ _ ⟨.agg #[.float .f64 x, .float .f64 x], .agg #[.float .f64 y, .float .f64 y], .agg #[.float .f64 z, .float .f64 z], .agg #[.float .f64 x, .float .f64 x, .float .f64 y, .float .f64 y, .float .f64 z, .float .f64 z], z1, ?_, fun _ => rfl, fun _ => rfl, fun _ => rfl, fun _ => rfl, gg1, h.out⟩
    kernel_rfl
  · intro k p a v hp hJ
    refine op_step (o := _) rfl (fun K hK => ?_)
    obtain ⟨y1, y2, y3, y4, z1, rfl, ee1, ee2, ee3, ee4, gg1, h⟩ := hJ
    have h := Lib.hid h
    go_simp
    refine hK.out _ _ ⟨v.heap.size, y1, y2, y3, y4, .pointer (some ⟨v.heap.size, 0, none⟩), ?_, ee1, ee2, ee3, ee4, fun q hq => ptr_set hq, h.out.alloc hp rfl _⟩
    kernel_rfl
  · intro pq1 a v hJ
    obtain ⟨rfl, h⟩ := UnitJ_fin hJ
    clear hJ
    replace M := Lib.hid h.fin1
    clear h
    refine tails_one (T := [11]) (i := 11) (o := _) rfl (by kernel_rfl) (fun K hK => ?_)
    have kc := (M.out.nth 0 rfl).2.1
    have kf := (M.out.nth 0 rfl).2.2
    replace M := Lib.hid (M.out.set6 0 rfl (.float .f64 x) (.float .f64 x) (.float .f64 y) (.float .f64 y) (.float .f64 z) (.float .f64 z))
    go_simp
    refine hK.out _ _ (Or.inl (by decide)) (fun hHeld => ?_)
    clear hK K hHeld kc kf
    refine tails_done (by kernel_rfl) ?_ _
    refine NoPanic.normal ?_
    obtain ⟨k1, k2, k3, k4, k5, k6⟩ := (M.out.nth 0 rfl).six
    go_wp2_with fail
    refine (cN.out _ _ (M.out.nth 1 rfl)).mono ?_
    rintro r w2 ⟨rfl, hp⟩
    replace M := Lib.hid ((M.out.putAt 1 rfl hp).made #[.float .f64 nl, .float .f64 nh] 26)
    clear hp
    obtain ⟨k1, k2, k3, k4, k5, k6⟩ := (M.out.nth 1 rfl).six
    go_wp2_with fail
    refine (cE.out _ _ _ (M.out.nth 2 rfl) (M.out.nth 0 rfl) (M.out.ne 2 0 rfl rfl (by decide))).mono ?_
    rintro r w3 ⟨rfl, hp⟩
    replace M := Lib.hid (M.out.putAt 2 rfl hp)
    clear hp
    have kc := (M.out.nth 3 rfl).2.1
    have kf := (M.out.nth 3 rfl).2.2
    replace M := Lib.hid (M.out.set6 3 rfl (.float .f64 ul) (.float .f64 uh) (.float .f64 vl) (.float .f64 vh) (.float .f64 tl) (.float .f64 th))
    go_wp2
    obtain ⟨f1, f2, f3, f4, f5, f6⟩ := (M.out.nth 3 rfl).six
    exact bodyPost_ret (v := .tuple #[.agg #[.float .f64 ul, .float .f64 uh, .float .f64 vl, .float .f64 vh, .float .f64 tl, .float .f64 th], .int .i64 0]) (by simp [results, Try.results4, go_sem, f1, f2, f3, f4, f5, f6]) rfl ⟨rfl, M.out.base⟩

set_option maxRecDepth 100000 in
set_option maxHeartbeats 1000000 in
theorem unit_none (x y z : Nat) (w : World)
    (cU : Hid (∀ w, Calls Try.prog 14 #[.agg #[.float .f64 x, .float .f64 y, .float .f64 z]] w fun r w' => r = .returned (.bool false) ∧ Below w.heap.size w w')) :
    Calls Try.prog 4 #[.agg #[.float .f64 x, .float .f64 y, .float .f64 z]] w fun r w' => r = .returned (.tuple #[.agg #[.float .f64 0, .float .f64 0, .float .f64 0, .float .f64 0, .float .f64 0, .float .f64 0], .int .i64 50]) ∧ Below w.heap.size w w' := by
  have M := Lib.hid (((Own.nil w).made #[.float .f64 x, .float .f64 y, .float .f64 z] 24).made #[.float .f64 0, .float .f64 0, .float .f64 0, .float .f64 0, .float .f64 0, .float .f64 0] 28)
  simp only [World.size_alloc] at M
  obtain ⟨k1, k2, k3⟩ := (M.out.nth 1 rfl).three
  go_enter Try.func4, Try.ntmps4
  go_wp2_with fail
  refine (cU.out _).mono ?_
  rintro r w1 ⟨rfl, hb⟩
  replace M := Lib.hid (M.out.below hb)
  clear hb k1 k2 k3 cU
  have kc := (M.out.nth 0 rfl).2.1
  have kf := (M.out.nth 0 rfl).2.2
  replace M := Lib.hid (M.out.set6 0 rfl (.float .f64 0) (.float .f64 0) (.float .f64 0) (.float .f64 0) (.float .f64 0) (.float .f64 0))
  go_wp2
  obtain ⟨f1, f2, f3, f4, f5, f6⟩ := (M.out.nth 0 rfl).six
  exact bodyPost_ret (v := .tuple #[.agg #[.float .f64 0, .float .f64 0, .float .f64 0, .float .f64 0, .float .f64 0, .float .f64 0], .int .i64 50]) (by simp [results, Try.results4, go_sem, f1, f2, f3, f4, f5, f6]) rfl ⟨rfl, M.out.base⟩

end Go.Proofs.Ytlibfeegdjbhcaa

namespace Go.Proofs.Ytlibfeegdjbhcaa
open Go.RowKit
attribute [local go_sem] run_store_float

set_option maxRecDepth 100000 in
/-- Intervals are compared end by end. -/
theorem run_eq_iv (a b c d : Nat) (w : World) : (Op.equalIn 10000 26 (.agg #[.float .f64 a, .float .f64 b]) (.agg #[.float .f64 c, .float .f64 d])).run Try.prog w = .ok (Op.floatEq .f64 a c && Op.floatEq .f64 b d) w := by
  have hu := run_underlying Try.underlying26 (w := w)
  show (Op.equalIn (9999 + 1) 26 _ _).run Try.prog w = _
  rw [Op.equalIn]
  simp only [Sem.run_bind, hu, Result.andThen]
  have hf := run_underlying Try.underlying22 (w := w)
  have e : ∀ (x y : Nat), (Op.equalIn 9999 22 (.float .f64 x) (.float .f64 y)).run Try.prog w = .ok (Op.floatEq .f64 x y) w := fun x y => by
    show (Op.equalIn (9998 + 1) 22 _ _).run Try.prog w = _
    rw [Op.equalIn]
    simp only [Sem.run_bind, hf, Result.andThen]
    simp [go_sem]
  have hs : Try.prog.stoodInHeld 26 = false := by kernel_rfl
  simp [hs, Result.andThen, go_sem, e, part]
  cases Op.floatEq .f64 a c <;> simp [go_sem, e]
  cases Op.floatEq .f64 b d <;> simp [go_sem]

set_option maxRecDepth 100000 in
set_option maxHeartbeats 400000 in
theorem at_any (x y z : Nat) (w : World) : Calls Try.prog 24 #[.float .f64 x, .float .f64 y, .float .f64 z] w fun r w' => r = .returned (.agg #[.float .f64 x, .float .f64 x, .float .f64 y, .float .f64 y, .float .f64 z, .float .f64 z]) ∧ Below w.heap.size w w' := by
  have M := Lib.hid ((Own.nil w).made #[.float .f64 x, .float .f64 x, .float .f64 y, .float .f64 y, .float .f64 z, .float .f64 z] 28)
  go_enter Try.func24, Try.ntmps24
  go_wp2
  obtain ⟨f1, f2, f3, f4, f5, f6⟩ := (M.out.nth 0 rfl).six
  exact bodyPost_ret (v := .agg #[.float .f64 x, .float .f64 x, .float .f64 y, .float .f64 y, .float .f64 z, .float .f64 z]) (by simp [results, Try.results24, go_sem, f1, f2, f3, f4, f5, f6]) rfl ⟨rfl, M.out.base⟩

set_option maxRecDepth 100000 in
set_option maxHeartbeats 1000000 in
/-- A vector is the same as itself. -/
theorem sameV_any (a b c d e f : Nat) (w : World) : Calls Try.prog 7 #[.agg #[.float .f64 a, .float .f64 b, .float .f64 c, .float .f64 d, .float .f64 e, .float .f64 f], .agg #[.float .f64 a, .float .f64 b, .float .f64 c, .float .f64 d, .float .f64 e, .float .f64 f]] w fun r w' => r = .returned (.bool true) ∧ Below w.heap.size w w' := by
  have M := Lib.hid (((Own.nil w).made #[.float .f64 a, .float .f64 b, .float .f64 c, .float .f64 d, .float .f64 e, .float .f64 f] 28).made #[.float .f64 a, .float .f64 b, .float .f64 c, .float .f64 d, .float .f64 e, .float .f64 f] 28)
  simp only [World.size_alloc] at M
  obtain ⟨k1, k2, k3, k4, k5, k6⟩ := (M.out.nth 0 rfl).six
  obtain ⟨k7, k8, k9, k10, k11, k12⟩ := (M.out.nth 1 rfl).six
  go_enter Try.func7, Try.ntmps7
  go_wp2_with fail
  refine (l_same _ _ _).mono ?_
  rintro r w1 ⟨rfl, hb⟩
  replace M := Lib.hid (M.out.below hb)
  clear hb k1 k2 k3 k4 k5 k6 k7 k8 k9 k10 k11 k12
  obtain ⟨k1, k2, k3, k4, k5, k6⟩ := (M.out.nth 0 rfl).six
  obtain ⟨k7, k8, k9, k10, k11, k12⟩ := (M.out.nth 1 rfl).six
  go_wp2_with fail
  refine (l_same _ _ _).mono ?_
  rintro r w2 ⟨rfl, hb⟩
  replace M := Lib.hid (M.out.below hb)
  clear hb k1 k2 k3 k4 k5 k6 k7 k8 k9 k10 k11 k12
  obtain ⟨k1, k2, k3, k4, k5, k6⟩ := (M.out.nth 0 rfl).six
  obtain ⟨k7, k8, k9, k10, k11, k12⟩ := (M.out.nth 1 rfl).six
  go_wp2_with fail
  refine (l_same _ _ _).mono ?_
  rintro r w3 ⟨rfl, hb⟩
  go_wp2
  go_ret
  exact ⟨rfl, M.out.base.trans (hb.mono M.out.base.size)⟩

def at3 (x y z : Nat) : V3 := ⟨oneR x, oneR y, oneR z⟩
def unitPart (x : Nat) (n : Res) : Res := boundR (divR (oneR x) n)
def unitN (x y z : Nat) : Res := normV 0 (at3 x y z)
def unitV (x y z : Nat) : V3 := ⟨unitPart x (unitN x y z), unitPart y (unitN x y z), unitPart z (unitN x y z)⟩

def mostW (x y z : Nat) : Nat := maxW (maxW (rung x) (rung y)) (rung z)
def hasU (x y z : Nat) : Bool := rightB x && rightB y && rightB z && (leB 4318952042648305664 (mostW x y z) && leB (mostW x y z) 4895412794951729152)

theorem rung_right (x : Nat) (h : rightB x = true) : rung x < 18446744073709551616 ∧ rightB (rung x) = true := by
  have h1 := right_rung x h
  obtain ⟨p1, p2, _⟩ := pos_facts (rung x) h1
  exact ⟨p1, p2⟩
theorem hasUnit_any (x y z : Nat) (w : World) (lx : x < 18446744073709551616) (ly : y < 18446744073709551616) (lz : z < 18446744073709551616) :
    Calls Try.prog 14 #[.agg #[.float .f64 x, .float .f64 y, .float .f64 z]] w fun r w' => r = .returned (.bool (hasU x y z)) ∧ Below w.heap.size w w' := by
  have c1 := Lib.hid (fun w => right_any x w lx)
  have c2 := Lib.hid (fun w => right_any y w ly)
  have c3 := Lib.hid (fun w => right_any z w lz)
  cases h : (rightB x && rightB y && rightB z)
  · have e : hasU x y z = false := by unfold hasU; rw [h, Bool.false_and]
    rw [e]
    exact hasUnit_bad x y z _ _ _ w (Lib.hid h) c1 c2 c3
  · have e : hasU x y z = (leB 4318952042648305664 (mostW x y z) && leB (mostW x y z) 4895412794951729152) := by unfold hasU; rw [h, Bool.true_and]
    rw [e]
    rw [Bool.and_eq_true, Bool.and_eq_true] at h
    obtain ⟨⟨h1, h2⟩, h3⟩ := h
    rw [h1] at c1
    rw [h2] at c2
    rw [h3] at c3
    obtain ⟨p1, p2⟩ := rung_right x h1
    obtain ⟨q1, q2⟩ := rung_right y h2
    obtain ⟨s1, s2⟩ := rung_right z h3
    obtain ⟨m1, m2, _⟩ := max_facts _ _ p1 q1 p2 q2
    obtain ⟨n1, n2, _⟩ := max_facts _ _ m1 s1 m2 s2
    exact hasUnit_walk x y z (rung x) (rung y) (rung z) (mostW x y z) _ _ w c1 c2 c3 (Lib.hid fun w => abs_any x w lx) (Lib.hid fun w => abs_any y w ly) (Lib.hid fun w => abs_any z w lz) (fun ts t w => run_max3 _ _ _ p1 q1 s1 p2 q2 s2 ts t w) (order_le _ _ (by decide) n1 (by decide) n2) (order_le _ _ n1 (by decide) n2 (by decide))

theorem one_wd {x : Nat} (lx : x < 18446744073709551616) : Wd (oneR x) := ⟨lx, lx⟩
/-- What Unit answers, where no step has an error. -/
theorem unit_any (x y z : Nat) (w : World) (lx : x < 18446744073709551616) (ly : y < 18446744073709551616) (lz : z < 18446744073709551616) (hU : hasU x y z = true)
    (fN : Fit (unitN x y z)) (f1 : Fit (divR (oneR x) (unitN x y z))) (f2 : Fit (divR (oneR y) (unitN x y z))) (f3 : Fit (divR (oneR z) (unitN x y z))) :
    Calls Try.prog 4 #[.agg #[.float .f64 x, .float .f64 y, .float .f64 z]] w fun r w' => r = .returned (.tuple #[.agg #[.float .f64 (unitV x y z).x.lo, .float .f64 (unitV x y z).x.hi, .float .f64 (unitV x y z).y.lo, .float .f64 (unitV x y z).y.hi, .float .f64 (unitV x y z).z.lo, .float .f64 (unitV x y z).z.hi], .int .i64 0]) ∧ Below w.heap.size w w' := by
  have hR : (rightB x && rightB y && rightB z) = true := by
    unfold hasU at hU
    rw [Bool.and_eq_true] at hU
    exact hU.1
  rw [Bool.and_eq_true, Bool.and_eq_true] at hR
  obtain ⟨⟨h1, h2⟩, h3⟩ := hR
  have cU := fun w => hasUnit_any x y z w lx ly lz
  rw [hU] at cU
  have g1 := one_fit lx h1
  have g2 := one_fit ly h2
  have g3 := one_fit lz h3
  have meet : ∀ {q : Res}, Fit q → ∀ w, Calls Try.prog 18 #[.agg #[.float .f64 q.lo, .float .f64 q.hi], .agg #[.float .f64 13830554455654793216, .float .f64 4607182418800017408]] w fun r w' => r = .returned (.tuple #[.agg #[.float .f64 (boundR q).lo, .float .f64 (boundR q).hi], .bool (bothB q.lo q.hi m1 u1)]) ∧ Below w.heap.size w w' := fun fq w =>
    meet_any _ _ m1 u1 w fq.lo fq.hi (by decide) (by decide) fq.rlo fq.rhi (by decide) (by decide)
  have A : ∀ {p : Nat} (pb lp : Nat) (v : World), Fit (oneR p) → Fit (divR (oneR p) (unitN x y z)) → Has1 v (pb, #[.int .i64 0]) → Has1 v (lp, #[.float .f64 (unitN x y z).lo, .float .f64 (unitN x y z).hi]) → pb ≠ lp →
      Calls Try.prog 17 #[.agg #[.float .f64 p, .float .f64 p], .pointer (some ⟨pb, 0, none⟩), .pointer (some ⟨lp, 0, none⟩)] v fun r w' => r = .returned (.agg #[.float .f64 (unitPart p (unitN x y z)).lo, .float .f64 (unitPart p (unitN x y z)).hi]) ∧ Put ⟨pb, 0, none⟩ (.int .i64 0) v w' := fun pb lp v fp fd hC hL n1 =>
    unitLit_walk _ _ _ _ _ _ _ _ _ 0 0 pb lp v hC hL n1 (Lib.hid (calc_div fp fN fd pb)) (Lib.hid (meet fd))
  have hN := fun pb => norm_any (a := at3 x y z) 0 ⟨one_wd lx, one_wd ly, one_wd lz⟩ pb
  have eN : (normV 0 (at3 x y z)).e = 0 := fN.e
  rw [eN] at hN
  exact unit_walk x y z (unitN x y z).lo (unitN x y z).hi _ _ _ _ _ _ w (Lib.hid cU) (Lib.hid fun pb => calc_num g1 pb) (Lib.hid fun pb => calc_num g2 pb) (Lib.hid fun pb => calc_num g3 pb) (Lib.hid fun pb => hN pb)
    (Lib.hid fun pb lp v hC hL n1 => each_unit _ _ _ _ _ _ _ _ _ _ _ _ _ _ 0 0 0 0 pb lp v hC hL n1 (Lib.hid fun v hC hL n1 => A pb lp v g1 f1 hC hL n1) (Lib.hid fun v hC hL n1 => A pb lp v g2 f2 hC hL n1) (Lib.hid fun v hC hL n1 => A pb lp v g3 f3 hC hL n1))
/-- A triple without one. -/
theorem unit_bad (x y z : Nat) (w : World) (lx : x < 18446744073709551616) (ly : y < 18446744073709551616) (lz : z < 18446744073709551616) (hU : hasU x y z = false) :
    Calls Try.prog 4 #[.agg #[.float .f64 x, .float .f64 y, .float .f64 z]] w fun r w' => r = .returned (.tuple #[.agg #[.float .f64 0, .float .f64 0, .float .f64 0, .float .f64 0, .float .f64 0, .float .f64 0], .int .i64 50]) ∧ Below w.heap.size w w' := by
  have cU := fun w => hasUnit_any x y z w lx ly lz
  rw [hU] at cU
  exact unit_none x y z w (Lib.hid cU)

theorem u304 (w : World) : Calls Try.prog 4 #[.agg #[.float .f64 4613937818241073152, .float .f64 0, .float .f64 4616189618054758400]] w fun r w' => r = .returned (.tuple #[.agg #[.float .f64 4603579539098121011, .float .f64 4603579539098121012, .float .f64 0, .float .f64 0, .float .f64 4605380978949069209, .float .f64 4605380978949069210], .int .i64 0]) ∧ Below w.heap.size w w' := by
  have h := unit_any 4613937818241073152 0 4616189618054758400 w (by decide) (by decide) (by decide) (by decide +kernel) (.of (by decide +kernel)) (.of (by decide +kernel)) (.of (by decide +kernel)) (.of (by decide +kernel))
  have e : (unitV 4613937818241073152 0 4616189618054758400).x.lo = 4603579539098121011 ∧ (unitV 4613937818241073152 0 4616189618054758400).x.hi = 4603579539098121012 ∧ (unitV 4613937818241073152 0 4616189618054758400).y.lo = 0 ∧ (unitV 4613937818241073152 0 4616189618054758400).y.hi = 0 ∧ (unitV 4613937818241073152 0 4616189618054758400).z.lo = 4605380978949069209 ∧ (unitV 4613937818241073152 0 4616189618054758400).z.hi = 4605380978949069210 := by decide +kernel
  obtain ⟨e1, e2, e3, e4, e5, e6⟩ := e
  rw [e1, e2, e3, e4, e5, e6] at h
  exact h
theorem u007 (w : World) : Calls Try.prog 4 #[.agg #[.float .f64 0, .float .f64 0, .float .f64 4619567317775286272]] w fun r w' => r = .returned (.tuple #[.agg #[.float .f64 0, .float .f64 0, .float .f64 0, .float .f64 0, .float .f64 4607182418800017408, .float .f64 4607182418800017408], .int .i64 0]) ∧ Below w.heap.size w w' := by
  have h := unit_any 0 0 4619567317775286272 w (by decide) (by decide) (by decide) (by decide +kernel) (.of (by decide +kernel)) (.of (by decide +kernel)) (.of (by decide +kernel)) (.of (by decide +kernel))
  have e : (unitV 0 0 4619567317775286272).x.lo = 0 ∧ (unitV 0 0 4619567317775286272).x.hi = 0 ∧ (unitV 0 0 4619567317775286272).y.lo = 0 ∧ (unitV 0 0 4619567317775286272).y.hi = 0 ∧ (unitV 0 0 4619567317775286272).z.lo = 4607182418800017408 ∧ (unitV 0 0 4619567317775286272).z.hi = 4607182418800017408 := by decide +kernel
  obtain ⟨e1, e2, e3, e4, e5, e6⟩ := e
  rw [e1, e2, e3, e4, e5, e6] at h
  exact h
theorem u000 (w : World) : Calls Try.prog 4 #[.agg #[.float .f64 0, .float .f64 0, .float .f64 0]] w fun r w' => r = .returned (.tuple #[.agg #[.float .f64 0, .float .f64 0, .float .f64 0, .float .f64 0, .float .f64 0, .float .f64 0], .int .i64 50]) ∧ Below w.heap.size w w' :=
  unit_bad 0 0 0 w (by decide) (by decide) (by decide) (by decide +kernel)

end Go.Proofs.Ytlibfeegdjbhcaa

namespace Go.Proofs.Ytlibfeegdjbhcaa
open Go.RowKit
attribute [local go_sem] run_store_float

theorem at_wd {x y z : Nat} (lx : x < 18446744073709551616) (ly : y < 18446744073709551616) (lz : z < 18446744073709551616) : WdV (at3 x y z) := ⟨one_wd lx, one_wd ly, one_wd lz⟩
theorem l_dot (pb : Nat) (v : World) (hC : Has1 v (pb, #[.int .i64 0])) : Calls Try.prog 25 #[.pointer (some ⟨pb, 0, none⟩), .agg #[.float .f64 4607182418800017408, .float .f64 4607182418800017408, .float .f64 4611686018427387904, .float .f64 4611686018427387904, .float .f64 4613937818241073152, .float .f64 4613937818241073152], .agg #[.float .f64 4616189618054758400, .float .f64 4616189618054758400, .float .f64 4617315517961601024, .float .f64 4617315517961601024, .float .f64 4618441417868443648, .float .f64 4618441417868443648]] v fun r w' => r = .returned (.agg #[.float .f64 4629700416936869888, .float .f64 4629700416936869888]) ∧ Put ⟨pb, 0, none⟩ (.int .i64 0) v w' := by
  have h := dot_any (a := (at3 4607182418800017408 4611686018427387904 4613937818241073152)) (b := (at3 4616189618054758400 4617315517961601024 4618441417868443648)) 0 (at_wd (by decide) (by decide) (by decide)) (at_wd (by decide) (by decide) (by decide)) pb v hC
  have e : (dotV 0 (at3 4607182418800017408 4611686018427387904 4613937818241073152) (at3 4616189618054758400 4617315517961601024 4618441417868443648)).lo = 4629700416936869888 ∧ (dotV 0 (at3 4607182418800017408 4611686018427387904 4613937818241073152) (at3 4616189618054758400 4617315517961601024 4618441417868443648)).hi = 4629700416936869888 ∧ (dotV 0 (at3 4607182418800017408 4611686018427387904 4613937818241073152) (at3 4616189618054758400 4617315517961601024 4618441417868443648)).e = 0 := by decide +kernel
  obtain ⟨e1, e2, e3⟩ := e
  rw [e1, e2, e3] at h
  exact h
theorem l_cross (pb : Nat) (v : World) (hC : Has1 v (pb, #[.int .i64 0])) : Calls Try.prog 26 #[.pointer (some ⟨pb, 0, none⟩), .agg #[.float .f64 4607182418800017408, .float .f64 4607182418800017408, .float .f64 4611686018427387904, .float .f64 4611686018427387904, .float .f64 4613937818241073152, .float .f64 4613937818241073152], .agg #[.float .f64 4616189618054758400, .float .f64 4616189618054758400, .float .f64 4617315517961601024, .float .f64 4617315517961601024, .float .f64 4618441417868443648, .float .f64 4618441417868443648]] v fun r w' => r = .returned (.agg #[.float .f64 13837309855095848960, .float .f64 13837309855095848960, .float .f64 4618441417868443648, .float .f64 4618441417868443648, .float .f64 13837309855095848960, .float .f64 13837309855095848960]) ∧ Put ⟨pb, 0, none⟩ (.int .i64 0) v w' := by
  have h := vcross_any (a := (at3 4607182418800017408 4611686018427387904 4613937818241073152)) (b := (at3 4616189618054758400 4617315517961601024 4618441417868443648)) 0 (at_wd (by decide) (by decide) (by decide)) (at_wd (by decide) (by decide) (by decide)) pb v hC
  have e : (crossV 0 (at3 4607182418800017408 4611686018427387904 4613937818241073152) (at3 4616189618054758400 4617315517961601024 4618441417868443648)).x.lo = 13837309855095848960 ∧ (crossV 0 (at3 4607182418800017408 4611686018427387904 4613937818241073152) (at3 4616189618054758400 4617315517961601024 4618441417868443648)).x.hi = 13837309855095848960 ∧ (crossV 0 (at3 4607182418800017408 4611686018427387904 4613937818241073152) (at3 4616189618054758400 4617315517961601024 4618441417868443648)).y.lo = 4618441417868443648 ∧ (crossV 0 (at3 4607182418800017408 4611686018427387904 4613937818241073152) (at3 4616189618054758400 4617315517961601024 4618441417868443648)).y.hi = 4618441417868443648 ∧ (crossV 0 (at3 4607182418800017408 4611686018427387904 4613937818241073152) (at3 4616189618054758400 4617315517961601024 4618441417868443648)).z.lo = 13837309855095848960 ∧ (crossV 0 (at3 4607182418800017408 4611686018427387904 4613937818241073152) (at3 4616189618054758400 4617315517961601024 4618441417868443648)).z.hi = 13837309855095848960 ∧ (crossV 0 (at3 4607182418800017408 4611686018427387904 4613937818241073152) (at3 4616189618054758400 4617315517961601024 4618441417868443648)).z.e = 0 := by decide +kernel
  obtain ⟨e1, e2, e3, e4, e5, e6, e7⟩ := e
  rw [e1, e2, e3, e4, e5, e6, e7] at h
  exact h
theorem l_norm (pb : Nat) (v : World) (hC : Has1 v (pb, #[.int .i64 0])) : Calls Try.prog 9 #[.pointer (some ⟨pb, 0, none⟩), .agg #[.float .f64 4611686018427387904, .float .f64 4611686018427387904, .float .f64 4613937818241073152, .float .f64 4613937818241073152, .float .f64 4618441417868443648, .float .f64 4618441417868443648]] v fun r w' => r = .returned (.agg #[.float .f64 4619567317775286272, .float .f64 4619567317775286272]) ∧ Put ⟨pb, 0, none⟩ (.int .i64 0) v w' := by
  have h := norm_any (a := (at3 4611686018427387904 4613937818241073152 4618441417868443648)) 0 (at_wd (by decide) (by decide) (by decide)) pb v hC
  have e : (normV 0 (at3 4611686018427387904 4613937818241073152 4618441417868443648)).lo = 4619567317775286272 ∧ (normV 0 (at3 4611686018427387904 4613937818241073152 4618441417868443648)).hi = 4619567317775286272 ∧ (normV 0 (at3 4611686018427387904 4613937818241073152 4618441417868443648)).e = 0 := by decide +kernel
  obtain ⟨e1, e2, e3⟩ := e
  rw [e1, e2, e3] at h
  exact h
theorem l_has1 (w : World) : Calls Try.prog 11 #[.agg #[.float .f64 4603579539098121011, .float .f64 4603579539098121012], .float .f64 4603579539098121011] w fun r w' => r = .returned (.bool true) ∧ Below w.heap.size w w' := by
  have h := has_any 4603579539098121011 4603579539098121012 4603579539098121011 w (by decide) (by decide)
  have e : hasB 4603579539098121011 4603579539098121012 4603579539098121011 = true := by decide +kernel
  rw [e] at h
  exact h
theorem l_has2 (w : World) : Calls Try.prog 11 #[.agg #[.float .f64 4605380978949069209, .float .f64 4605380978949069210], .float .f64 4605380978949069210] w fun r w' => r = .returned (.bool true) ∧ Below w.heap.size w w' := by
  have h := has_any 4605380978949069209 4605380978949069210 4605380978949069210 w (by decide) (by decide)
  have e : hasB 4605380978949069209 4605380978949069210 4605380978949069210 = true := by decide +kernel
  rw [e] at h
  exact h

/-- Region 6 of awake: dot, cross and length, and their blocks, made at any time. -/
def AwJ (w : World) (q1 q2 q3 q4 q5 pb : Nat) (a0 : Act) (k : Nat) (p : List (Option Nat)) (a : Act) (v : World) : Prop :=
  ∃ y1 y2 y3 y4 z1 z2 z3 : Value, a = (((((((a0.put (some 32) y1).put (some 35) y2).put (some 36) y3).put (some 37) y4).put (some 10) z1).put (some 11) z2).put (some 12) z3) ∧
    (0 < k → y1 = .agg #[.float .f64 4629700416936869888, .float .f64 4629700416936869888]) ∧
    (1 < k → y2 = .agg #[.float .f64 13837309855095848960, .float .f64 13837309855095848960, .float .f64 4618441417868443648, .float .f64 4618441417868443648, .float .f64 13837309855095848960, .float .f64 13837309855095848960]) ∧
    (2 < k → y3 = .agg #[.float .f64 4611686018427387904, .float .f64 4611686018427387904, .float .f64 4613937818241073152, .float .f64 4613937818241073152, .float .f64 4618441417868443648, .float .f64 4618441417868443648]) ∧
    (3 < k → y4 = .agg #[.float .f64 4619567317775286272, .float .f64 4619567317775286272]) ∧
    (∀ q, p[0]? = some (some q) → z1 = .pointer (some ⟨q, 0, none⟩)) ∧
    (∀ q, p[1]? = some (some q) → z2 = .pointer (some ⟨q, 0, none⟩)) ∧
    (∀ q, p[2]? = some (some q) → z3 = .pointer (some ⟨q, 0, none⟩)) ∧
    OwnF w [(q5, #[.float .f64 0, .float .f64 0, .float .f64 0, .float .f64 0, .float .f64 0, .float .f64 0]), (q4, #[.float .f64 0, .float .f64 0, .float .f64 0, .float .f64 0, .float .f64 4607182418800017408, .float .f64 4607182418800017408]), (q3, #[.float .f64 4603579539098121011, .float .f64 4603579539098121012, .float .f64 0, .float .f64 0, .float .f64 4605380978949069209, .float .f64 4605380978949069210]), (q2, #[.float .f64 4616189618054758400, .float .f64 4616189618054758400, .float .f64 4617315517961601024, .float .f64 4617315517961601024, .float .f64 4618441417868443648, .float .f64 4618441417868443648]), (q1, #[.float .f64 4607182418800017408, .float .f64 4607182418800017408, .float .f64 4611686018427387904, .float .f64 4611686018427387904, .float .f64 4613937818241073152, .float .f64 4613937818241073152]), (pb, #[.int .i64 0])] [#[.float .f64 0, .float .f64 0], #[.float .f64 0, .float .f64 0, .float .f64 0, .float .f64 0, .float .f64 0, .float .f64 0], #[.float .f64 0, .float .f64 0]] p v

theorem AwJ_0 {w : World} {q1 q2 q3 q4 q5 pb : Nat} {a0 a : Act} {p : List (Option Nat)} {v : World} (h : AwJ w q1 q2 q3 q4 q5 pb a0 0 p a v) :
    ∃ y1 y2 y3 y4 z1 z2 z3 : Value, a = (((((((a0.put (some 32) y1).put (some 35) y2).put (some 36) y3).put (some 37) y4).put (some 10) z1).put (some 11) z2).put (some 12) z3) ∧ (∀ q, p[0]? = some (some q) → z1 = .pointer (some ⟨q, 0, none⟩)) ∧ (∀ q, p[1]? = some (some q) → z2 = .pointer (some ⟨q, 0, none⟩)) ∧ (∀ q, p[2]? = some (some q) → z3 = .pointer (some ⟨q, 0, none⟩)) ∧ OwnF w [(q5, #[.float .f64 0, .float .f64 0, .float .f64 0, .float .f64 0, .float .f64 0, .float .f64 0]), (q4, #[.float .f64 0, .float .f64 0, .float .f64 0, .float .f64 0, .float .f64 4607182418800017408, .float .f64 4607182418800017408]), (q3, #[.float .f64 4603579539098121011, .float .f64 4603579539098121012, .float .f64 0, .float .f64 0, .float .f64 4605380978949069209, .float .f64 4605380978949069210]), (q2, #[.float .f64 4616189618054758400, .float .f64 4616189618054758400, .float .f64 4617315517961601024, .float .f64 4617315517961601024, .float .f64 4618441417868443648, .float .f64 4618441417868443648]), (q1, #[.float .f64 4607182418800017408, .float .f64 4607182418800017408, .float .f64 4611686018427387904, .float .f64 4611686018427387904, .float .f64 4613937818241073152, .float .f64 4613937818241073152]), (pb, #[.int .i64 0])] [#[.float .f64 0, .float .f64 0], #[.float .f64 0, .float .f64 0, .float .f64 0, .float .f64 0, .float .f64 0, .float .f64 0], #[.float .f64 0, .float .f64 0]] p v := by
  obtain ⟨y1, y2, y3, y4, z1, z2, z3, ha, hhe1, hhe2, hhe3, hhe4, hhg1, hhg2, hhg3, h⟩ := h
  exact ⟨y1, y2, y3, y4, z1, z2, z3, ha, hhg1, hhg2, hhg3, h⟩
theorem AwJ_1 {w : World} {q1 q2 q3 q4 q5 pb : Nat} {a0 a : Act} {p : List (Option Nat)} {v : World} (h : AwJ w q1 q2 q3 q4 q5 pb a0 1 p a v) :
    ∃ y2 y3 y4 z1 z2 z3 : Value, a = (((((((a0.put (some 32) (.agg #[.float .f64 4629700416936869888, .float .f64 4629700416936869888])).put (some 35) y2).put (some 36) y3).put (some 37) y4).put (some 10) z1).put (some 11) z2).put (some 12) z3) ∧ (∀ q, p[0]? = some (some q) → z1 = .pointer (some ⟨q, 0, none⟩)) ∧ (∀ q, p[1]? = some (some q) → z2 = .pointer (some ⟨q, 0, none⟩)) ∧ (∀ q, p[2]? = some (some q) → z3 = .pointer (some ⟨q, 0, none⟩)) ∧ OwnF w [(q5, #[.float .f64 0, .float .f64 0, .float .f64 0, .float .f64 0, .float .f64 0, .float .f64 0]), (q4, #[.float .f64 0, .float .f64 0, .float .f64 0, .float .f64 0, .float .f64 4607182418800017408, .float .f64 4607182418800017408]), (q3, #[.float .f64 4603579539098121011, .float .f64 4603579539098121012, .float .f64 0, .float .f64 0, .float .f64 4605380978949069209, .float .f64 4605380978949069210]), (q2, #[.float .f64 4616189618054758400, .float .f64 4616189618054758400, .float .f64 4617315517961601024, .float .f64 4617315517961601024, .float .f64 4618441417868443648, .float .f64 4618441417868443648]), (q1, #[.float .f64 4607182418800017408, .float .f64 4607182418800017408, .float .f64 4611686018427387904, .float .f64 4611686018427387904, .float .f64 4613937818241073152, .float .f64 4613937818241073152]), (pb, #[.int .i64 0])] [#[.float .f64 0, .float .f64 0], #[.float .f64 0, .float .f64 0, .float .f64 0, .float .f64 0, .float .f64 0, .float .f64 0], #[.float .f64 0, .float .f64 0]] p v := by
  obtain ⟨y1, y2, y3, y4, z1, z2, z3, ha, hhe1, hhe2, hhe3, hhe4, hhg1, hhg2, hhg3, h⟩ := h
  obtain rfl := hhe1 (by decide)
  exact ⟨y2, y3, y4, z1, z2, z3, ha, hhg1, hhg2, hhg3, h⟩
theorem AwJ_2 {w : World} {q1 q2 q3 q4 q5 pb : Nat} {a0 a : Act} {p : List (Option Nat)} {v : World} (h : AwJ w q1 q2 q3 q4 q5 pb a0 2 p a v) :
    ∃ y3 y4 z1 z2 z3 : Value, a = (((((((a0.put (some 32) (.agg #[.float .f64 4629700416936869888, .float .f64 4629700416936869888])).put (some 35) (.agg #[.float .f64 13837309855095848960, .float .f64 13837309855095848960, .float .f64 4618441417868443648, .float .f64 4618441417868443648, .float .f64 13837309855095848960, .float .f64 13837309855095848960])).put (some 36) y3).put (some 37) y4).put (some 10) z1).put (some 11) z2).put (some 12) z3) ∧ (∀ q, p[0]? = some (some q) → z1 = .pointer (some ⟨q, 0, none⟩)) ∧ (∀ q, p[1]? = some (some q) → z2 = .pointer (some ⟨q, 0, none⟩)) ∧ (∀ q, p[2]? = some (some q) → z3 = .pointer (some ⟨q, 0, none⟩)) ∧ OwnF w [(q5, #[.float .f64 0, .float .f64 0, .float .f64 0, .float .f64 0, .float .f64 0, .float .f64 0]), (q4, #[.float .f64 0, .float .f64 0, .float .f64 0, .float .f64 0, .float .f64 4607182418800017408, .float .f64 4607182418800017408]), (q3, #[.float .f64 4603579539098121011, .float .f64 4603579539098121012, .float .f64 0, .float .f64 0, .float .f64 4605380978949069209, .float .f64 4605380978949069210]), (q2, #[.float .f64 4616189618054758400, .float .f64 4616189618054758400, .float .f64 4617315517961601024, .float .f64 4617315517961601024, .float .f64 4618441417868443648, .float .f64 4618441417868443648]), (q1, #[.float .f64 4607182418800017408, .float .f64 4607182418800017408, .float .f64 4611686018427387904, .float .f64 4611686018427387904, .float .f64 4613937818241073152, .float .f64 4613937818241073152]), (pb, #[.int .i64 0])] [#[.float .f64 0, .float .f64 0], #[.float .f64 0, .float .f64 0, .float .f64 0, .float .f64 0, .float .f64 0, .float .f64 0], #[.float .f64 0, .float .f64 0]] p v := by
  obtain ⟨y1, y2, y3, y4, z1, z2, z3, ha, hhe1, hhe2, hhe3, hhe4, hhg1, hhg2, hhg3, h⟩ := h
  obtain rfl := hhe1 (by decide)
  obtain rfl := hhe2 (by decide)
  exact ⟨y3, y4, z1, z2, z3, ha, hhg1, hhg2, hhg3, h⟩
theorem AwJ_3 {w : World} {q1 q2 q3 q4 q5 pb : Nat} {a0 a : Act} {p : List (Option Nat)} {v : World} (h : AwJ w q1 q2 q3 q4 q5 pb a0 3 p a v) :
    ∃ y4 z1 z2 z3 : Value, a = (((((((a0.put (some 32) (.agg #[.float .f64 4629700416936869888, .float .f64 4629700416936869888])).put (some 35) (.agg #[.float .f64 13837309855095848960, .float .f64 13837309855095848960, .float .f64 4618441417868443648, .float .f64 4618441417868443648, .float .f64 13837309855095848960, .float .f64 13837309855095848960])).put (some 36) (.agg #[.float .f64 4611686018427387904, .float .f64 4611686018427387904, .float .f64 4613937818241073152, .float .f64 4613937818241073152, .float .f64 4618441417868443648, .float .f64 4618441417868443648])).put (some 37) y4).put (some 10) z1).put (some 11) z2).put (some 12) z3) ∧ (∀ q, p[0]? = some (some q) → z1 = .pointer (some ⟨q, 0, none⟩)) ∧ (∀ q, p[1]? = some (some q) → z2 = .pointer (some ⟨q, 0, none⟩)) ∧ (∀ q, p[2]? = some (some q) → z3 = .pointer (some ⟨q, 0, none⟩)) ∧ OwnF w [(q5, #[.float .f64 0, .float .f64 0, .float .f64 0, .float .f64 0, .float .f64 0, .float .f64 0]), (q4, #[.float .f64 0, .float .f64 0, .float .f64 0, .float .f64 0, .float .f64 4607182418800017408, .float .f64 4607182418800017408]), (q3, #[.float .f64 4603579539098121011, .float .f64 4603579539098121012, .float .f64 0, .float .f64 0, .float .f64 4605380978949069209, .float .f64 4605380978949069210]), (q2, #[.float .f64 4616189618054758400, .float .f64 4616189618054758400, .float .f64 4617315517961601024, .float .f64 4617315517961601024, .float .f64 4618441417868443648, .float .f64 4618441417868443648]), (q1, #[.float .f64 4607182418800017408, .float .f64 4607182418800017408, .float .f64 4611686018427387904, .float .f64 4611686018427387904, .float .f64 4613937818241073152, .float .f64 4613937818241073152]), (pb, #[.int .i64 0])] [#[.float .f64 0, .float .f64 0], #[.float .f64 0, .float .f64 0, .float .f64 0, .float .f64 0, .float .f64 0, .float .f64 0], #[.float .f64 0, .float .f64 0]] p v := by
  obtain ⟨y1, y2, y3, y4, z1, z2, z3, ha, hhe1, hhe2, hhe3, hhe4, hhg1, hhg2, hhg3, h⟩ := h
  obtain rfl := hhe1 (by decide)
  obtain rfl := hhe2 (by decide)
  obtain rfl := hhe3 (by decide)
  exact ⟨y4, z1, z2, z3, ha, hhg1, hhg2, hhg3, h⟩
theorem AwJ_fin {w : World} {q1 q2 q3 q4 q5 pb : Nat} {qq1 qq2 qq3 : Nat} {a0 a : Act} {v : World} (h : AwJ w q1 q2 q3 q4 q5 pb a0 4 [some qq1, some qq2, some qq3] a v) :
    a = (((((((a0.put (some 32) (.agg #[.float .f64 4629700416936869888, .float .f64 4629700416936869888])).put (some 35) (.agg #[.float .f64 13837309855095848960, .float .f64 13837309855095848960, .float .f64 4618441417868443648, .float .f64 4618441417868443648, .float .f64 13837309855095848960, .float .f64 13837309855095848960])).put (some 36) (.agg #[.float .f64 4611686018427387904, .float .f64 4611686018427387904, .float .f64 4613937818241073152, .float .f64 4613937818241073152, .float .f64 4618441417868443648, .float .f64 4618441417868443648])).put (some 37) (.agg #[.float .f64 4619567317775286272, .float .f64 4619567317775286272])).put (some 10) (.pointer (some ⟨qq1, 0, none⟩))).put (some 11) (.pointer (some ⟨qq2, 0, none⟩))).put (some 12) (.pointer (some ⟨qq3, 0, none⟩))) ∧ OwnF w [(q5, #[.float .f64 0, .float .f64 0, .float .f64 0, .float .f64 0, .float .f64 0, .float .f64 0]), (q4, #[.float .f64 0, .float .f64 0, .float .f64 0, .float .f64 0, .float .f64 4607182418800017408, .float .f64 4607182418800017408]), (q3, #[.float .f64 4603579539098121011, .float .f64 4603579539098121012, .float .f64 0, .float .f64 0, .float .f64 4605380978949069209, .float .f64 4605380978949069210]), (q2, #[.float .f64 4616189618054758400, .float .f64 4616189618054758400, .float .f64 4617315517961601024, .float .f64 4617315517961601024, .float .f64 4618441417868443648, .float .f64 4618441417868443648]), (q1, #[.float .f64 4607182418800017408, .float .f64 4607182418800017408, .float .f64 4611686018427387904, .float .f64 4611686018427387904, .float .f64 4613937818241073152, .float .f64 4613937818241073152]), (pb, #[.int .i64 0])] [#[.float .f64 0, .float .f64 0], #[.float .f64 0, .float .f64 0, .float .f64 0, .float .f64 0, .float .f64 0, .float .f64 0], #[.float .f64 0, .float .f64 0]] [some qq1, some qq2, some qq3] v := by
  obtain ⟨y1, y2, y3, y4, z1, z2, z3, ha, hhe1, hhe2, hhe3, hhe4, hhg1, hhg2, hhg3, h⟩ := h
  obtain rfl := hhe1 (by decide)
  obtain rfl := hhe2 (by decide)
  obtain rfl := hhe3 (by decide)
  obtain rfl := hhe4 (by decide)
  obtain rfl := hhg1 _ rfl
  obtain rfl := hhg2 _ rfl
  obtain rfl := hhg3 _ rfl
  exact ⟨ha, h⟩

set_option maxRecDepth 100000 in
set_option maxHeartbeats 8000000 in
theorem awake5_any (w : World) : Calls Try.prog 8 #[] w fun r w' => r = .returned (.bool true) ∧ Below w.heap.size w w' := by
  have M := Lib.hid ((Own.nil w).made #[.int .i64 0] 37)
  go_enter Try.func8, Try.ntmps8
  go_wp2_with fail
  refine (at_any _ _ _ _).mono ?_
  rintro r w1 ⟨rfl, hb⟩
  replace M := Lib.hid (M.out.below hb)
  clear hb
  go_wp2_with fail
  refine (at_any _ _ _ _).mono ?_
  rintro r w2 ⟨rfl, hb⟩
  have M0 := Lib.hid (((M.out.below hb).made #[.float .f64 4607182418800017408, .float .f64 4607182418800017408, .float .f64 4611686018427387904, .float .f64 4611686018427387904, .float .f64 4613937818241073152, .float .f64 4613937818241073152] 28).made #[.float .f64 4616189618054758400, .float .f64 4616189618054758400, .float .f64 4617315517961601024, .float .f64 4617315517961601024, .float .f64 4618441417868443648, .float .f64 4618441417868443648] 28)
  simp only [World.size_alloc] at M0
  clear hb M
  have M := M0
  clear M0
  go_wp2_with fail
  refine (u304 _).mono ?_
  rintro r w3 ⟨rfl, hb⟩
  replace M := Lib.hid ((M.out.below hb).made #[.float .f64 4603579539098121011, .float .f64 4603579539098121012, .float .f64 0, .float .f64 0, .float .f64 4605380978949069209, .float .f64 4605380978949069210] 28)
  clear hb
  go_wp2_with fail
  refine (u007 _).mono ?_
  rintro r w4 ⟨rfl, hb⟩
  replace M := Lib.hid ((M.out.below hb).made #[.float .f64 0, .float .f64 0, .float .f64 0, .float .f64 0, .float .f64 4607182418800017408, .float .f64 4607182418800017408] 28)
  clear hb
  go_wp2_with fail
  refine (u000 _).mono ?_
  rintro r w5 ⟨rfl, hb⟩
  replace M := Lib.hid ((M.out.below hb).made #[.float .f64 0, .float .f64 0, .float .f64 0, .float .f64 0, .float .f64 0, .float .f64 0] 28)
  clear hb
  go_upto_region 6 with fail
  replace M := Lib.hid M.out.drew
  obtain ⟨k1, k2, k3, k4, k5, k6⟩ := (M.out.nth 4 rfl).six
  obtain ⟨k7, k8, k9, k10, k11, k12⟩ := (M.out.nth 3 rfl).six
  refine wp_region_noPanic ?_
  refine tails_region (S := fun w' => w'.cell? ⟨w2.heap.size, 0, none⟩ = some (.float .f64 4607182418800017408) ∧ w'.cell? ⟨w2.heap.size, 1, none⟩ = some (.float .f64 4607182418800017408) ∧ w'.cell? ⟨w2.heap.size, 2, none⟩ = some (.float .f64 4611686018427387904) ∧ w'.cell? ⟨w2.heap.size, 3, none⟩ = some (.float .f64 4611686018427387904) ∧ w'.cell? ⟨w2.heap.size, 4, none⟩ = some (.float .f64 4613937818241073152) ∧ w'.cell? ⟨w2.heap.size, 5, none⟩ = some (.float .f64 4613937818241073152) ∧ w'.cell? ⟨(w2.heap.size + 1), 0, none⟩ = some (.float .f64 4616189618054758400) ∧ w'.cell? ⟨(w2.heap.size + 1), 1, none⟩ = some (.float .f64 4616189618054758400) ∧ w'.cell? ⟨(w2.heap.size + 1), 2, none⟩ = some (.float .f64 4617315517961601024) ∧ w'.cell? ⟨(w2.heap.size + 1), 3, none⟩ = some (.float .f64 4617315517961601024) ∧ w'.cell? ⟨(w2.heap.size + 1), 4, none⟩ = some (.float .f64 4618441417868443648) ∧ w'.cell? ⟨(w2.heap.size + 1), 5, none⟩ = some (.float .f64 4618441417868443648)) [] (by kernel_rfl) ?_ (fun hS => ?_)
  · exact ⟨k1, k2, k3, k4, k5, k6, k7, k8, k9, k10, k11, k12⟩
  refine tails_take (T := []) (i := 0) (o := _) (x := ?_) rfl (by kernel_rfl) (by kernel_rfl) (by kernel_rfl) (by kernel_rfl) (fun _ _ _ h => h) (Or.inl ⟨by rfl, ?_⟩) (by assumption) ?_
  rotate_left; focus (intro w hSw; (try dsimp only at hSw); go_simp; first | done | with_reducible rfl)
  refine tails_take (T := []) (i := 1) (o := _) (x := ?_) rfl (by kernel_rfl) (by kernel_rfl) (by kernel_rfl) (by kernel_rfl) (fun _ _ _ h => h) (Or.inl ⟨by rfl, ?_⟩) (by assumption) ?_
  rotate_left; focus (intro w hSw; (try dsimp only at hSw); go_simp; first | done | with_reducible rfl)
  refine tails_take (T := []) (i := 3) (o := _) (x := ?_) rfl (by kernel_rfl) (by kernel_rfl) (by kernel_rfl) (by kernel_rfl) (fun _ _ _ h => h) (Or.inl ⟨by rfl, ?_⟩) (by assumption) ?_
  rotate_left; focus (intro w hSw; (try dsimp only at hSw); go_simp; first | done | with_reducible rfl)
  refine tails_take (T := []) (i := 4) (o := _) (x := ?_) rfl (by kernel_rfl) (by kernel_rfl) (by kernel_rfl) (by kernel_rfl) (fun _ _ _ h => h) (Or.inl ⟨by rfl, ?_⟩) (by assumption) ?_
  rotate_left; focus (intro w hSw; (try dsimp only at hSw); go_simp; first | done | with_reducible rfl)
  conv => arg 9; simp only [Act.put, go_sem]
  refine lat_4_3 (T := []) 2 5 6 7 8 9 10 [32, 35, 36, 37, 10, 11, 12] 3 (AwJ w w2.heap.size (w2.heap.size + 1) w3.heap.size w4.heap.size w5.heap.size w.heap.size) (by kernel_rfl) (by kernel_rfl) ?_ ?_ ?_ ?_ ?_ ?_ ?_ ?_ ?_ ?_
  · intro A hA
    obtain ⟨y1, hq1⟩ := put_ex (hA 32 (by simp))
    obtain ⟨y2, hq2⟩ := put_ex (hA 35 (by simp))
    obtain ⟨y3, hq3⟩ := put_ex (hA 36 (by simp))
    obtain ⟨y4, hq4⟩ := put_ex (hA 37 (by simp))
    obtain ⟨z1, hq5⟩ := put_ex (hA 10 (by simp))
    obtain ⟨z2, hq6⟩ := put_ex (hA 11 (by simp))
    obtain ⟨z3, hq7⟩ := put_ex (hA 12 (by simp))
    exact ⟨y1, y2, y3, y4, z1, z2, z3, by rw [hq1, hq2, hq3, hq4, hq5, hq6, hq7], by omega, by omega, by omega, by omega, by simp, by simp, by simp, OwnF.start M.out 3⟩
  · rintro k p a v ⟨y1, y2, y3, y4, z1, z2, z3, _, _, _, _, _, _, _, _, h⟩
    exact ⟨((h.own.nth 4 rfl).six).1, ((h.own.nth 4 rfl).six).2.1, ((h.own.nth 4 rfl).six).2.2.1, ((h.own.nth 4 rfl).six).2.2.2.1, ((h.own.nth 4 rfl).six).2.2.2.2.1, ((h.own.nth 4 rfl).six).2.2.2.2.2, (h.own.nth 3 rfl).six⟩
  · intro p a v hJ
    refine op_step (o := _) rfl (fun K hK => ?_)
    obtain ⟨y1, y2, y3, y4, z1, z2, z3, rfl, gg1, gg2, gg3, h⟩ := AwJ_0 hJ
    have h := Lib.hid h
    clear hJ
    go_simp
    refine (l_dot _ _ (h.out.own.nth 5 rfl)).mono ?_
    rintro rr w5 ⟨rfl, hp⟩
    try go_wp2_with fail
    refine hK.out _ _ ⟨.agg #[.float .f64 4629700416936869888, .float .f64 4629700416936869888], y2, y3, y4, z1, z2, z3, ?_, fun _ => rfl, by omega, by omega, by omega, gg1, gg2, gg3, h.out.putAt 5 rfl hp⟩
    kernel_rfl
  · intro p a v hJ
    refine op_step (o := _) rfl (fun K hK => ?_)
    obtain ⟨y2, y3, y4, z1, z2, z3, rfl, gg1, gg2, gg3, h⟩ := AwJ_1 hJ
    have h := Lib.hid h
    clear hJ
    go_simp
    refine (l_cross _ _ (h.out.own.nth 5 rfl)).mono ?_
    rintro rr w5 ⟨rfl, hp⟩
    try go_wp2_with fail
    refine hK.out _ _ ⟨.agg #[.float .f64 4629700416936869888, .float .f64 4629700416936869888], .agg #[.float .f64 13837309855095848960, .float .f64 13837309855095848960, .float .f64 4618441417868443648, .float .f64 4618441417868443648, .float .f64 13837309855095848960, .float .f64 13837309855095848960], y3, y4, z1, z2, z3, ?_, fun _ => rfl, fun _ => rfl, by omega, by omega, gg1, gg2, gg3, h.out.putAt 5 rfl hp⟩
    kernel_rfl
  · intro p a v hJ
    refine op_step (o := _) rfl (fun K hK => ?_)
    obtain ⟨y3, y4, z1, z2, z3, rfl, gg1, gg2, gg3, h⟩ := AwJ_2 hJ
    have h := Lib.hid h
    clear hJ
    go_simp
    refine (at_any _ _ _ _).mono ?_
    rintro rr w5 ⟨rfl, hp⟩
    try go_wp2_with fail
    refine hK.out _ _ ⟨.agg #[.float .f64 4629700416936869888, .float .f64 4629700416936869888], .agg #[.float .f64 13837309855095848960, .float .f64 13837309855095848960, .float .f64 4618441417868443648, .float .f64 4618441417868443648, .float .f64 13837309855095848960, .float .f64 13837309855095848960], .agg #[.float .f64 4611686018427387904, .float .f64 4611686018427387904, .float .f64 4613937818241073152, .float .f64 4613937818241073152, .float .f64 4618441417868443648, .float .f64 4618441417868443648], y4, z1, z2, z3, ?_, fun _ => rfl, fun _ => rfl, fun _ => rfl, by omega, gg1, gg2, gg3, h.out.below hp⟩
    kernel_rfl
  · intro p a v hJ
    refine op_step (o := _) rfl (fun K hK => ?_)
    obtain ⟨y4, z1, z2, z3, rfl, gg1, gg2, gg3, h⟩ := AwJ_3 hJ
    have h := Lib.hid h
    clear hJ
    go_simp
    refine (l_norm _ _ (h.out.own.nth 5 rfl)).mono ?_
    rintro rr w5 ⟨rfl, hp⟩
    try go_wp2_with fail
    refine hK.out _ _ ⟨.agg #[.float .f64 4629700416936869888, .float .f64 4629700416936869888], .agg #[.float .f64 13837309855095848960, .float .f64 13837309855095848960, .float .f64 4618441417868443648, .float .f64 4618441417868443648, .float .f64 13837309855095848960, .float .f64 13837309855095848960], .agg #[.float .f64 4611686018427387904, .float .f64 4611686018427387904, .float .f64 4613937818241073152, .float .f64 4613937818241073152, .float .f64 4618441417868443648, .float .f64 4618441417868443648], .agg #[.float .f64 4619567317775286272, .float .f64 4619567317775286272], z1, z2, z3, ?_, fun _ => rfl, fun _ => rfl, fun _ => rfl, fun _ => rfl, gg1, gg2, gg3, h.out.putAt 5 rfl hp⟩
    kernel_rfl
  · intro k p a v hp hJ
    refine op_step (o := _) rfl (fun K hK => ?_)
    obtain ⟨y1, y2, y3, y4, z1, z2, z3, rfl, ee1, ee2, ee3, ee4, gg1, gg2, gg3, h⟩ := hJ
    have h := Lib.hid h
    go_simp
    refine hK.out _ _ ⟨v.heap.size, y1, y2, y3, y4, .pointer (some ⟨v.heap.size, 0, none⟩), z2, z3, ?_, ee1, ee2, ee3, ee4, fun q hq => ptr_set hq, ptr_keep 1 (by decide) gg2, ptr_keep 2 (by decide) gg3, h.out.alloc hp rfl _⟩
    kernel_rfl
  · intro k p a v hp hJ
    refine op_step (o := _) rfl (fun K hK => ?_)
    obtain ⟨y1, y2, y3, y4, z1, z2, z3, rfl, ee1, ee2, ee3, ee4, gg1, gg2, gg3, h⟩ := hJ
    have h := Lib.hid h
    go_simp
    refine hK.out _ _ ⟨v.heap.size, y1, y2, y3, y4, z1, .pointer (some ⟨v.heap.size, 0, none⟩), z3, ?_, ee1, ee2, ee3, ee4, ptr_keep 0 (by decide) gg1, fun q hq => ptr_set hq, ptr_keep 2 (by decide) gg3, h.out.alloc hp rfl _⟩
    kernel_rfl
  · intro k p a v hp hJ
    refine op_step (o := _) rfl (fun K hK => ?_)
    obtain ⟨y1, y2, y3, y4, z1, z2, z3, rfl, ee1, ee2, ee3, ee4, gg1, gg2, gg3, h⟩ := hJ
    have h := Lib.hid h
    go_simp
    refine hK.out _ _ ⟨v.heap.size, y1, y2, y3, y4, z1, z2, .pointer (some ⟨v.heap.size, 0, none⟩), ?_, ee1, ee2, ee3, ee4, ptr_keep 0 (by decide) gg1, ptr_keep 1 (by decide) gg2, fun q hq => ptr_set hq, h.out.alloc hp rfl _⟩
    kernel_rfl
  · intro pq1 pq2 pq3 a v hJ
    obtain ⟨rfl, h⟩ := AwJ_fin hJ
    clear hJ
    replace M := Lib.hid h.fin3
    clear h
    refine tails_one (T := []) (i := 11) (o := _) rfl (by kernel_rfl) (fun K hK => ?_)
    have kc := (M.out.nth 0 rfl).2.1
    have kf := (M.out.nth 0 rfl).2.2
    replace M := Lib.hid (M.out.set2 0 rfl (.float .f64 4629700416936869888) (.float .f64 4629700416936869888))
    go_simp
    refine hK.out _ _ (Or.inr ⟨((M.out.nth 7 rfl).six).1, ((M.out.nth 7 rfl).six).2.1, ((M.out.nth 7 rfl).six).2.2.1, ((M.out.nth 7 rfl).six).2.2.2.1, ((M.out.nth 7 rfl).six).2.2.2.2.1, ((M.out.nth 7 rfl).six).2.2.2.2.2, (M.out.nth 6 rfl).six⟩) (fun hHeld => ?_)
    clear hK K hHeld kc kf
    refine tails_one (T := []) (i := 12) (o := _) rfl (by kernel_rfl) (fun K hK => ?_)
    have kc := (M.out.nth 1 rfl).2.1
    have kf := (M.out.nth 1 rfl).2.2
    replace M := Lib.hid (M.out.set6 1 rfl (.float .f64 13837309855095848960) (.float .f64 13837309855095848960) (.float .f64 4618441417868443648) (.float .f64 4618441417868443648) (.float .f64 13837309855095848960) (.float .f64 13837309855095848960))
    go_simp
    refine hK.out _ _ (Or.inr ⟨((M.out.nth 7 rfl).six).1, ((M.out.nth 7 rfl).six).2.1, ((M.out.nth 7 rfl).six).2.2.1, ((M.out.nth 7 rfl).six).2.2.2.1, ((M.out.nth 7 rfl).six).2.2.2.2.1, ((M.out.nth 7 rfl).six).2.2.2.2.2, (M.out.nth 6 rfl).six⟩) (fun hHeld => ?_)
    clear hK K hHeld kc kf
    refine tails_one (T := []) (i := 13) (o := _) rfl (by kernel_rfl) (fun K hK => ?_)
    have kc := (M.out.nth 2 rfl).2.1
    have kf := (M.out.nth 2 rfl).2.2
    replace M := Lib.hid (M.out.set2 2 rfl (.float .f64 4619567317775286272) (.float .f64 4619567317775286272))
    go_simp
    refine hK.out _ _ (Or.inr ⟨((M.out.nth 7 rfl).six).1, ((M.out.nth 7 rfl).six).2.1, ((M.out.nth 7 rfl).six).2.2.1, ((M.out.nth 7 rfl).six).2.2.2.1, ((M.out.nth 7 rfl).six).2.2.2.2.1, ((M.out.nth 7 rfl).six).2.2.2.2.2, (M.out.nth 6 rfl).six⟩) (fun hHeld => ?_)
    clear hK K hHeld kc kf
    refine tails_done (by kernel_rfl) ?_ _
    refine NoPanic.normal ?_
    revert M
    generalize ((((((((((v.setCell ⟨pq1, 0, none⟩ (.float .f64 4629700416936869888)).setCell ⟨pq1, 1, none⟩ (.float .f64 4629700416936869888)).setCell ⟨pq2, 0, none⟩ (.float .f64 13837309855095848960)).setCell ⟨pq2, 1, none⟩ (.float .f64 13837309855095848960)).setCell ⟨pq2, 2, none⟩ (.float .f64 4618441417868443648)).setCell ⟨pq2, 3, none⟩ (.float .f64 4618441417868443648)).setCell ⟨pq2, 4, none⟩ (.float .f64 13837309855095848960)).setCell ⟨pq2, 5, none⟩ (.float .f64 13837309855095848960)).setCell ⟨pq3, 0, none⟩ (.float .f64 4619567317775286272)).setCell ⟨pq3, 1, none⟩ (.float .f64 4619567317775286272)) = W
    intro M
    clear k1 k2 k3 k4 k5 k6 k7 k8 k9 k10 k11 k12
    go_upto_region 7 with fail
    replace M := Lib.hid M.out.drew
    obtain ⟨k1, k2⟩ := (M.out.nth 0 rfl).two
    obtain ⟨k3, k4, k5, k6, k7, k8⟩ := (M.out.nth 1 rfl).six
    obtain ⟨k9, k10⟩ := (M.out.nth 2 rfl).two
    obtain ⟨k11, k12, k13, k14, k15, k16⟩ := (M.out.nth 4 rfl).six
    obtain ⟨k17, k18, k19, k20, k21, k22⟩ := (M.out.nth 5 rfl).six
    have hq := run_eq_iv
    have t0 : Op.floatEq .f64 0 0 = true := by decide +kernel
    have t1 : Op.floatEq .f64 4629700416936869888 4629700416936869888 = true := by decide +kernel
    have t2 : Op.floatEq .f64 4619567317775286272 4619567317775286272 = true := by decide +kernel
    go_region_held3 (fun w' => w'.cell? ⟨pq1, 0, none⟩ = some (.float .f64 4629700416936869888) ∧ w'.cell? ⟨pq1, 1, none⟩ = some (.float .f64 4629700416936869888) ∧ w'.cell? ⟨pq2, 0, none⟩ = some (.float .f64 13837309855095848960) ∧ w'.cell? ⟨pq2, 1, none⟩ = some (.float .f64 13837309855095848960) ∧ w'.cell? ⟨pq2, 2, none⟩ = some (.float .f64 4618441417868443648) ∧ w'.cell? ⟨pq2, 3, none⟩ = some (.float .f64 4618441417868443648) ∧ w'.cell? ⟨pq2, 4, none⟩ = some (.float .f64 13837309855095848960) ∧ w'.cell? ⟨pq2, 5, none⟩ = some (.float .f64 13837309855095848960) ∧ w'.cell? ⟨pq3, 0, none⟩ = some (.float .f64 4619567317775286272) ∧ w'.cell? ⟨pq3, 1, none⟩ = some (.float .f64 4619567317775286272) ∧ w'.cell? ⟨w4.heap.size, 0, none⟩ = some (.float .f64 0) ∧ w'.cell? ⟨w4.heap.size, 1, none⟩ = some (.float .f64 0) ∧ w'.cell? ⟨w4.heap.size, 2, none⟩ = some (.float .f64 0) ∧ w'.cell? ⟨w4.heap.size, 3, none⟩ = some (.float .f64 0) ∧ w'.cell? ⟨w4.heap.size, 4, none⟩ = some (.float .f64 4607182418800017408) ∧ w'.cell? ⟨w4.heap.size, 5, none⟩ = some (.float .f64 4607182418800017408) ∧ w'.cell? ⟨w3.heap.size, 0, none⟩ = some (.float .f64 4603579539098121011) ∧ w'.cell? ⟨w3.heap.size, 1, none⟩ = some (.float .f64 4603579539098121012) ∧ w'.cell? ⟨w3.heap.size, 2, none⟩ = some (.float .f64 0) ∧ w'.cell? ⟨w3.heap.size, 3, none⟩ = some (.float .f64 0) ∧ w'.cell? ⟨w3.heap.size, 4, none⟩ = some (.float .f64 4605380978949069209) ∧ w'.cell? ⟨w3.heap.size, 5, none⟩ = some (.float .f64 4605380978949069210)) (((try dsimp only); (repeat' apply And.intro); all_goals (repeat (first | (with_reducible assumption) | ((with_reducible refine keep_undrew ?_); (with_reducible assumption)) | (with_reducible refine keep_drew ?_)))))
      (first
      | (go_at_call 11; (with_reducible refine (l_has1 _).mono ?_); rintro rr w7 ⟨rfl, hb⟩; replace M := Lib.hid (M.out.below hb); clear hb k1 k2 k3 k4 k5 k6 k7 k8 k9 k10 k11 k12 k13 k14 k15 k16 k17 k18 k19 k20 k21 k22; obtain ⟨k1, k2⟩ := (M.out.nth 0 rfl).two; obtain ⟨k3, k4, k5, k6, k7, k8⟩ := (M.out.nth 1 rfl).six; obtain ⟨k9, k10⟩ := (M.out.nth 2 rfl).two; obtain ⟨k11, k12, k13, k14, k15, k16⟩ := (M.out.nth 4 rfl).six; obtain ⟨k17, k18, k19, k20, k21, k22⟩ := (M.out.nth 5 rfl).six)
      | (go_at_call 11; (with_reducible refine (l_has2 _).mono ?_); rintro rr w7 ⟨rfl, hb⟩; replace M := Lib.hid (M.out.below hb); clear hb k1 k2 k3 k4 k5 k6 k7 k8 k9 k10 k11 k12 k13 k14 k15 k16 k17 k18 k19 k20 k21 k22; obtain ⟨k1, k2⟩ := (M.out.nth 0 rfl).two; obtain ⟨k3, k4, k5, k6, k7, k8⟩ := (M.out.nth 1 rfl).six; obtain ⟨k9, k10⟩ := (M.out.nth 2 rfl).two; obtain ⟨k11, k12, k13, k14, k15, k16⟩ := (M.out.nth 4 rfl).six; obtain ⟨k17, k18, k19, k20, k21, k22⟩ := (M.out.nth 5 rfl).six)
      | (go_at_call 24; (with_reducible refine (at_any _ _ _ _).mono ?_); rintro rr w7 ⟨rfl, hb⟩; replace M := Lib.hid (M.out.below hb); clear hb k1 k2 k3 k4 k5 k6 k7 k8 k9 k10 k11 k12 k13 k14 k15 k16 k17 k18 k19 k20 k21 k22; obtain ⟨k1, k2⟩ := (M.out.nth 0 rfl).two; obtain ⟨k3, k4, k5, k6, k7, k8⟩ := (M.out.nth 1 rfl).six; obtain ⟨k9, k10⟩ := (M.out.nth 2 rfl).two; obtain ⟨k11, k12, k13, k14, k15, k16⟩ := (M.out.nth 4 rfl).six; obtain ⟨k17, k18, k19, k20, k21, k22⟩ := (M.out.nth 5 rfl).six)
      | (go_at_call 7; (with_reducible refine (sameV_any _ _ _ _ _ _ _).mono ?_); rintro rr w7 ⟨rfl, hb⟩; replace M := Lib.hid (M.out.below hb); clear hb k1 k2 k3 k4 k5 k6 k7 k8 k9 k10 k11 k12 k13 k14 k15 k16 k17 k18 k19 k20 k21 k22; obtain ⟨k1, k2⟩ := (M.out.nth 0 rfl).two; obtain ⟨k3, k4, k5, k6, k7, k8⟩ := (M.out.nth 1 rfl).six; obtain ⟨k9, k10⟩ := (M.out.nth 2 rfl).two; obtain ⟨k11, k12, k13, k14, k15, k16⟩ := (M.out.nth 4 rfl).six; obtain ⟨k17, k18, k19, k20, k21, k22⟩ := (M.out.nth 5 rfl).six)
      | (go_at_call 10; (with_reducible refine (err_any 0 w.heap.size 0 _ (M.out.nth 8 rfl).pc).mono ?_); rintro rr w7 ⟨rfl, rfl⟩))
    go_wp2
    go_ret
    exact ⟨rfl, M.out.base⟩

end Go.Proofs.Ytlibfeegdjbhcaa
