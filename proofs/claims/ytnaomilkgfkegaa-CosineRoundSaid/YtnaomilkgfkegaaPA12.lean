/- What the claim stands on, part 13: QFA, QFD, QO1, QVt. -/
import Derived.Test.YtnaomilkgfkegaaPA11
import Derived.LoopN
import Derived.Deep.RegionHeld3
set_option maxHeartbeats 4000000
set_option maxRecDepth 100000
namespace Go.Proofs.Ytnaomilkgfkegaa
section
open Go.RowKit

section
variable {P : Program} {ops : Array Oper} {Q : Exit → Act → World → Prop} {md : Region.Mode} {S : World → Prop} {T : List Nat}

def lstOf (L0 : Array Bool) (cs ms : List Nat) (k : Nat) (p : List Bool) : Array Bool :=
  (ms.zip p).foldl (fun l x => if x.2 then l.setIfInBounds x.1 true else l) ((cs.take k).foldl (fun l i => l.setIfInBounds i true) L0)
def boolLists : Nat → List (List Bool)
  | 0 => [[]]
  | n + 1 => (boolLists n).flatMap fun l => [false :: l, true :: l]
theorem mem_bools : ∀ (p : List Bool), p ∈ boolLists p.length
  | [] => by simp [boolLists]
  | b :: p => by
    have h := mem_bools p
    simp only [boolLists, List.length_cons, List.mem_flatMap]
    exact ⟨p, h, by cases b <;> simp⟩

def latAt (md : Region.Mode) (ops : Array Oper) (L0 : Array Bool) (cs ms : List Nat) (k : Nat) (p : List Bool) : Bool :=
  (decide (k = cs.length) && p.all id) ||
  (!(Region.ready md ops (lstOf L0 cs ms k p)).isEmpty &&
   (Region.ready md ops (lstOf L0 cs ms k p)).all (fun i =>
    (match cs[k]? with
      | some j => i == j && ((lstOf L0 cs ms k p).setIfInBounds i true == lstOf L0 cs ms (k + 1) p)
      | none => false) ||
    (List.range ms.length).any (fun m => ms[m]? == some i && p[m]? == some false && ((lstOf L0 cs ms k p).setIfInBounds i true == lstOf L0 cs ms k (p.set m true)))))
theorem count_set : ∀ (p : List (Option Nat)) (m q : Nat), p[m]? = some none → (p.set m (some q)).count none + 1 = p.count none
  | [], m, q, h => by simp at h
  | x :: p, 0, q, h => by
    simp at h
    subst h
    simp
  | x :: p, m + 1, q, h => by
    have ih := count_set p m q (by simpa using h)
    simp only [List.set_cons_succ, List.count_cons]
    omega
theorem count_nil : ∀ (p : List (Option Nat)), p.count none = 0 → ∀ x ∈ p, x.isSome = true
  | [], _, _, h => by cases h
  | y :: p, h, x, hx => by
    rw [List.count_cons] at h
    rcases List.mem_cons.1 hx with e | e
    · subst e
      cases x
      · simp at h
      · rfl
    · exact count_nil p (by omega) x e

end
end
section
open Go.RowKit

structure Own (B : World) (l : List (Nat × Array Value)) (v : World) : Prop where
  base : Below B.heap.size B v
  blocks : ∀ x, x ∈ l → Has1 v x ∧ B.heap.size ≤ x.1
  apart : l.Pairwise (fun x y => x.1 ≠ y.1)

section
variable {B v v' : World} {l : List (Nat × Array Value)}
theorem Own.nil (B : World) : Own B [] B := ⟨Below.refl _ _, fun x h => (by cases h), List.Pairwise.nil⟩
theorem Own.below (h : Own B l v) (hb : Below v.heap.size v v') : Own B l v' := ⟨h.base.trans (hb.mono h.base.size), fun x hx => ⟨(h.blocks x hx).1.below hb, (h.blocks x hx).2⟩, h.apart⟩
theorem Own.drew (h : Own B l v) : Own B l v.drew := ⟨h.base.drew, h.blocks, h.apart⟩
theorem Own.drewN (h : Own B l v) (n : Nat) : Own B l (v.drewN n) := ⟨Below.drewN h.base n, h.blocks, h.apart⟩
theorem Own.made (h : Own B l v) (c : Array Value) (t : TypeId) : Own B ((v.heap.size, c) :: l) (v.alloc (.cells c t)) :=
  ⟨h.base.alloc h.base.size _, fun x hx => (by
    rcases List.mem_cons.1 hx with e | e
    · rw [e]; exact ⟨Has1.made v c t, h.base.size⟩
    · exact ⟨(h.blocks x e).1.below (bel1 _ _), (h.blocks x e).2⟩),
   List.Pairwise.cons (fun y hy => Ne.symm (Nat.ne_of_lt (h.blocks y hy).1.1)) h.apart⟩
theorem Own.nth (h : Own B l v) (i : Nat) {x : Nat × Array Value} (hx : l[i]? = some x) : Has1 v x := (h.blocks x (List.mem_of_getElem? hx)).1
theorem Own.lowest (h : Own B l v) (i : Nat) {x : Nat × Array Value} (hx : l[i]? = some x) : B.heap.size ≤ x.1 := (h.blocks x (List.mem_of_getElem? hx)).2
theorem Own.size (h : Own B l v) (i : Nat) {x : Nat × Array Value} (hx : l[i]? = some x) : x.1 < v.heap.size := (h.nth i hx).1
theorem Own.mem (h : Own B l v) : Mem B l v := ⟨h.base, fun x hx => (h.blocks x hx).1⟩
theorem Own.ne (h : Own B l v) (i j : Nat) {x y : Nat × Array Value} (hx : l[i]? = some x) (hy : l[j]? = some y) (hij : i ≠ j) : x.1 ≠ y.1 := by
  obtain ⟨li, ei⟩ := List.getElem?_eq_some_iff.1 hx
  obtain ⟨lj, ej⟩ := List.getElem?_eq_some_iff.1 hy
  have hp := List.pairwise_iff_getElem.1 h.apart
  rcases Nat.lt_or_ge i j with g | g
  · rw [← ei, ← ej]; exact hp i j li lj g
  · rw [← ei, ← ej]; exact Ne.symm (hp j i lj li (by omega))
theorem Own.at (h : Own B l v) (i : Nat) {q : Nat} {c c' : Array Value} (hi : l[i]? = some (q, c)) (hbase : Below B.heap.size B v') (hq : Has1 v' (q, c')) (hother : ∀ x, Has1 v x → q ≠ x.1 → Has1 v' x) : Own B (l.set i (q, c')) v' where
  base := hbase
  blocks := fun x hx => by
    obtain ⟨j, lj, ej⟩ := List.mem_iff_getElem.1 hx
    rw [List.getElem_set] at ej
    split at ej
    · rw [← ej]; exact ⟨hq, (h.lowest i hi : B.heap.size ≤ (q, c).1)⟩
    · rename_i hne
      rw [List.length_set] at lj
      have hj : l[j]? = some x := by rw [List.getElem?_eq_getElem lj, ej]
      exact ⟨hother x (h.nth j hj) (h.ne i j hi hj hne), h.lowest j hj⟩
  apart := by
    rw [List.pairwise_iff_getElem]
    have hp := List.pairwise_iff_getElem.1 h.apart
    obtain ⟨li, ei⟩ := List.getElem?_eq_some_iff.1 hi
    have e1 : ∀ (j : Nat) (lj : j < (l.set i (q, c')).length), ((l.set i (q, c'))[j]).1 = (l[j]'(by rw [List.length_set] at lj; exact lj)).1 := fun j lj => by
      rw [List.getElem_set]
      split
      · rename_i he
        subst he
        rw [ei]
      · rfl
    intro j k lj lk hjk
    rw [e1 j lj, e1 k lk]
    rw [List.length_set] at lj lk
    exact hp j k lj lk hjk
theorem Own.putAt (h : Own B l v) (i : Nat) {q : Nat} {x y : Value} (hi : l[i]? = some (q, #[x])) (hb : Put ⟨q, 0, none⟩ y v v') : Own B (l.set i (q, #[y])) v' :=
  h.at i hi (h.base.trans (hb.lift (h.lowest i hi) h.base.size)) ((h.nth i hi).own hb) (fun _ hx hne => hx.put hne hb)
theorem Own.set2 (h : Own B l v) (i : Nat) {q : Nat} {x y : Value} (hi : l[i]? = some (q, #[x, y])) (x' y' : Value) : Own B (l.set i (q, #[x', y'])) ((v.setCell ⟨q, 0, none⟩ x').setCell ⟨q, 1, none⟩ y') :=
  h.at i hi ((h.base.setCell (h.lowest i hi) _).setCell (h.lowest i hi) _) ((h.nth i hi).set2 x' y') (fun _ hx hne => (hx.set hne).set hne)
theorem Own.set6 (h : Own B l v) (i : Nat) {q : Nat} {z0 z1 z2 z3 z4 z5 : Value} (hi : l[i]? = some (q, #[z0, z1, z2, z3, z4, z5])) (y0 y1 y2 y3 y4 y5 : Value) :
    Own B (l.set i (q, #[y0, y1, y2, y3, y4, y5])) ((((((v.setCell ⟨q, 0, none⟩ y0).setCell ⟨q, 1, none⟩ y1).setCell ⟨q, 2, none⟩ y2).setCell ⟨q, 3, none⟩ y3).setCell ⟨q, 4, none⟩ y4).setCell ⟨q, 5, none⟩ y5) :=
  h.at i hi ((((((h.base.setCell (h.lowest i hi) _).setCell (h.lowest i hi) _).setCell (h.lowest i hi) _).setCell (h.lowest i hi) _).setCell (h.lowest i hi) _).setCell (h.lowest i hi) _)
    ((((((( h.nth i hi).setIn 0 y0).setIn 1 y1).setIn 2 y2).setIn 3 y3).setIn 4 y4).setIn 5 y5) (fun _ hx hne => (((((hx.set hne).set hne).set hne).set hne).set hne).set hne)
end

structure OwnF (B : World) (l : List (Nat × Array Value)) (zc : List (Array Value)) (p : List (Option Nat)) (v : World) : Prop where
  own : Own B l v
  blk : ∀ (m q : Nat), p[m]? = some (some q) → (∃ c, zc[m]? = some c ∧ Has1 v (q, c)) ∧ B.heap.size ≤ q ∧ ∀ x, x ∈ l → q ≠ x.1
  apart : ∀ (m n q : Nat), p[m]? = some (some q) → p[n]? = some (some q) → m = n

section
variable {B v v' : World} {l : List (Nat × Array Value)} {zc : List (Array Value)} {p : List (Option Nat)}
theorem OwnF.start (h : Own B l v) (n : Nat) : OwnF B l zc (List.replicate n none) v :=
  ⟨h, fun m q hm => by simp [List.getElem?_replicate] at hm, fun m n' q hm => by simp [List.getElem?_replicate] at hm⟩
theorem OwnF.below (h : OwnF B l zc p v) (hb : Below v.heap.size v v') : OwnF B l zc p v' :=
  ⟨h.own.below hb, fun m q hm => by
    obtain ⟨⟨c, h1, h2⟩, h3⟩ := h.blk m q hm
    exact ⟨⟨c, h1, h2.below hb⟩, h3⟩, h.apart⟩
theorem OwnF.putAt (h : OwnF B l zc p v) (i : Nat) {q : Nat} {x0 y : Value} (hi : l[i]? = some (q, #[x0])) (hb : Put ⟨q, 0, none⟩ y v v') : OwnF B (l.set i (q, #[y])) zc p v' :=
  ⟨h.own.putAt i hi hb, fun m r hm => by
    obtain ⟨⟨c, h1, h2⟩, h3, h4⟩ := h.blk m r hm
    refine ⟨⟨c, h1, h2.put (Ne.symm (h4 _ (List.mem_of_getElem? hi))) hb⟩, h3, fun x hx => ?_⟩
    rcases List.mem_or_eq_of_mem_set hx with e | e
    · exact h4 x e
    · rw [e]; exact (h4 _ (List.mem_of_getElem? hi) : r ≠ (q, #[x0]).1), h.apart⟩
theorem OwnF.alloc (h : OwnF B l zc p v) {m : Nat} {c : Array Value} (_hm : p[m]? = some none) (hz : zc[m]? = some c) (t : TypeId) : OwnF B l zc (p.set m (some v.heap.size)) (v.alloc (.cells c t)) where
  own := h.own.below (bel1 _ _)
  blk := fun n q hn => by
    rw [List.getElem?_set] at hn
    split at hn
    · rename_i e
      subst e
      split at hn
      · simp at hn
        subst hn
        exact ⟨⟨c, hz, Has1.made v c t⟩, h.own.base.size, fun x hx => Ne.symm (Nat.ne_of_lt (h.own.blocks x hx).1.1)⟩
      · simp at hn
    · obtain ⟨⟨c', h1, h2⟩, h3⟩ := h.blk n q hn
      exact ⟨⟨c', h1, h2.below (bel1 _ _)⟩, h3⟩
  apart := fun n n' q hn hn' => by
    have key : ∀ j, (p.set m (some v.heap.size))[j]? = some (some q) → (j = m ∧ q = v.heap.size) ∨ (j ≠ m ∧ p[j]? = some (some q)) := fun j hj => by
      rw [List.getElem?_set] at hj
      split at hj
      · rename_i e
        split at hj
        · simp at hj; exact Or.inl ⟨e.symm, hj.symm⟩
        · simp at hj
      · rename_i e; exact Or.inr ⟨fun e' => e e'.symm, hj⟩
    have small : ∀ j, p[j]? = some (some q) → q < v.heap.size := fun j hj => by
      obtain ⟨⟨c', _, h2⟩, _⟩ := h.blk j q hj
      exact h2.1
    rcases key n hn with ⟨e1, e2⟩ | ⟨e1, e2⟩ <;> rcases key n' hn' with ⟨g1, g2⟩ | ⟨g1, g2⟩
    · omega
    · have := small n' g2; omega
    · have := small n e2; omega
    · exact h.apart n n' q e2 g2
theorem OwnF.fin1 {c1 : Array Value} {q1 : Nat} (h : OwnF B l [c1] [some q1] v) : Own B ((q1, c1) :: l) v := by
  obtain ⟨⟨c, a1, a2⟩, a3, a4⟩ := h.blk 0 q1 rfl
  obtain rfl : c1 = c := by simpa using a1
  refine ⟨h.own.base, fun x hx => ?_, List.Pairwise.cons (fun y hy => a4 y hy) h.own.apart⟩
  rcases List.mem_cons.1 hx with e | e
  · rw [e]; exact ⟨a2, a3⟩
  · exact h.own.blocks x e
theorem OwnF.fin2 {c1 c2 : Array Value} {q1 q2 : Nat} (h : OwnF B l [c1, c2] [some q1, some q2] v) : Own B ((q1, c1) :: (q2, c2) :: l) v := by
  have k : Own B ((q2, c2) :: l) v := OwnF.fin1 ⟨h.own, fun m q hm => by
      match m with
      | 0 => exact h.blk 1 q hm
      | m + 1 => simp at hm, fun m n q hm hn => by
      match m, n with
      | 0, 0 => rfl
      | 0, n + 1 => simp at hn
      | m + 1, _ => simp at hm⟩
  obtain ⟨⟨c, a1, a2⟩, a3, a4⟩ := h.blk 0 q1 rfl
  obtain rfl : c1 = c := by simpa using a1
  refine ⟨h.own.base, fun x hx => ?_, List.Pairwise.cons (fun y hy => ?_) k.apart⟩
  · rcases List.mem_cons.1 hx with e | e
    · rw [e]; exact ⟨a2, a3⟩
    · exact k.blocks x e
  · rcases List.mem_cons.1 hy with e | e
    · rw [e]; intro he
      have := h.apart 0 1 q1 rfl (by rw [show q1 = q2 from he]; rfl)
      omega
    · exact a4 y e
end

section
variable {P : Program} {ops : Array Oper} {Q : Exit → Act → World → Prop} {md : Region.Mode} {S : World → Prop} {T : List Nat}
theorem op_step {i : Nat} {o : Oper} {a : Act} {w : World} {J : Act → World → Prop} (hi : ops[i]? = some o)
    (h : ∀ K : Act → World → Prop, Shut (∀ b v, J b v → K b v) → if Region.wanted o (yielded ops a.tmps) then o.wp P a w K Q else K (a.put o.dst undef) w) : wpOp P ops Q i J a w := by
  have k := h J (fun _ _ h => h)
  unfold wpOp
  simp only [hi]
  split at k
  · rename_i hw
    rw [if_pos hw]; exact Or.inl k
  · rename_i hw
    rw [if_neg hw]; exact k

theorem put_ex {a : Act} {s : Nat} (h : s < a.tmps.size) : ∃ y, a.put (some s) y = a := by
  refine ⟨a.tmps[s], ?_⟩
  cases a
  simp only [Act.put]
  congr 1
  apply Array.ext (by simp)
  intro i h1 h2
  rw [Array.getElem_setIfInBounds]
  split
  · rename_i e; subst e; rfl
  · rfl
end
theorem fin_one {p : List (Option Nat)} (hp : p.length = 1) (h : ∀ x ∈ p, x.isSome = true) : ∃ q, p = [some q] := by
  match p, hp with
  | [some q], _ => exact ⟨q, rfl⟩
  | [none], _ => exact absurd (h none (by simp)) (by decide)
theorem fin_two {p : List (Option Nat)} (hp : p.length = 2) (h : ∀ x ∈ p, x.isSome = true) : ∃ q r, p = [some q, some r] := by
  match p, hp with
  | [some q, some r], _ => exact ⟨q, r, rfl⟩
  | [none, _], _ => exact absurd (h none (by simp)) (by decide)
  | [_, none], _ => exact absurd (h none (by simp)) (by decide)
theorem ptr_set {p : List (Option Nat)} {m n q : Nat} (h : (p.set m (some n))[m]? = some (some q)) : (.pointer (some ⟨n, 0, none⟩) : Value) = .pointer (some ⟨q, 0, none⟩) := by
  rw [List.getElem?_set, if_pos rfl] at h
  split at h
  · simp at h; rw [h]
  · simp at h
theorem ptr_keep {p : List (Option Nat)} {m n : Nat} (j : Nat) (hj : m ≠ j) {z : Value} (h : ∀ q, p[j]? = some (some q) → z = .pointer (some ⟨q, 0, none⟩)) : ∀ q, (p.set m (some n))[j]? = some (some q) → z = .pointer (some ⟨q, 0, none⟩) := fun q hq => by
  rw [List.getElem?_set, if_neg hj] at hq
  exact h q hq
section
variable {P : Program} {ops : Array Oper} {Q : Exit → Act → World → Prop} {md : Region.Mode} {S : World → Prop} {T : List Nat}
end
end
section
open Go.RowKit

section
variable {P : Program} {ops : Array Oper} {Q : Exit → Act → World → Prop} {md : Region.Mode} {S : World → Prop} {T : List Nat}

end
end
section
open Go.RowKit

abbrev RowL := List (Nat × Array Value)
section
variable {B v : World} {l : RowL} {x y z : Nat × Array Value}
theorem Own.front (h : Own B (x :: y :: l) v) : Own B (y :: x :: l) v := by
  have h1 := List.pairwise_cons.1 h.apart
  have h2 := List.pairwise_cons.1 h1.2
  refine ⟨h.base, fun r hr => h.blocks r ?_, ?_⟩
  · simp only [List.mem_cons] at hr ⊢
    rcases hr with e | e | e <;> simp [e]
  · refine List.pairwise_cons.2 ⟨fun r hr => ?_, List.pairwise_cons.2 ⟨fun r hr => h1.1 r (List.mem_cons_of_mem _ hr), h2.2⟩⟩
    rcases List.mem_cons.1 hr with e | e
    · rw [e]; exact Ne.symm (h1.1 y (List.mem_cons_self ..))
    · exact h2.1 r e
theorem Own.under (h : Own B (x :: y :: z :: l) v) : Own B (x :: z :: y :: l) v := by
  have h1 := List.pairwise_cons.1 h.apart
  have k : Own B (y :: z :: l) v := ⟨h.base, fun r hr => h.blocks r (List.mem_cons_of_mem _ hr), h1.2⟩
  have k' := k.front
  refine ⟨h.base, fun r hr => ?_, List.pairwise_cons.2 ⟨fun r hr => h1.1 r ?_, k'.apart⟩⟩
  · rcases List.mem_cons.1 hr with e | e
    · rw [e]; exact h.blocks x (List.mem_cons_self ..)
    · exact k'.blocks r e
  · simp only [List.mem_cons] at hr ⊢
    rcases hr with e | e | e <;> simp [e]
theorem Own.tail (h : Own B (x :: l) v) : Own B l v := ⟨h.base, fun r hr => h.blocks r (List.mem_cons_of_mem _ hr), (List.pairwise_cons.1 h.apart).2⟩
theorem Own.front2 (h : Own B (x :: y :: z :: l) v) : Own B (z :: x :: y :: l) v := h.under.front
end
section
variable {B v v' : World} {l : RowL} {q : Nat} {x y x' y' : Value} {z : Nat × Array Value}
theorem Own.putHead (h : Own B ((q, #[x]) :: l) v) (hb : Put ⟨q, 0, none⟩ y v v') : Own B ((q, #[y]) :: l) v' := h.putAt 0 rfl hb
theorem OwnF.putHead {zc : List (Array Value)} {p : List (Option Nat)} (h : OwnF B ((q, #[x]) :: l) zc p v) (hb : Put ⟨q, 0, none⟩ y v v') : OwnF B ((q, #[y]) :: l) zc p v' := h.putAt 0 rfl hb
end
theorem tk {P : Program} {ops : Array Oper} {Q : Exit → Act → World → Prop} {md : Region.Mode} {S : World → Prop} {o : Oper} {x : Value} {n : Nat} {listed : Array Bool} {a : Act} {w : World} (i : Nat) (hi : ops[i]? = some o)
    (hb : (Region.noSelect ops && Region.free md ops listed i && (Region.ready md ops listed).contains i && closedB md ops listed) = true)
    (hy : Region.wanted o (yielded ops a.tmps) = true ∧ ∀ w, S w → (execOp a.eval o).run P w = .ok (.value x) w) (hQ : ∀ c a w, Q (.panic c) (a.put o.dst x) w → Q (.panic c) a w) (hS : S w)
    (h : wpAnyV P md ops Q S [] n (listed.setIfInBounds i true) (a.put o.dst x) w) : wpAnyV P md ops Q S [] (n + 1) listed a w := by
  simp only [Bool.and_eq_true] at hb
  exact tails_take hi hb.1.1.1 hb.1.1.2 hb.1.2 (by rw [hb.2]; rfl) hQ (Or.inl hy) hS h

abbrev KN (f : FuncId) (e e' : Int) (x rl rh : Nat) : Prop := ∀ (pb : Nat) (v : World), Has1 v (pb, #[.int .i64 e]) → Calls Try.prog f #[.pointer (some ⟨pb, 0, none⟩), .float .f64 x] v fun r w' => r = .returned (.agg #[.float .f64 rl, .float .f64 rh]) ∧ Put ⟨pb, 0, none⟩ (.int .i64 e') v w'
abbrev K1 (f : FuncId) (e e' : Int) (al ah rl rh : Nat) : Prop := ∀ (pb : Nat) (v : World), Has1 v (pb, #[.int .i64 e]) → Calls Try.prog f #[.pointer (some ⟨pb, 0, none⟩), .agg #[.float .f64 al, .float .f64 ah]] v fun r w' => r = .returned (.agg #[.float .f64 rl, .float .f64 rh]) ∧ Put ⟨pb, 0, none⟩ (.int .i64 e') v w'
abbrev K2 (f : FuncId) (e e' : Int) (al ah bl bh rl rh : Nat) : Prop := ∀ (pb : Nat) (v : World), Has1 v (pb, #[.int .i64 e]) → Calls Try.prog f #[.pointer (some ⟨pb, 0, none⟩), .agg #[.float .f64 al, .float .f64 ah], .agg #[.float .f64 bl, .float .f64 bh]] v fun r w' => r = .returned (.agg #[.float .f64 rl, .float .f64 rh]) ∧ Put ⟨pb, 0, none⟩ (.int .i64 e') v w'
end
section
open Go.RowKit
attribute [local go_sem] run_store_float

def clampW (x : Nat) : Nat := minW (maxW x 0) u1
theorem clamp_facts {x : Nat} (lx : x < 18446744073709551616) (rx : rightB x = true) : clampW x < 18446744073709551616 ∧ rightB (clampW x) = true ∧ val (clampW x) = min (max (val x) 0) (val u1) := by
  obtain ⟨m1, m2, m3⟩ := max_facts x 0 lx (by decide) rx (by decide)
  obtain ⟨n1, n2, n3⟩ := min_facts (maxW x 0) u1 m1 (by decide) m2 (by decide)
  refine ⟨n1, n2, ?_⟩
  show val (minW (maxW x 0) u1) = _
  rw [n3, m3]; rfl

theorem Has1.four {v : World} {b : Nat} {x0 x1 x2 x3 : Value} (h : Has1 v (b, #[x0, x1, x2, x3])) :
    v.cell? ⟨b, 0, none⟩ = some x0 ∧ v.cell? ⟨b, 1, none⟩ = some x1 ∧ v.cell? ⟨b, 2, none⟩ = some x2 ∧ v.cell? ⟨b, 3, none⟩ = some x3 :=
  ⟨h.2.1 0, h.2.1 1, h.2.1 2, h.2.1 3⟩

end
section
open Go.RowKit

def sqrtR (a : Res) : Res := sqrtI a.lo a.hi
structure V3 where
  x : Res
  y : Res
  z : Res
structure FitV (a : V3) : Prop where
  x : Fit a.x
  y : Fit a.y
  z : Fit a.z
structure InV (a b : V3) : Prop where
  x : In a.x b.x
  y : In a.y b.y
  z : In a.z b.z
theorem InV.refl {a : V3} (h : FitV a) : InV a a := ⟨.refl h.x, .refl h.y, .refl h.z⟩
theorem InV.fit {a b : V3} (h : InV a b) : FitV a := ⟨h.x.fit, h.y.fit, h.z.fit⟩

section
variable {e e' : Int} {a A b B : V3} {k K : Res}
end

end
section
open Go.RowKit

def clampR (a : Res) : Res := ⟨a.e, clampW a.lo, clampW a.hi⟩
def maxR (a b : Res) : Res := maxI a.lo a.hi b.lo b.hi
theorem max_in {a A b B : Res} (ha : In a A) (fA : Fit A) (hb : In b B) (fB : Fit B) (he : (maxR A B).e = 0) : In (maxR a b) (maxR A B) := ask_in a A b B 5 (by decide) ha fA hb fB he
theorem clamp_fit {a : Res} (h : Fit a) : Fit (clampR a) := by
  obtain ⟨l1, l2, l3⟩ := clamp_facts h.lo h.rlo
  obtain ⟨m1, m2, m3⟩ := clamp_facts h.hi h.rhi
  have hle := h.le
  refine ⟨h.e, l1, m1, ?_⟩
  show ivR (clampW a.lo) (clampW a.hi) = true
  unfold ivR leB
  rw [l2, m2, decide_eq_true (show val (clampW a.lo) ≤ val (clampW a.hi) by rw [l3, m3]; omega)]; rfl
def unitR : Res := ⟨0, 0, u1⟩
def allR : Res := ⟨0, 9218868437227405311 + 9223372036854775808, 9218868437227405311⟩
theorem unit_fit : Fit unitR := .of (by decide +kernel)
theorem all_fit : Fit allR := .of (by decide +kernel)
theorem clamp_unit {a : Res} (h : Fit a) : In (clampR a) unitR := by
  refine ⟨clamp_fit h, ?_, ?_⟩
  · show val 0 ≤ val (clampW a.lo)
    rw [(clamp_facts h.lo h.rlo).2.2, show val 0 = 0 from by decide +kernel]
    have : (0 : Int) ≤ val u1 := by decide +kernel
    omega
  · show val (clampW a.hi) ≤ val u1
    rw [(clamp_facts h.hi h.rhi).2.2]
    omega
theorem all_num (x : Nat) (_lx : x < 18446744073709551616) (rx : rightB x = true) : val allR.lo ≤ val x ∧ val x ≤ val allR.hi := by
  have r := rung_max rx
  have s := steps_le r
  have e1 : val allR.hi = (steps 9218868437227405311 : Int) := val_pos (by decide)
  have e2 : val allR.lo = -(steps 9218868437227405311 : Int) := val_negs (by decide)
  rw [e1, e2]
  generalize steps 9218868437227405311 = S at s
  cases hs : sgnB x
  · rw [val_pos hs]; omega
  · rw [val_negs hs]; omega
theorem all_in {a : Res} (h : Fit a) : In a allR := by
  have num : ∀ x, x < 18446744073709551616 → rightB x = true → val allR.lo ≤ val x ∧ val x ≤ val allR.hi := fun x lx rx => all_num x lx rx
  exact ⟨h, (num _ h.lo h.rlo).1, (num _ h.hi h.rhi).2⟩

def bigC : Res := ⟨0, 0, 4607182418800017408⟩
def bigN : Res := ⟨0, 4607463893776728064, 4616189618054758400⟩
def bigM : Res := ⟨0, 4589168020290535424, 4625196817309499392⟩

def Di.s2 (_c n : Res) : Res := sqrR (n)
def Di.s3 (c n : Res) : Res := subR (Di.s2 c n) (oneR 4607182418800017408)
def Di.s4 (c _n : Res) : Res := sqrR (c)
def Di.s5 (c n : Res) : Res := addR (Di.s3 c n) (Di.s4 c n)
def Di.g (c n : Res) : Res := sqrtR (Di.s5 c n)
def Di.more (c n : Res) : Res := addR (Di.g c n) (c)
def Di.less (c n : Res) : Res := subR (Di.g c n) (c)
def Di.pq (c n : Res) : Res := divR (Di.less c n) (Di.more c n)
def Di.p (c n : Res) : Res := sqrR (Di.pq c n)
def Di.m11 (c n : Res) : Res := mulR (c) (Di.more c n)
def Di.over (c n : Res) : Res := subR (Di.m11 c n) (oneR 4607182418800017408)
def Di.m13 (c n : Res) : Res := mulR (c) (Di.less c n)
def Di.under (c n : Res) : Res := addR (Di.m13 c n) (oneR 4607182418800017408)
def Di.qq (c n : Res) : Res := divR (Di.over c n) (Di.under c n)
def Di.q (c n : Res) : Res := sqrR (Di.qq c n)
def Di.hp (c n : Res) : Res := mulR (oneR 4602678819172646912) (Di.p c n)
def Di.oq (c n : Res) : Res := addR (oneR 4607182418800017408) (Di.q c n)
def Di.f (c n : Res) : Res := mulR (Di.hp c n) (Di.oq c n)
def Di.out (c n : Res) : Res := clampR (Di.f c n)

structure Di.Fits (c n : Res) : Prop where
  fc : Fit c
  fn : Fit n
  s2' : Fit (Di.s2 c n)
  s3' : Fit (Di.s3 c n)
  s4' : Fit (Di.s4 c n)
  s5' : Fit (Di.s5 c n)
  g' : Fit (Di.g c n)
  more' : Fit (Di.more c n)
  less' : Fit (Di.less c n)
  pq' : Fit (Di.pq c n)
  p' : Fit (Di.p c n)
  m11' : Fit (Di.m11 c n)
  over' : Fit (Di.over c n)
  m13' : Fit (Di.m13 c n)
  under' : Fit (Di.under c n)
  qq' : Fit (Di.qq c n)
  q' : Fit (Di.q c n)
  hp' : Fit (Di.hp c n)
  oq' : Fit (Di.oq c n)
  f' : Fit (Di.f c n)
  out' : Fit (Di.out c n)

structure Di.Parts (c n C N : Res) : Prop where
  s2' : In (Di.s2 c n) (Di.s2 C N)
  s3' : In (Di.s3 c n) (Di.s3 C N)
  s4' : In (Di.s4 c n) (Di.s4 C N)
  s5' : In (Di.s5 c n) (Di.s5 C N)
  g' : In (Di.g c n) (Di.g C N)
  more' : In (Di.more c n) (Di.more C N)
  less' : In (Di.less c n) (Di.less C N)
  pq' : In (Di.pq c n) (Di.pq C N)
  p' : In (Di.p c n) (Di.p C N)
  m11' : In (Di.m11 c n) (Di.m11 C N)
  over' : In (Di.over c n) (Di.over C N)
  m13' : In (Di.m13 c n) (Di.m13 C N)
  under' : In (Di.under c n) (Di.under C N)
  qq' : In (Di.qq c n) (Di.qq C N)
  q' : In (Di.q c n) (Di.q C N)
  hp' : In (Di.hp c n) (Di.hp C N)
  oq' : In (Di.oq c n) (Di.oq C N)
  f' : In (Di.f c n) (Di.f C N)
  out' : In (Di.out c n) (Di.out C N)

theorem Di.Parts.fits {c n C N : Res} (P : Di.Parts c n C N) (fc : Fit c) (fn : Fit n) : Di.Fits c n := ⟨fc, fn, P.s2'.fit, P.s3'.fit, P.s4'.fit, P.s5'.fit, P.g'.fit, P.more'.fit, P.less'.fit, P.pq'.fit, P.p'.fit, P.m11'.fit, P.over'.fit, P.m13'.fit, P.under'.fit, P.qq'.fit, P.q'.fit, P.hp'.fit, P.oq'.fit, P.f'.fit, P.out'.fit⟩
theorem Di.big : Di.Fits bigC bigN := ⟨.of (by decide +kernel), .of (by decide +kernel), .of (by decide +kernel), .of (by decide +kernel), .of (by decide +kernel), .of (by decide +kernel), .of (by decide +kernel), .of (by decide +kernel), .of (by decide +kernel), .of (by decide +kernel), .of (by decide +kernel), .of (by decide +kernel), .of (by decide +kernel), .of (by decide +kernel), .of (by decide +kernel), .of (by decide +kernel), .of (by decide +kernel), .of (by decide +kernel), .of (by decide +kernel), .of (by decide +kernel), .of (by decide +kernel)⟩

def Co.c2 (c _h _k : Res) : Res := sqrR (c)
def Co.s3 (c h k : Res) : Res := subR (oneR 4607182418800017408) (Co.c2 c h k)
def Co.s2 (c h k : Res) : Res := clampR (Co.s3 c h k)
def Co.e2 (_c h _k : Res) : Res := sqrR (h)
def Co.k2 (_c _h k : Res) : Res := sqrR (k)
def Co.ek (c h k : Res) : Res := mulR (Co.e2 c h k) (Co.k2 c h k)
def Co.t11 (c h k : Res) : Res := subR (Co.e2 c h k) (Co.k2 c h k)
def Co.t0 (c h k : Res) : Res := subR (Co.t11 c h k) (Co.s2 c h k)
def Co.q13 (c h k : Res) : Res := sqrR (Co.t0 c h k)
def Co.m15 (c h k : Res) : Res := mulR (oneR 4616189618054758400) (Co.ek c h k)
def Co.a16 (c h k : Res) : Res := addR (Co.q13 c h k) (Co.m15 c h k)
def Co.ab (c h k : Res) : Res := sqrtR (Co.a16 c h k)
def Co.a18 (c h k : Res) : Res := addR (Co.ab c h k) (Co.t0 c h k)
def Co.x20 (c h k : Res) : Res := maxR (Co.a18 c h k) (oneR 0)
def Co.m21 (c h k : Res) : Res := mulR (oneR 4602678819172646912) (Co.x20 c h k)
def Co.a (c h k : Res) : Res := sqrtR (Co.m21 c h k)
def Co.t1 (c h k : Res) : Res := addR (Co.ab c h k) (Co.c2 c h k)
def Co.m25 (c h k : Res) : Res := mulR (oneR 4611686018427387904) (Co.a c h k)
def Co.t2 (c h k : Res) : Res := mulR (Co.m25 c h k) (c)
def Co.n27 (c h k : Res) : Res := subR (Co.t1 c h k) (Co.t2 c h k)
def Co.d27 (c h k : Res) : Res := addR (Co.t1 c h k) (Co.t2 c h k)
def Co.r27 (c h k : Res) : Res := divR (Co.n27 c h k) (Co.d27 c h k)
def Co.rs (c h k : Res) : Res := clampR (Co.r27 c h k)
def Co.m29 (c h k : Res) : Res := mulR (Co.c2 c h k) (Co.ab c h k)
def Co.q30 (c h k : Res) : Res := sqrR (Co.s2 c h k)
def Co.t3 (c h k : Res) : Res := addR (Co.m29 c h k) (Co.q30 c h k)
def Co.t4 (c h k : Res) : Res := mulR (Co.t2 c h k) (Co.s2 c h k)
def Co.n33 (c h k : Res) : Res := subR (Co.t3 c h k) (Co.t4 c h k)
def Co.d33 (c h k : Res) : Res := addR (Co.t3 c h k) (Co.t4 c h k)

structure Co.Fits (c h k : Res) : Prop where
  fc : Fit c
  fh : Fit h
  fk : Fit k
  c2' : Fit (Co.c2 c h k)
  s3' : Fit (Co.s3 c h k)
  s2' : Fit (Co.s2 c h k)
  e2' : Fit (Co.e2 c h k)
  k2' : Fit (Co.k2 c h k)
  ek' : Fit (Co.ek c h k)
  t11' : Fit (Co.t11 c h k)
  t0' : Fit (Co.t0 c h k)
  q13' : Fit (Co.q13 c h k)
  m15' : Fit (Co.m15 c h k)
  a16' : Fit (Co.a16 c h k)
  ab' : Fit (Co.ab c h k)
  a18' : Fit (Co.a18 c h k)
  x20' : Fit (Co.x20 c h k)
  m21' : Fit (Co.m21 c h k)
  a' : Fit (Co.a c h k)
  t1' : Fit (Co.t1 c h k)
  m25' : Fit (Co.m25 c h k)
  t2' : Fit (Co.t2 c h k)
  n27' : Fit (Co.n27 c h k)
  d27' : Fit (Co.d27 c h k)
  r27' : Fit (Co.r27 c h k)
  rs' : Fit (Co.rs c h k)
  m29' : Fit (Co.m29 c h k)
  q30' : Fit (Co.q30 c h k)
  t3' : Fit (Co.t3 c h k)
  t4' : Fit (Co.t4 c h k)
  n33' : Fit (Co.n33 c h k)
  d33' : Fit (Co.d33 c h k)

structure Co.Parts (c h k C H K : Res) : Prop where
  c2' : In (Co.c2 c h k) (Co.c2 C H K)
  s3' : In (Co.s3 c h k) (Co.s3 C H K)
  s2' : In (Co.s2 c h k) (Co.s2 C H K)
  e2' : In (Co.e2 c h k) (Co.e2 C H K)
  k2' : In (Co.k2 c h k) (Co.k2 C H K)
  ek' : In (Co.ek c h k) (Co.ek C H K)
  t11' : In (Co.t11 c h k) (Co.t11 C H K)
  t0' : In (Co.t0 c h k) (Co.t0 C H K)
  q13' : In (Co.q13 c h k) (Co.q13 C H K)
  m15' : In (Co.m15 c h k) (Co.m15 C H K)
  a16' : In (Co.a16 c h k) (Co.a16 C H K)
  ab' : In (Co.ab c h k) (Co.ab C H K)
  a18' : In (Co.a18 c h k) (Co.a18 C H K)
  x20' : In (Co.x20 c h k) (Co.x20 C H K)
  m21' : In (Co.m21 c h k) (Co.m21 C H K)
  a' : In (Co.a c h k) (Co.a C H K)
  t1' : In (Co.t1 c h k) (Co.t1 C H K)
  m25' : In (Co.m25 c h k) (Co.m25 C H K)
  t2' : In (Co.t2 c h k) (Co.t2 C H K)
  n27' : In (Co.n27 c h k) (Co.n27 C H K)
  d27' : In (Co.d27 c h k) (Co.d27 C H K)
  r27' : In (Co.r27 c h k) (Co.r27 C H K)
  rs' : In (Co.rs c h k) (Co.rs C H K)
  m29' : In (Co.m29 c h k) (Co.m29 C H K)
  q30' : In (Co.q30 c h k) (Co.q30 C H K)
  t3' : In (Co.t3 c h k) (Co.t3 C H K)
  t4' : In (Co.t4 c h k) (Co.t4 C H K)
  n33' : In (Co.n33 c h k) (Co.n33 C H K)
  d33' : In (Co.d33 c h k) (Co.d33 C H K)

theorem Co.Parts.fits {c h k C H K : Res} (P : Co.Parts c h k C H K) (fc : Fit c) (fh : Fit h) (fk : Fit k) : Co.Fits c h k := ⟨fc, fh, fk, P.c2'.fit, P.s3'.fit, P.s2'.fit, P.e2'.fit, P.k2'.fit, P.ek'.fit, P.t11'.fit, P.t0'.fit, P.q13'.fit, P.m15'.fit, P.a16'.fit, P.ab'.fit, P.a18'.fit, P.x20'.fit, P.m21'.fit, P.a'.fit, P.t1'.fit, P.m25'.fit, P.t2'.fit, P.n27'.fit, P.d27'.fit, P.r27'.fit, P.rs'.fit, P.m29'.fit, P.q30'.fit, P.t3'.fit, P.t4'.fit, P.n33'.fit, P.d33'.fit⟩
theorem Co.big : Co.Fits bigC bigM bigM := ⟨.of (by decide +kernel), .of (by decide +kernel), .of (by decide +kernel), .of (by decide +kernel), .of (by decide +kernel), .of (by decide +kernel), .of (by decide +kernel), .of (by decide +kernel), .of (by decide +kernel), .of (by decide +kernel), .of (by decide +kernel), .of (by decide +kernel), .of (by decide +kernel), .of (by decide +kernel), .of (by decide +kernel), .of (by decide +kernel), .of (by decide +kernel), .of (by decide +kernel), .of (by decide +kernel), .of (by decide +kernel), .of (by decide +kernel), .of (by decide +kernel), .of (by decide +kernel), .of (by decide +kernel), .of (by decide +kernel), .of (by decide +kernel), .of (by decide +kernel), .of (by decide +kernel), .of (by decide +kernel), .of (by decide +kernel), .of (by decide +kernel), .of (by decide +kernel)⟩

def Co.r33 (c h k : Res) : Res := divR (Co.n33 c h k) (Co.d33 c h k)
def Co.m34 (c h k : Res) : Res := mulR (Co.rs c h k) (Co.r33 c h k)
def Co.rp (c h k : Res) : Res := clampR (Co.m34 c h k)
def Co.a36 (c h k : Res) : Res := addR (Co.rs c h k) (Co.rp c h k)
def Co.f (c h k : Res) : Res := mulR (oneR 4602678819172646912) (Co.a36 c h k)
def Co.out (c h k : Res) : Res := if (Co.r33 c h k).e = 0 then Co.f c h k else ⟨(Co.r33 c h k).e, 0, 0⟩
structure Co.Last (c h k : Res) : Prop where
  r33' : Fit (Co.r33 c h k)
  m34' : Fit (Co.m34 c h k)
  rp' : Fit (Co.rp c h k)
  a36' : Fit (Co.a36 c h k)
  f' : Fit (Co.f c h k)
theorem Co.Fits.last {c h k : Res} (D : Co.Fits c h k) (he : (Co.r33 c h k).e = 0) : Co.Last c h k := by
  have j1 : Fit (Co.r33 c h k) := ask_fit (Co.n33 c h k) (Co.d33 c h k) 3 (by decide) D.n33' D.d33' he
  have u := clamp_unit D.r27'
  have j2 : In (Co.m34 c h k) (mulR unitR allR) := mul_in u unit_fit (all_in j1) all_fit (by decide +kernel)
  have j3 : In (Co.rp c h k) unitR := clamp_unit j2.fit
  have j4 : In (Co.a36 c h k) (addR unitR unitR) := add_in u unit_fit j3 unit_fit (by decide +kernel)
  have j5 : In (Co.f c h k) (mulR (oneR 4602678819172646912) (addR unitR unitR)) := mul_in (.refl (one_fit (by decide) (by decide))) (one_fit (by decide) (by decide)) j4 (.of (by decide +kernel)) (by decide +kernel)
  exact ⟨j1, j2.fit, j3.fit, j4.fit, j5.fit⟩
end
section
open Go.RowKit
attribute [local go_sem] run_store_float

structure EnvE (B : World) (pb : Nat) (e : Int) (l : List (Nat × Array Value)) (v : World) : Prop where
  put : Put ⟨pb, 0, none⟩ (.int .i64 e) B v
  cal : Has1 v (pb, #[.int .i64 e])
  blocks : ∀ p, p ∈ l → Has1 v p ∧ pb ≠ p.1

theorem Has1.six {v : World} {b : Nat} {x0 x1 x2 x3 x4 x5 : Value} (h : Has1 v (b, #[x0, x1, x2, x3, x4, x5])) : v.cell? ⟨b, 0, none⟩ = some x0 ∧ v.cell? ⟨b, 1, none⟩ = some x1 ∧ v.cell? ⟨b, 2, none⟩ = some x2 ∧ v.cell? ⟨b, 3, none⟩ = some x3 ∧ v.cell? ⟨b, 4, none⟩ = some x4 ∧ v.cell? ⟨b, 5, none⟩ = some x5 := ⟨h.2.1 0, h.2.1 1, h.2.1 2, h.2.1 3, h.2.1 4, h.2.1 5⟩
theorem Has1.six6 {v : World} {q : Nat} {z0 z1 z2 z3 z4 z5 : Value} (h : Has1 v (q, #[z0, z1, z2, z3, z4, z5])) (y0 y1 y2 y3 y4 y5 : Value) :
    Has1 ((((((v.setCell ⟨q, 0, none⟩ y0).setCell ⟨q, 1, none⟩ y1).setCell ⟨q, 2, none⟩ y2).setCell ⟨q, 3, none⟩ y3).setCell ⟨q, 4, none⟩ y4).setCell ⟨q, 5, none⟩ y5) (q, #[y0, y1, y2, y3, y4, y5]) :=
  (((((h.setIn 0 y0).setIn 1 y1).setIn 2 y2).setIn 3 y3).setIn 4 y4).setIn 5 y5

section
variable {B v v' : World} {pb : Nat} {e e' : Int} {l : List (Nat × Array Value)}
theorem EnvE.start (h : Has1 B (pb, #[.int .i64 e])) : EnvE B pb e [] B := ⟨Put.of_below h.pc (Below.refl _ _), h, fun p hp => by cases hp⟩
theorem EnvE.add (h : EnvE B pb e l v) {p : Nat × Array Value} (hp : Has1 v p) (hn : pb ≠ p.1) : EnvE B pb e (p :: l) v :=
  ⟨h.put, h.cal, fun q hq => by
    rcases List.mem_cons.1 hq with g | g
    · rw [g]; exact ⟨hp, hn⟩
    · exact h.blocks q g⟩
theorem EnvE.below (h : EnvE B pb e l v) (hb : Below v.heap.size v v') : EnvE B pb e l v' := ⟨h.put.below hb, h.cal.below hb, fun p hp => ⟨(h.blocks p hp).1.below hb, (h.blocks p hp).2⟩⟩
theorem EnvE.putc (h : EnvE B pb e l v) (hp : Put ⟨pb, 0, none⟩ (.int .i64 e') v v') : EnvE B pb e' l v' := ⟨h.put.trans hp, h.cal.own hp, fun p hq => ⟨(h.blocks p hq).1.put (h.blocks p hq).2 hp, (h.blocks p hq).2⟩⟩
theorem EnvE.drew (h : EnvE B pb e l v) : EnvE B pb e l v.drew := ⟨h.put.below (Below.refl _ _).drew, h.cal, h.blocks⟩
theorem EnvE.made (h : EnvE B pb e l v) (c : Array Value) (t : TypeId) : EnvE B pb e ((v.heap.size, c) :: l) (v.alloc (.cells c t)) :=
  (h.below (bel1 _ _)).add (Has1.made v c t) (Nat.ne_of_lt h.cal.1)
theorem EnvE.sub (h : EnvE B pb e l v) {k : List (Nat × Array Value)} (hk : ∀ p, p ∈ k → p ∈ l) : EnvE B pb e k v := ⟨h.put, h.cal, fun p hp => h.blocks p (hk p hp)⟩
theorem EnvE.nth (h : EnvE B pb e l v) (i : Nat) {p : Nat × Array Value} (hp : l[i]? = some p) : Has1 v p := (h.blocks p (List.mem_of_getElem? hp)).1
theorem EnvE.ne (h : EnvE B pb e l v) (i : Nat) {p : Nat × Array Value} (hp : l[i]? = some p) : pb ≠ p.1 := (h.blocks p (List.mem_of_getElem? hp)).2
theorem EnvE.set2 (h : EnvE B pb e l v) {q : Nat} {x y : Value} (hx : Has1 v (q, #[x, y])) (hn : pb ≠ q) (hB : B.heap.size ≤ q) (x' y' : Value) : EnvE B pb e [(q, #[x', y'])] ((v.setCell ⟨q, 0, none⟩ x').setCell ⟨q, 1, none⟩ y') where
  put := by
    have hb : Below B.heap.size (B.setCell ⟨pb, 0, none⟩ (.int .i64 e)) v := h.put
    exact (hb.setCell hB _).setCell hB _
  cal := (h.cal.set (Ne.symm hn)).set (Ne.symm hn)
  blocks := fun p hp => by
    rw [List.mem_singleton] at hp
    rw [hp]; exact ⟨hx.set2 _ _, hn⟩
theorem EnvE.set6 (h : EnvE B pb e l v) {q : Nat} {z0 z1 z2 z3 z4 z5 : Value} (hx : Has1 v (q, #[z0, z1, z2, z3, z4, z5])) (hn : pb ≠ q) (hB : B.heap.size ≤ q) (y0 y1 y2 y3 y4 y5 : Value) :
    EnvE B pb e [(q, #[y0, y1, y2, y3, y4, y5])] ((((((v.setCell ⟨q, 0, none⟩ y0).setCell ⟨q, 1, none⟩ y1).setCell ⟨q, 2, none⟩ y2).setCell ⟨q, 3, none⟩ y3).setCell ⟨q, 4, none⟩ y4).setCell ⟨q, 5, none⟩ y5) where
  put := by
    have hb : Below B.heap.size (B.setCell ⟨pb, 0, none⟩ (.int .i64 e)) v := h.put
    exact (((((hb.setCell hB _).setCell hB _).setCell hB _).setCell hB _).setCell hB _).setCell hB _
  cal := (((((h.cal.set (Ne.symm hn)).set (Ne.symm hn)).set (Ne.symm hn)).set (Ne.symm hn)).set (Ne.symm hn)).set (Ne.symm hn)
  blocks := fun p hp => by
    rw [List.mem_singleton] at hp
    rw [hp]; exact ⟨hx.six6 _ _ _ _ _ _, hn⟩
end

structure Wd (a : Res) : Prop where
  lo : a.lo < 18446744073709551616
  hi : a.hi < 18446744073709551616
theorem Fit.wd {a : Res} (h : Fit a) : Wd a := ⟨h.lo, h.hi⟩
end
section
open Go.RowKit
attribute [local go_sem] run_store_float

end
section
open Go.RowKit
attribute [local go_sem] run_store_float
end
section
open Go.RowKit


theorem calc_sqrt {a : Res} (fa : Fit a) (fr : Fit (sqrtR a)) (pb : Nat) : Calc1 24 pb a.lo a.hi (sqrtR a).lo (sqrtR a).hi := fun v h => by
  have c := cSqrt_any 0 a.lo a.hi pb 0 v fa.lo fa.hi h.pc h.pf
  rw [step_one fa] at c
  exact told_none fr.e c
theorem calc_max {a b : Res} (fa : Fit a) (fb : Fit b) (fr : Fit (maxR a b)) (pb : Nat) : Calc2 26 pb a.lo a.hi b.lo b.hi (maxR a b).lo (maxR a b).hi := fun v h => by
  have c := cMax_any 0 a.lo a.hi b.lo b.hi pb 0 v fa.lo fa.hi fb.lo fb.hi h.pc h.pf
  rw [step_two fa fb] at c
  exact told_none fr.e c
theorem lt_in {a A : Res} (i : In a A) (fA : Fit A) : (FloatKind.f64.format.order a.lo A.lo == some Ordering.lt) = false := by
  rw [order_lt a.lo A.lo i.fit.lo fA.lo i.fit.rlo fA.rlo]; have := i.lo; exact decide_eq_false (by omega)
theorem gt_in {a A : Res} (i : In a A) (fA : Fit A) : (FloatKind.f64.format.order a.hi A.hi == some Ordering.gt) = false := by
  rw [order_gt a.hi A.hi i.fit.hi fA.hi i.fit.rhi fA.rhi]; have := i.hi; exact decide_eq_false (by omega)
theorem right_in {a : Res} (f : Fit a) (w : World) : Calls Try.prog 22 #[.agg #[.float .f64 a.lo, .float .f64 a.hi]] w fun r w' => r = .returned (.bool true) ∧ Below w.heap.size w w' := by
  have h := ivRight_any a.lo a.hi w f.lo f.hi
  rw [f.iv] at h
  exact h
end
section
open Go.RowKit
attribute [local go_sem] run_store_float

theorem near_between {s : Nat} {T : Int} {c c' r : Nat} {e e' : Int} (hs : 0 < s) (hD : Down s T c e) (hU : Up s T c' e') (hB : Beside s T r) {x0 y0 : Nat} (lx : x0 < 18446744073709551616) (rx : rightB x0 = true) (hx : val x0 * (s : Int) ≤ T) (ly : y0 < 18446744073709551616) (ry : rightB y0 = true) (hy : T ≤ val y0 * (s : Int)) :
    r < 18446744073709551616 ∧ rung r < 9218868437227405312 ∧ val x0 ≤ val r ∧ val r ≤ val y0 := by
  have hs' : (0 : Int) < (s : Int) := by omega
  rcases hD with ⟨d0, d1, d2, d3, d4⟩ | ⟨_, _, d3⟩
  · rcases hU with ⟨u0, u1, u2, u3, u4⟩ | ⟨_, _, u3⟩
    · obtain ⟨b1, b2, b3⟩ := hB c c' (Or.inl ⟨rfl, d1, d2, d3, d4⟩) (Or.inl ⟨rfl, u1, u2, u3, u4⟩)
      have h1 := d4 x0 lx rx hx
      have h2 := u4 y0 ly ry hy
      have h3 : val c ≤ val y0 := Int.le_of_mul_le_mul_right (Int.le_trans d3 hy) hs'
      have h4 : val x0 ≤ val c' := Int.le_of_mul_le_mul_right (Int.le_trans hx u3) hs'
      rcases b3 with g | g
      · exact ⟨b1, b2, by omega, by omega⟩
      · exact ⟨b1, b2, by omega, by omega⟩
    · have := u3 y0 ly ry; omega
  · have := d3 x0 lx rx; omega

theorem word_right {r : Nat} (h : r < 9223372036854775808) (hr : rung r < 9218868437227405312) : rightB r = true := by
  unfold rightB
  unfold rung at hr
  rw [decide_eq_true hr, decide_eq_false (by omega : ¬ r = 9223372036854775808)]; rfl
theorem plain_sgn {x : Nat} (lx : x < 18446744073709551616) (rx : rightB x = true) (h : 0 ≤ val x) : sgnB x = false := by
  cases hs : sgnB x
  · rfl
  · have p := neg_rung lx rx hs
    have e := val_negs hs
    omega
theorem sgn_lt {x : Nat} (h : sgnB x = false) : x < 9223372036854775808 := by
  unfold sgnB at h
  have := of_decide_eq_false h
  omega
theorem near_pos (mag : Nat) (place : Int) (hp : -6000 ≤ place) : Ieee.double.nearest false mag place < 9223372036854775808 := by
  have key : ∀ R, Ieee.double.word false (min R 9218868437227405312) < 9223372036854775808 := fun R => by
    unfold Ieee.Format.word
    simp only [Bool.false_eq_true, if_false]
    omega
  by_cases h0 : mag = 0
  · subst h0
    have e : Ieee.double.nearest false 0 place = Ieee.double.word false (min 0 9218868437227405312) := by
      unfold Ieee.Format.nearest; rw [if_pos rfl]; rfl
    rw [e]; exact key 0
  · obtain ⟨R, e, _, _⟩ := near_rung false mag place h0 hp
    rw [e]; exact key R

theorem sum_plain (s t : Bool) (a b : Nat) (xa : -1074 ≤ expo a) (xb : -1074 ≤ expo b) (hst : (s && t) = false) (hT : 0 ≤ sg s (steps (rung a)) + sg t (steps (rung b))) (r : Nat)
    (h : ((Ieee.Datum.number s (mant a) (expo a)).sum (.number t (mant b) (expo b))).map Ieee.double.write = some r) : r < 9223372036854775808 := by
  obtain ⟨base, hbase⟩ : ∃ base : Int, base = min (expo a) (expo b) := ⟨_, rfl⟩
  obtain ⟨total, htot⟩ : ∃ total : Int, total = Ieee.signed s (mant a) (expo a - base).toNat + Ieee.signed t (mant b) (expo b - base).toNat := ⟨_, rfl⟩
  have e1 : sg s (steps (rung a)) = Ieee.signed s (mant a) (expo a - base).toNat * ((2 ^ (base + 1074).toNat : Nat) : Int) := by
    rw [← signed_mul, show (expo a - base).toNat + (base + 1074).toNat = (expo a + 1074).toNat by omega]
    unfold Ieee.signed sg; rw [steps_parts, Nat.shiftLeft_eq]
  have e2 : sg t (steps (rung b)) = Ieee.signed t (mant b) (expo b - base).toNat * ((2 ^ (base + 1074).toNat : Nat) : Int) := by
    rw [← signed_mul, show (expo b - base).toNat + (base + 1074).toNat = (expo b + 1074).toNat by omega]
    unfold Ieee.signed sg; rw [steps_parts, Nat.shiftLeft_eq]
  have eT : sg s (steps (rung a)) + sg t (steps (rung b)) = total * ((2 ^ (base + 1074).toNat : Nat) : Int) := by
    rw [e1, e2, htot, Int.add_mul]
  have hp : (0 : Int) < ((2 ^ (base + 1074).toNat : Nat) : Int) := Int.natCast_pos.2 (Nat.two_pow_pos _)
  have h0 : 0 ≤ total := by
    rw [eT] at hT
    exact Int.le_of_mul_le_mul_right (by rw [Int.zero_mul]; exact hT) hp
  have k : ((Ieee.Datum.number s (mant a) (expo a)).sum (.number t (mant b) (expo b))).map Ieee.double.write = some (Ieee.double.nearest (if total = 0 then s && t else decide (total < 0)) total.natAbs base) := by
    unfold Ieee.Datum.sum
    simp only [← hbase, ← htot]
    rfl
  rw [k] at h
  have e : (if total = 0 then s && t else decide (total < 0)) = false := by
    by_cases z : total = 0
    · rw [if_pos z]; exact hst
    · rw [if_neg z]; exact decide_eq_false (by omega)
  rw [e] at h
  rw [← Option.some.inj h]
  exact near_pos _ _ (by omega)

theorem frac_word (n : Nat) (hn : n < 4294967296) : ∃ f, floatBits .quo .f64 (floatOfInt .f64 (n : Int)) 4751297606873776128 = some f ∧ f < 18446744073709551616 ∧ rightB f = true ∧ 0 ≤ val f ∧ val f ≤ val u1 := by
  by_cases h0 : n = 0
  · subst h0
    exact ⟨0, by decide +kernel, by decide, by decide, by decide +kernel, by decide +kernel⟩
  obtain ⟨f1, f2⟩ := from_int n (by omega)
  obtain ⟨a1, a2, a3, a4, a5⟩ := pos_facts _ f1
  obtain ⟨r, hr, hB⟩ := div_beside (FloatKind.f64.nearest (n : Int)) 4751297606873776128 a1 (by decide) a2 (by decide) (by decide)
  have hb : steps (rung 4751297606873776128) = 4294967295 * 2 ^ sq := by decide +kernel
  have hs : (sgnB 4751297606873776128) = false := by decide
  have dd := div_dir (FloatKind.f64.nearest (n : Int)) 4751297606873776128 a2 (by decide) (by decide) (by decide)
  have d1 := (dd false).1 rfl
  have d2 := (dd true).2 rfl
  rw [hb, hs, a3, a4, f2] at hB d1 d2
  have hT : sg (!(false == false)) (n * 2 ^ sq * 2 ^ sq) = ((n * 2 ^ sq * 2 ^ sq : Nat) : Int) := rfl
  rw [hT] at hB d1 d2
  have eL : val 4458563631096791040 * (4294967295 : Int) ≤ ((2 ^ sq : Nat) : Int) ∧ 0 < val 4458563631096791040 := by decide +kernel
  have eU : val u1 = ((2 ^ sq : Nat) : Int) := by decide +kernel
  have hp : 0 < 2 ^ sq := Nat.two_pow_pos _
  generalize 2 ^ sq = P at *
  obtain ⟨n1, n2, n3, n4⟩ := near_between (x0 := 4458563631096791040) (y0 := u1) (by omega) d1 d2 hB (by decide) (by decide) (by
      have e1 : val 4458563631096791040 * ((4294967295 * P : Nat) : Int) = (val 4458563631096791040 * 4294967295) * (P : Int) := by rw [Int.natCast_mul, ← Int.mul_assoc]; rfl
      have e2 : ((n * P * P : Nat) : Int) = ((n * P : Nat) : Int) * (P : Int) := Int.natCast_mul _ _
      rw [e1, e2]
      refine Int.mul_le_mul_of_nonneg_right ?_ (by omega)
      have : (P : Int) ≤ ((n * P : Nat) : Int) := by
        have : 1 * P ≤ n * P := Nat.mul_le_mul_right _ (by omega)
        omega
      omega) (by decide) (by decide) (by
      rw [eU, ← Int.natCast_mul]
      have : n * P * P ≤ P * (4294967295 * P) := by
        rw [← Nat.mul_assoc, Nat.mul_comm P 4294967295]
        exact Nat.mul_le_mul_right _ (Nat.mul_le_mul_right _ (by omega))
      omega)
  have hne : 0 < val r := by omega
  have lt : r < 9223372036854775808 := sgn_lt (by
    cases hs : sgnB r
    · rfl
    · have e := val_negs hs; omega)
  exact ⟨r, hr, n1, word_right lt n2, by omega, n4⟩

theorem frac_walk (n f : Nat) (w : World) (hq : ∀ w, (binOp .quo 24 (.float .f64 (floatOfInt .f64 (n : Int))) (.float .f64 4751297606873776128)).run Try.prog w = .ok (.float .f64 f) w) :
    Calls Try.prog 8 #[.int .u32 n] w fun r w' => r = .returned (.float .f64 f) ∧ w = w' := by
  go_enter Try.func8, Try.ntmps8
  go_wp2
  go_ret
  exact ⟨rfl, rfl⟩

structure Amid (lo hi x : Nat) : Prop where
  lt : x < 18446744073709551616
  right : rightB x = true
  lo : val lo ≤ val x
  hi : val x ≤ val hi
end
section
open Go.RowKit
attribute [local go_sem] run_store_float

theorem point_walk (x : Nat) (w : World) (h : ∀ w, (binOp .add 24 (.float .f64 x) (.float .f64 0)).run Try.prog w = .ok (.float .f64 x) w) :
    Calls Try.prog 10 #[.float .f64 x] w fun r w' => r = .returned (.agg #[.float .f64 x, .float .f64 x]) ∧ Below w.heap.size w w' := by
  have M := Lib.hid ((Own.nil w).made #[.float .f64 x, .float .f64 x] 26)
  go_enter Try.func10, Try.ntmps10
  go_wp2
  exact bodyPost_ret (v := .agg #[.float .f64 x, .float .f64 x]) (by simp [results, Try.results10, go_sem]) rfl ⟨rfl, M.out.base⟩
end
section
open Go.RowKit

section
variable {P : Program} {ops : Array Oper} {Q : Exit → Act → World → Prop} {md : Region.Mode} {S : World → Prop}
def latAtP (pl : List Bool) (md : Region.Mode) (ops : Array Oper) (L0 : Array Bool) (cs ms : List Nat) (k : Nat) (p : List Bool) : Bool :=
  if pl.getD k false && decide (k < cs.length) then
    (match cs[k]? with
      | some i => Region.noSelect ops && Region.free md ops (lstOf L0 cs ms k p) i && (Region.ready md ops (lstOf L0 cs ms k p)).contains i && closedB md ops (lstOf L0 cs ms k p) && ((lstOf L0 cs ms k p).setIfInBounds i true == lstOf L0 cs ms (k + 1) p)
      | none => false)
  else latAt md ops L0 cs ms k p
def latOkP (pl : List Bool) (md : Region.Mode) (ops : Array Oper) (L0 : Array Bool) (cs ms : List Nat) : Bool :=
  (List.range (cs.length + 1)).all fun k => (boolLists ms.length).all fun p => latAtP pl md ops L0 cs ms k p
theorem latP_any {pl : List Bool} {L0 : Array Bool} {cs ms : List Nat} {N : Nat} (J : Nat → List (Option Nat) → Act → World → Prop) (hok : latOkP pl md ops L0 cs ms = true)
    (hS : ∀ k p a w, J k p a w → S w)
    (call : ∀ k i p a w, cs[k]? = some i → pl.getD k false = false → J k p a w → wpOp P ops Q i (fun b v => J (k + 1) p b v) a w)
    (take : ∀ k i p a w, cs[k]? = some i → pl.getD k false = true → J k p a w → ∃ o x, ops[i]? = some o ∧ YieldsIf P ops S o x a ∧ (∀ c a w, Q (.panic c) (a.put o.dst x) w → Q (.panic c) a w) ∧ J (k + 1) p (a.put o.dst x) w)
    (alloc : ∀ k m i p a w, ms[m]? = some i → p[m]? = some none → J k p a w → wpOp P ops Q i (fun b v => ∃ q, J k (p.set m (some q)) b v) a w)
    (fin : ∀ p a w, p.length = ms.length → (∀ x ∈ p, x.isSome = true) → J cs.length p a w → wpAnyV P md ops Q S [] N (lstOf L0 cs ms cs.length (p.map Option.isSome)) a w) :
    ∀ (f k : Nat) (p : List (Option Nat)) (a : Act) (w : World), p.length = ms.length → k ≤ cs.length → f = (cs.length - k) + p.count none → J k p a w →
      wpAnyV P md ops Q S [] (N + f) (lstOf L0 cs ms k (p.map Option.isSome)) a w
  | 0, k, p, a, w, hp, hk, hf, hJ => by
    obtain rfl : k = cs.length := by omega
    exact fin p a w hp (count_nil p (by omega)) hJ
  | f + 1, k, p, a, w, hp, hk, hf, hJ => by
    have hat : latAtP pl md ops L0 cs ms k (p.map Option.isSome) = true := by
      unfold latOkP at hok
      rw [List.all_eq_true] at hok
      have h1 := hok k (by simp; omega)
      rw [List.all_eq_true] at h1
      refine h1 _ ?_
      have := mem_bools (p.map Option.isSome)
      rw [List.length_map, hp] at this
      exact this
    have hnot : (decide (k = cs.length) && (p.map Option.isSome).all id) = false := by
      rw [Bool.eq_false_iff]
      intro h
      rw [Bool.and_eq_true, decide_eq_true_eq, List.all_eq_true] at h
      have hc : p.count none = 0 := by
        rw [List.count_eq_zero]
        intro hm
        have := h.2 false (by rw [List.mem_map]; exact ⟨none, hm, rfl⟩)
        simp at this
      omega
    unfold latAtP at hat
    by_cases g : pl.getD k false = true ∧ k < cs.length
    · rw [g.1, decide_eq_true g.2, Bool.and_true, if_pos rfl] at hat
      cases hck : cs[k]? with
      | none => rw [hck] at hat; cases hat
      | some i =>
        rw [hck] at hat
        simp only [Bool.and_eq_true, beq_iff_eq] at hat
        obtain ⟨⟨⟨⟨h1, h2⟩, h3⟩, h4⟩, hl⟩ := hat
        obtain ⟨o, x, ho, hy, hQ, hJ'⟩ := take k i p a w hck g.1 hJ
        refine tails_take (T := []) ho h1 h2 h3 (by rw [h4]; rfl) hQ hy (hS _ _ _ _ hJ) ?_
        rw [hl]
        exact latP_any J hok hS call take alloc fin f (k + 1) p _ w hp (by omega) (by omega) hJ'
    have g' : (pl.getD k false && decide (k < cs.length)) = false := by
      rw [Bool.eq_false_iff]; intro e
      rw [Bool.and_eq_true, decide_eq_true_eq] at e
      exact g e
    rw [g', if_neg Bool.false_ne_true] at hat
    unfold latAt at hat
    rw [hnot, Bool.false_or, Bool.and_eq_true, List.all_eq_true] at hat
    obtain ⟨hne, hall⟩ := hat
    refine ⟨fun h0 => by rw [h0] at hne; simp at hne, fun i hi => ?_⟩
    have hi' := hall i hi
    rw [Bool.or_eq_true] at hi'
    rcases hi' with h | h
    · cases hck : cs[k]? with
      | none => rw [hck] at h; simp at h
      | some j =>
        rw [hck] at h
        simp only [Bool.and_eq_true, beq_iff_eq] at h
        obtain ⟨rfl, hl⟩ := h
        have hk' : k < cs.length := by
          rcases Nat.lt_or_ge k cs.length with g | g
          · exact g
          · rw [List.getElem?_eq_none g] at hck; cases hck
        refine wpOp_mono (fun b v hb => ⟨Or.inr (hS _ _ _ _ hb), ?_⟩) (call k i p a w hck (by cases e : pl.getD k false; rfl; exact absurd ⟨e, hk'⟩ g) hJ)
        rw [hl]
        exact latP_any J hok hS call take alloc fin f (k + 1) p b v hp (by omega) (by omega) hb
    · rw [List.any_eq_true] at h
      obtain ⟨m, hm, h⟩ := h
      simp only [Bool.and_eq_true, beq_iff_eq] at h
      obtain ⟨⟨h1, h2⟩, hl⟩ := h
      have h3 : p[m]? = some none := by
        rw [List.getElem?_map] at h2
        cases hpm : p[m]? with
        | none => rw [hpm] at h2; simp at h2
        | some x =>
          rw [hpm] at h2
          cases x
          · rfl
          · simp at h2
      refine wpOp_mono (fun b v hb => ?_) (alloc k m i p a w h1 h3 hJ)
      obtain ⟨q, hb⟩ := hb
      refine ⟨Or.inr (hS _ _ _ _ hb), ?_⟩
      have e : (p.map Option.isSome).set m true = (p.set m (some q)).map Option.isSome := by
        rw [List.map_set]; rfl
      rw [hl, e]
      exact latP_any J hok hS call take alloc fin f k (p.set m (some q)) b v (by rw [List.length_set]; exact hp) hk (by have := count_set p m q h3; omega) hb
theorem latP_from {pl : List Bool} {a0 : Act} {w0 : World} {L0 : Array Bool} (cs ms slots : List Nat) (N f : Nat) (J : Act → Nat → List (Option Nat) → Act → World → Prop) (hok : latOkP pl md ops L0 cs ms = true) (hf : f = cs.length + ms.length)
    (hsl : (slots.all fun s => decide (s < a0.tmps.size)) = true) (h0 : ∀ A : Act, (∀ s, s ∈ slots → s < A.tmps.size) → J A 0 (List.replicate ms.length none) A w0)
    (hS : ∀ k p a w, J a0 k p a w → S w)
    (call : ∀ k i p a w, cs[k]? = some i → pl.getD k false = false → J a0 k p a w → wpOp P ops Q i (fun b v => J a0 (k + 1) p b v) a w)
    (take : ∀ k i p a w, cs[k]? = some i → pl.getD k false = true → J a0 k p a w → ∃ o x, ops[i]? = some o ∧ YieldsIf P ops S o x a ∧ (∀ c a w, Q (.panic c) (a.put o.dst x) w → Q (.panic c) a w) ∧ J a0 (k + 1) p (a.put o.dst x) w)
    (alloc : ∀ k m i p a w, ms[m]? = some i → p[m]? = some none → J a0 k p a w → wpOp P ops Q i (fun b v => ∃ q, J a0 k (p.set m (some q)) b v) a w)
    (fin : ∀ p a w, p.length = ms.length → (∀ x ∈ p, x.isSome = true) → J a0 cs.length p a w → wpAnyV P md ops Q S [] N (lstOf L0 cs ms cs.length (p.map Option.isSome)) a w) :
    wpAnyV P md ops Q S [] (N + f) L0 a0 w0 := by
  have h := latP_any (J a0) hok hS call take alloc fin f 0 (List.replicate ms.length none) a0 w0 (by simp) (Nat.zero_le _) (by rw [hf]; simp) (h0 a0 (fun s hs => by rw [List.all_eq_true] at hsl; exact of_decide_eq_true (hsl s hs)))
  have e : lstOf L0 cs ms 0 ((List.replicate ms.length none).map (Option.isSome (α := Nat))) = L0 := by
    unfold lstOf
    rw [List.take_zero, List.foldl_nil]
    have : ∀ (ms : List Nat) (L : Array Bool), (ms.zip ((List.replicate ms.length none).map (Option.isSome (α := Nat)))).foldl (fun l x => if x.2 then l.setIfInBounds x.1 true else l) L = L := by
      intro ms
      induction ms with
      | nil => intro L; rfl
      | cons m ms ih => intro L; simpa [List.replicate_succ] using ih L
    exact this ms L0
  rw [e] at h
  exact h
end
end
section
open Go.RowKit

section
variable {B v v' : World} {l : List (Nat × Array Value)}
theorem Own.setIn (h : Own B l v) (i : Nat) {q : Nat} {c : Array Value} (hi : l[i]? = some (q, c)) (k : Nat) (y : Value) : Own B (l.set i (q, c.setIfInBounds k y)) (v.setCell ⟨q, k, none⟩ y) :=
  h.at i hi (h.base.setCell (h.lowest i hi) _) ((h.nth i hi).setIn k y) (fun _ hx hne => hx.set hne)
theorem Own.to {l' : List (Nat × Array Value)} (h : Own B l v) (e : l = l') : Own B l' v := e ▸ h
theorem Has1.other {w : World} {pb : Nat} {x : Value} (h : Has1 w (pb, #[x])) (y : Value) : Has1 (w.setCell ⟨pb, 0, none⟩ y) (pb, #[y]) := h.setIn 0 y
theorem Own.put {p : Addr} {y : Value} (h : Own (B.setCell p y) l v) : Put p y B v := by
  have k := h.base
  rw [size_set] at k
  exact k
end
end
section
open Go.RowKit
attribute [local go_sem] run_store_float

theorem lcheck2_walk (q a0 b0 a1 b1 : Nat) (R0 R1 p0 g0 p1 g1 : Bool) (w : World) (hA : Has1 w (q, #[.float .f64 a0, .float .f64 b0, .float .f64 a1, .float .f64 b1]))
    (c0 : Hid (∀ w, Calls Try.prog 22 #[.agg #[.float .f64 a0, .float .f64 b0]] w fun r w' => r = .returned (.bool R0) ∧ Below w.heap.size w w'))
    (c1 : Hid (∀ w, Calls Try.prog 22 #[.agg #[.float .f64 a1, .float .f64 b1]] w fun r w' => r = .returned (.bool R1) ∧ Below w.heap.size w w'))
    (o0 : (FloatKind.f64.format.order a0 0 == some Ordering.lt) = p0) (u0 : (FloatKind.f64.format.order b0 4607182418800017408 == some Ordering.gt) = g0)
    (o1 : (FloatKind.f64.format.order a1 0 == some Ordering.lt) = p1) (u1 : (FloatKind.f64.format.order b1 4607182418800017408 == some Ordering.gt) = g1)
    : Calls Try.prog 54 #[.slice (some ⟨q, 0, none⟩) 2 2] w fun r w' => r = .returned (.int .i64 (if (R0 && R1) = true then (if (p0 || g0 || p1 || g1) = true then 2 else 0) else 20)) ∧ Below w.heap.size w w' := by
  have M : Hid (Mem w [(q, #[.float .f64 a0, .float .f64 b0, .float .f64 a1, .float .f64 b1])] w) := Lib.hid ⟨Below.refl _ _, fun p hp => by obtain rfl := List.mem_singleton.1 hp; exact hA⟩
  clear hA
  obtain ⟨k0, k1, k2, k3⟩ := (M.out.nth 0 rfl).four
  go_enter Try.func54, Try.ntmps54
  go_wp2_with fail
  refine wp_loop_rounds 3 ?_
  rw [rounds_succ]
  go_wp2_with fail
  replace M := Lib.hid (M.out.made #[.float .f64 a0, .float .f64 b0] 26)
  refine (c0.out _).mono ?_
  rintro r w0 ⟨rfl, hb⟩
  replace M := Lib.hid (M.out.below hb)
  clear hb k0 k1 k2 k3 c0
  obtain ⟨k0, k1, k2, k3⟩ := (M.out.nth 1 rfl).four
  cases R0
  · go_wp2
    go_ret
    exact ⟨rfl, M.out.base⟩
  · go_wp2_with fail
    rw [rounds_succ]
    go_wp2_with fail
    replace M := Lib.hid (M.out.made #[.float .f64 a1, .float .f64 b1] 26)
    refine (c1.out _).mono ?_
    rintro r w1 ⟨rfl, hb⟩
    replace M := Lib.hid (M.out.below hb)
    clear hb k0 k1 k2 k3 c1
    obtain ⟨k0, k1, k2, k3⟩ := (M.out.nth 2 rfl).four
    cases R1
    · go_wp2
      go_ret
      exact ⟨rfl, M.out.base⟩
    · go_wp2_with fail
      rw [rounds_succ]
      go_wp2_with fail
      refine wp_loop_rounds 3 ?_
      rw [rounds_succ]
      have M1 := Lib.hid (M.out.made #[.float .f64 a0, .float .f64 b0] 26)
      cases p0
      rotate_left
      · go_wp2
        go_ret
        exact ⟨by simp, M1.out.base⟩
      cases g0
      rotate_left
      · go_wp2
        go_ret
        exact ⟨by simp, M1.out.base⟩
      go_wp2_with fail
      clear M k0 k1 k2 k3 o0 u0
      have M := M1
      clear M1
      obtain ⟨k0, k1, k2, k3⟩ := (M.out.nth 3 rfl).four
      rw [rounds_succ]
      have M1 := Lib.hid (M.out.made #[.float .f64 a1, .float .f64 b1] 26)
      cases p1
      rotate_left
      · go_wp2
        go_ret
        exact ⟨by simp, M1.out.base⟩
      cases g1
      rotate_left
      · go_wp2
        go_ret
        exact ⟨by simp, M1.out.base⟩
      go_wp2_with fail
      clear M k0 k1 k2 k3 o1 u1
      have M := M1
      clear M1
      obtain ⟨k0, k1, k2, k3⟩ := (M.out.nth 4 rfl).four
      rw [rounds_succ]
      go_wp2
      go_ret
      exact ⟨rfl, M.out.base⟩

theorem eq_floats (x y : Nat) (w : World) : (Op.equalIn 9999 24 (.float .f64 x) (.float .f64 y)).run Try.prog w = .ok (Op.floatEq .f64 x y) w := by
  have hf := run_underlying Try.underlying24 (w := w)
  show (Op.equalIn (9998 + 1) 24 _ _).run Try.prog w = _
  rw [Op.equalIn]
  simp only [Sem.run_bind, hf, Result.andThen]
  simp [go_sem]

theorem capLit_walk (al ah cl ch sl sh dl dh rl rh : Nat) (e1 e2 e3 : Int) (pb p q : Nat) (w : World) (hC : Has1 w (pb, #[.int .i64 0])) (hA : Has1 w (p, #[.float .f64 al, .float .f64 ah])) (hB : Has1 w (q, #[.float .f64 cl, .float .f64 ch])) (n1 : pb ≠ p) (n2 : pb ≠ q)
    (cN : Hid (KN 16 0 0 4607182418800017408 4607182418800017408 4607182418800017408))
    (cQ : Hid (K1 14 0 e1 cl ch sl sh))
    (cS : Hid (K2 19 e1 e2 4607182418800017408 4607182418800017408 sl sh dl dh))
    (cM : Hid (K2 20 e2 e3 al ah dl dh rl rh)) :
    Calls Try.prog 29 #[.pointer (some ⟨pb, 0, none⟩), .pointer (some ⟨p, 0, none⟩), .pointer (some ⟨q, 0, none⟩)] w fun r w' => r = .returned (.agg #[.float .f64 rl, .float .f64 rh]) ∧ Put ⟨pb, 0, none⟩ (.int .i64 e3) w w' := by
  have E := Lib.hid ((((EnvE.start hC).add hB n2).add hA n1).made #[.float .f64 0, .float .f64 0] 26)
  have zp : w.heap.size ≠ p := Ne.symm (Nat.ne_of_lt hA.1)
  have zq : w.heap.size ≠ q := Ne.symm (Nat.ne_of_lt hB.1)
  clear hC hA hB n1 n2
  go_enter Try.func29, Try.ntmps29
  go_upto_region 1 with fail
  revert E
  generalize (w.alloc (.cells #[.float .f64 0, .float .f64 0] 26)) = W
  intro E
  obtain ⟨k1, k2⟩ := (E.out.nth 1 rfl).two; obtain ⟨k3, k4⟩ := (E.out.nth 2 rfl).two; have kc := (E.out.nth 0 rfl).2.1; have kf := (E.out.nth 0 rfl).2.2
  go_region_held3 (fun w' => (w'.cell? ⟨p, 0, none⟩ = some (.float .f64 al) ∧ w'.cell? ⟨p, 1, none⟩ = some (.float .f64 ah)) ∧ w'.cell? ⟨q, 0, none⟩ = some (.float .f64 cl) ∧ w'.cell? ⟨q, 1, none⟩ = some (.float .f64 ch)) (((try dsimp only); (repeat' apply And.intro); all_goals (repeat (first | (with_reducible assumption) | ((with_reducible refine keep_undrew ?_); (with_reducible assumption)) | (with_reducible refine keep_drew ?_) | (with_reducible refine keep_alloc _ ?_) | (with_reducible refine keep_set _ (by first | (with_reducible assumption) | omega) ?_)))))
    (first
      | (go_at_call 16; (with_reducible refine (cN.out _ _ E.out.drew.cal).mono ?_); rintro rr w5 ⟨rfl, hp⟩; have E' := Lib.hid (E.out.drew.putc hp); clear E hp k1 k2 k3 k4 kc kf; have E := E'; clear E'; obtain ⟨k1, k2⟩ := (E.out.nth 1 rfl).two; obtain ⟨k3, k4⟩ := (E.out.nth 2 rfl).two; have kc := (E.out.nth 0 rfl).2.1; have kf := (E.out.nth 0 rfl).2.2)
      | (go_at_call 14; (with_reducible refine (cQ.out _ _ E.out.cal).mono ?_); rintro rr w5 ⟨rfl, hp⟩; have E' := Lib.hid (E.out.putc hp); clear E hp k1 k2 k3 k4 kc kf; have E := E'; clear E'; obtain ⟨k1, k2⟩ := (E.out.nth 1 rfl).two; obtain ⟨k3, k4⟩ := (E.out.nth 2 rfl).two; have kc := (E.out.nth 0 rfl).2.1; have kf := (E.out.nth 0 rfl).2.2)
      | (go_at_call 19; (with_reducible refine (cS.out _ _ E.out.cal).mono ?_); rintro rr w5 ⟨rfl, hp⟩; have E' := Lib.hid (E.out.putc hp); clear E hp k1 k2 k3 k4 kc kf; have E := E'; clear E'; obtain ⟨k1, k2⟩ := (E.out.nth 1 rfl).two; obtain ⟨k3, k4⟩ := (E.out.nth 2 rfl).two; have kc := (E.out.nth 0 rfl).2.1; have kf := (E.out.nth 0 rfl).2.2)
      | (go_at_call 20; (with_reducible refine (cM.out _ _ E.out.cal).mono ?_); rintro rr w5 ⟨rfl, hp⟩; have E' := Lib.hid (E.out.putc hp); clear E hp k1 k2 k3 k4 kc kf; have E := E'; clear E'; obtain ⟨k1, k2⟩ := (E.out.nth 1 rfl).two; obtain ⟨k3, k4⟩ := (E.out.nth 2 rfl).two; have kc := (E.out.nth 0 rfl).2.1; have kf := (E.out.nth 0 rfl).2.2))
  have F := Lib.hid (E.out.set2 (E.out.nth 0 rfl) (E.out.ne 0 rfl) (by omega) (.float .f64 rl) (.float .f64 rh))
  go_wp2
  obtain ⟨f1, f2⟩ := (F.out.nth 0 rfl).two
  exact bodyPost_ret (v := .agg #[.float .f64 rl, .float .f64 rh]) (by simp [results, Try.results29, go_sem, f1, f2]) rfl ⟨rfl, F.out.put⟩

theorem computed_cap (al ah cl ch rl rh : Nat) (e : Int) (p q s : Nat) (w : World) (hp : Has1 w (p, #[.float .f64 al, .float .f64 ah])) (hq : Has1 w (q, #[.float .f64 cl, .float .f64 ch]))
    (cH : Hid (∀ v, Below w.heap.size w v → Calls Try.prog 54 #[.slice (some ⟨s, 0, none⟩) 2 2] v fun r w' => r = .returned (.int .i64 0) ∧ Below v.heap.size v w'))
    (cF : Hid (∀ (pb : Nat) (v : World), Has1 v (pb, #[.int .i64 0]) → Has1 v (p, #[.float .f64 al, .float .f64 ah]) → Has1 v (q, #[.float .f64 cl, .float .f64 ch]) → pb ≠ p → pb ≠ q →  Calls Try.prog 29 #[.pointer (some ⟨pb, 0, none⟩), .pointer (some ⟨p, 0, none⟩), .pointer (some ⟨q, 0, none⟩)] v fun r w' => r = .returned (.agg #[.float .f64 rl, .float .f64 rh]) ∧ Put ⟨pb, 0, none⟩ (.int .i64 e) v w')) :
    Calls Try.prog 28 #[.func (.func 29) #[] #[.pointer (some ⟨p, 0, none⟩), .pointer (some ⟨q, 0, none⟩)], .slice (some ⟨s, 0, none⟩) 2 2] w fun r w' => r = .returned (.tuple #[.agg #[.float .f64 rl, .float .f64 rh], .int .i64 e]) ∧ Below w.heap.size w w' := by
  have M := Lib.hid ((Own.nil w).made #[.float .f64 0, .float .f64 0] 26)
  have zp : p < w.heap.size := hp.1
  have zq : q < w.heap.size := hq.1
  go_enter Try.func28, Try.ntmps28
  go_wp2_with fail
  refine (cH.out _ M.out.base).mono ?_
  rintro r w1 ⟨rfl, hb⟩
  replace M := Lib.hid ((M.out.below hb).made #[.int .i64 0] 41)
  clear hb cH
  have Hp := Lib.hid (Has1.below hp M.out.base)
  have Hq := Lib.hid (Has1.below hq M.out.base)
  clear hp hq
  have hz : w.heap.size ≤ w1.heap.size := M.out.lowest 0 rfl
  go_wp2_with fail
  refine (cF.out _ _ (M.out.nth 0 rfl) Hp.out Hq.out (by omega) (by omega)).mono ?_
  rintro r w2 ⟨rfl, hp⟩
  replace M : Hid (Own w [(w1.heap.size, #[.int .i64 e]), (w.heap.size, #[.float .f64 0, .float .f64 0])] w2) := Lib.hid (M.out.putAt 0 rfl hp)
  clear hp cF Hp Hq
  go_wp2_with fail
  refine (err_any e _ 0 _ (M.out.nth 0 rfl).pc).mono ?_
  rintro r w3 ⟨rfl, rfl⟩
  have kc := (M.out.nth 1 rfl).2.1
  have kf := (M.out.nth 1 rfl).2.2
  replace M : Hid (Own w [(w1.heap.size, #[.int .i64 e]), (w.heap.size, #[.float .f64 rl, .float .f64 rh])] _) := Lib.hid (M.out.set2 1 rfl (.float .f64 rl) (.float .f64 rh))
  go_wp2
  obtain ⟨f1, f2⟩ := (M.out.nth 1 rfl).two
  exact bodyPost_ret (v := .tuple #[.agg #[.float .f64 rl, .float .f64 rh], .int .i64 e]) (by simp [results, Try.results28, go_sem, f1, f2]) rfl ⟨rfl, M.out.base⟩

theorem cap_walk (al ah cl ch rl rh : Nat) (e : Int) (w : World)
    (cC : Hid (∀ (p q s : Nat) (v : World), Has1 v (p, #[.float .f64 al, .float .f64 ah]) → Has1 v (q, #[.float .f64 cl, .float .f64 ch]) → Has1 v (s, #[.float .f64 al, .float .f64 ah, .float .f64 cl, .float .f64 ch]) → Calls Try.prog 28 #[.func (.func 29) #[] #[.pointer (some ⟨p, 0, none⟩), .pointer (some ⟨q, 0, none⟩)], .slice (some ⟨s, 0, none⟩) 2 2] v fun r w' => r = .returned (.tuple #[.agg #[.float .f64 rl, .float .f64 rh], .int .i64 e]) ∧ Below v.heap.size v w')) :
    Calls Try.prog 9 #[.agg #[.float .f64 al, .float .f64 ah], .agg #[.float .f64 cl, .float .f64 ch]] w fun r w' => r = .returned (.tuple #[.agg #[.float .f64 rl, .float .f64 rh], .int .i64 e]) ∧ Below w.heap.size w w' := by
  have M := Lib.hid (((((Own.nil w).made #[.float .f64 al, .float .f64 ah] 26).made #[.float .f64 cl, .float .f64 ch] 26).made #[.float .f64 0, .float .f64 0] 26).made #[.float .f64 al, .float .f64 ah, .float .f64 cl, .float .f64 ch] 26)
  simp only [World.size_alloc] at M
  have hmf : ∀ (fn : Fn) (first cap : Array Value) (w : World), (Instr.makeFunc fn first cap).run Try.prog w = .ok (.func fn first cap) w := fun _ _ _ _ => rfl
  obtain ⟨k0, k1⟩ := (M.out.nth 3 rfl).two
  obtain ⟨k2, k3⟩ := (M.out.nth 2 rfl).two
  go_enter Try.func9, Try.ntmps9
  go_wp2_with fail
  refine (cC.out _ _ _ _ (M.out.nth 3 rfl) (M.out.nth 2 rfl) (M.out.nth 0 rfl)).mono ?_
  rintro r w1 ⟨rfl, hb⟩
  replace M := Lib.hid (M.out.below hb)
  clear hb cC k0 k1 k2 k3 hmf
  have kc := (M.out.nth 1 rfl).2.1
  have kf := (M.out.nth 1 rfl).2.2
  replace M := Lib.hid (M.out.set2 1 rfl (.float .f64 rl) (.float .f64 rh))
  go_wp2
  obtain ⟨f1, f2⟩ := (M.out.nth 1 rfl).two
  exact bodyPost_ret (v := .tuple #[.agg #[.float .f64 rl, .float .f64 rh], .int .i64 e]) (by simp [results, Try.results9, go_sem, f1, f2]) rfl ⟨rfl, M.out.base⟩
end
section
open Go.RowKit

section
variable {a b p q r s k : Res} (e : Int) (ha : Wd a) (hb : Wd b)
end

structure WdV (a : V3) : Prop where
  x : Wd a.x
  y : Wd a.y
  z : Wd a.z
theorem FitV.wd {a : V3} (h : FitV a) : WdV a := ⟨h.x.wd, h.y.wd, h.z.wd⟩

section
variable {a b : V3} {k : Res} (e : Int) (ha : WdV a) (hb : WdV b) (hk : Wd k)
end

end
section
open Go.RowKit
attribute [local go_sem] run_store_float

section
variable {a : V3} {k : Res} (e : Int) (ha : WdV a) (hk : Wd k)
end

end
section
open Go.RowKit
attribute [local go_sem] run_store_float

theorem Has1.three {v : World} {b : Nat} {x y z : Value} (h : Has1 v (b, #[x, y, z])) : v.cell? ⟨b, 0, none⟩ = some x ∧ v.cell? ⟨b, 1, none⟩ = some y ∧ v.cell? ⟨b, 2, none⟩ = some z := ⟨h.2.1 0, h.2.1 1, h.2.1 2⟩

end
section
open Go.RowKit
attribute [local go_sem] run_store_float

end
section
open Go.RowKit
attribute [local go_sem] run_store_float

end
section
open Go.RowKit
attribute [local go_sem] run_store_float
end
end Go.Proofs.Ytnaomilkgfkegaa
