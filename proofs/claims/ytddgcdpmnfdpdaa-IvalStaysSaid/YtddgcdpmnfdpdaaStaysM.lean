
/- What the law IvalStays asks: an answer with an error is nothing; the state of its calculators. -/
import Derived.Test.YtddgcdpmnfdpdaaLessA
namespace Go.Proofs.Ytddgcdpmnfdpdaa
open Go.RowKit

theorem Mem.keep {B v v' : World} {l : List (Nat × Array Value)} {b : Nat} {y : Value} (h : Mem B l v) (hb : Put ⟨b, 0, none⟩ y v v') (hB : B.heap.size ≤ b) (hl : ∀ p, p ∈ l → b ≠ p.1) : Mem B l v' :=
  ⟨h.base.trans (hb.lift hB h.base.size), fun p hp => (h.blocks p hp).put (hl p hp) hb⟩

/-- The blocks c and d hold the errors of two calculators; the row l is of other ones. -/
structure St (B : World) (c d : Nat) (e f : Int) (l : List (Nat × Array Value)) (v : World) : Prop where
  mem : Mem B l v
  hc : Has1 v (c, #[.int .i64 e])
  hd : Has1 v (d, #[.int .i64 f])
  lc : B.heap.size ≤ c
  ld : B.heap.size ≤ d
  ne : c ≠ d
  off : ∀ p, p ∈ l → c ≠ p.1 ∧ d ≠ p.1
  apart : l.Pairwise fun p q => p.1 ≠ q.1
  low : ∀ p, p ∈ l → B.heap.size ≤ p.1

theorem St.drew {B v : World} {c d : Nat} {e f : Int} {l : List (Nat × Array Value)} (h : St B c d e f l v) : St B c d e f l v.drew := ⟨h.mem.drew, h.hc, h.hd, h.lc, h.ld, h.ne, h.off, h.apart, h.low⟩
theorem St.below {B v v' : World} {c d : Nat} {e f : Int} {l : List (Nat × Array Value)} (h : St B c d e f l v) (hb : Below v.heap.size v v') : St B c d e f l v' := ⟨h.mem.below hb, h.hc.below hb, h.hd.below hb, h.lc, h.ld, h.ne, h.off, h.apart, h.low⟩
theorem St.made {B v : World} {c d : Nat} {e f : Int} {l : List (Nat × Array Value)} (h : St B c d e f l v) (x : Array Value) (t : TypeId) : St B c d e f ((v.heap.size, x) :: l) (v.alloc (.cells x t)) where
  mem := h.mem.made x t
  hc := h.hc.below (bel1 _ _)
  hd := h.hd.below (bel1 _ _)
  lc := h.lc
  ld := h.ld
  ne := h.ne
  off := fun p hp => by
    rcases List.mem_cons.1 hp with e | e
    · rw [e]; have h1 := h.hc.1; have h2 := h.hd.1; exact ⟨by show c ≠ v.heap.size; show _; have : c < v.heap.size := h1; omega, by have : d < v.heap.size := h2; show d ≠ v.heap.size; omega⟩
    · exact h.off p e
  apart := List.pairwise_cons.2 ⟨fun p hp => by have : p.1 < v.heap.size := (h.mem.blocks p hp).1; show v.heap.size ≠ p.1; omega, h.apart⟩
  low := fun p hp => by
    rcases List.mem_cons.1 hp with e | e
    · rw [e]; exact h.mem.base.size
    · exact h.low p e
theorem St.putc {B v v' : World} {c d : Nat} {e f y : Int} {l : List (Nat × Array Value)} (h : St B c d e f l v) (hp : Put ⟨c, 0, none⟩ (.int .i64 y) v v') : St B c d y f l v' :=
  ⟨h.mem.keep hp h.lc (fun p hl => (h.off p hl).1), h.hc.own hp, h.hd.put h.ne hp, h.lc, h.ld, h.ne, h.off, h.apart, h.low⟩
theorem St.putd {B v v' : World} {c d : Nat} {e f y : Int} {l : List (Nat × Array Value)} (h : St B c d e f l v) (hp : Put ⟨d, 0, none⟩ (.int .i64 y) v v') : St B c d e y l v' :=
  ⟨h.mem.keep hp h.ld (fun p hl => (h.off p hl).2), h.hc.put (Ne.symm h.ne) hp, h.hd.own hp, h.lc, h.ld, h.ne, h.off, h.apart, h.low⟩

theorem St.two {B v : World} {c d : Nat} {e f : Int} {l : List (Nat × Array Value)} {p q : Nat × Array Value} (h : St B c d e f (p :: q :: l) v) : p.1 ≠ q.1 ∧ q.1 ≠ p.1 :=
  ⟨(List.pairwise_cons.1 h.apart).1 q (List.mem_cons_self ..), Ne.symm ((List.pairwise_cons.1 h.apart).1 q (List.mem_cons_self ..))⟩
/-- Five cells. -/
theorem Has1.five {v : World} {b : Nat} {x0 x1 x2 x3 x4 : Value} (h : Has1 v (b, #[x0, x1, x2, x3, x4])) : v.cell? ⟨b, 0, none⟩ = some x0 ∧ v.cell? ⟨b, 1, none⟩ = some x1 ∧ v.cell? ⟨b, 2, none⟩ = some x2 ∧ v.cell? ⟨b, 3, none⟩ = some x3 ∧ v.cell? ⟨b, 4, none⟩ = some x4 := ⟨h.2.1 0, h.2.1 1, h.2.1 2, h.2.1 3, h.2.1 4⟩

theorem Has1.setIn {v : World} {b : Nat} {c : Array Value} (h : Has1 v (b, c)) (i : Nat) (y : Value) : Has1 (v.setCell ⟨b, i, none⟩ y) (b, c.setIfInBounds i y) := by
  refine ⟨by rw [size_set]; exact h.1, fun j => ?_, fun j => (frozen_set _ _ _ _).trans (h.2.2 j)⟩
  by_cases hij : i = j
  · subst hij
    have h0 : v.cell? ⟨b, i, none⟩ = c[i]? := h.2.1 i
    cases hx : c[i]? with
    | none =>
      rw [hx] at h0
      have hge : c.size ≤ i := by
        rcases Nat.lt_or_ge i c.size with g | g
        · simp [g] at hx
        · exact g
      have e1 : (c.setIfInBounds i y)[i]? = none := by simp [hge]
      rw [e1]
      unfold World.cell? at h0 ⊢
      rw [heap_set, if_pos rfl]
      cases hb : v.heap[b]? with
      | none => rfl
      | some o =>
        cases o with
        | cells cs t f =>
          rw [hb] at h0
          simp only [Option.map_some, putObj] at h0 ⊢
          simp at h0 ⊢
          omega
        | _ => simp [putObj]
    | some x =>
      rw [hx] at h0
      have hlt : i < c.size := by
        rcases Nat.lt_or_ge i c.size with g | g
        · exact g
        · simp [g] at hx
      rw [World.cell?_setCell_same _ _ _ h0]
      simp [hlt]
  · rw [World.cell?_setCell_other _ _ _ _ (by simp)]
    have h0 : v.cell? ⟨b, j, none⟩ = c[j]? := h.2.1 j
    rw [h0]
    simp [hij]

theorem Mem.setIn {B v : World} {l : List (Nat × Array Value)} {b i : Nat} {c : Array Value} {y : Value} (h : Mem B l v) (hx : Has1 v (b, c)) (hB : B.heap.size ≤ b) (k : List (Nat × Array Value)) (hk : ∀ p, p ∈ k → p = (b, c.setIfInBounds i y) ∨ p ∈ l ∧ b ≠ p.1) : Mem B k (v.setCell ⟨b, i, none⟩ y) :=
  ⟨h.base.setCell hB _, fun p hp => by
    rcases hk p hp with e | ⟨e, e'⟩
    · rw [e]; exact hx.setIn i y
    · exact (h.blocks p e).set e'⟩

theorem keep_alloc {v : World} {b i : Nat} {x : Value} (o : Obj) (h : v.cell? ⟨b, i, none⟩ = some x) : (v.alloc o).cell? ⟨b, i, none⟩ = some x := (World.cell?_alloc_past _ _ _ (cell_lt h)).trans h
theorem keep_set {v : World} {b i q j : Nat} {x : Value} (y : Value) (hq : q ≠ b) (h : v.cell? ⟨b, i, none⟩ = some x) : (v.setCell ⟨q, j, none⟩ y).cell? ⟨b, i, none⟩ = some x := by
  rw [World.cell?_setCell_other _ _ _ _ (fun e => hq (congrArg Addr.block e))]; exact h
theorem keepA {v : World} {b : Nat} {x0 x1 x2 x3 x4 : Value} {o : Obj} (h0 : v.cell? ⟨b, 0, none⟩ = some x0) (h1 : v.cell? ⟨b, 1, none⟩ = some x1) (h2 : v.cell? ⟨b, 2, none⟩ = some x2) (h3 : v.cell? ⟨b, 3, none⟩ = some x3) (h4 : v.cell? ⟨b, 4, none⟩ = some x4) :
    (v.alloc o).cell? ⟨b, 0, none⟩ = some x0 ∧ (v.alloc o).cell? ⟨b, 1, none⟩ = some x1 ∧ (v.alloc o).cell? ⟨b, 2, none⟩ = some x2 ∧ (v.alloc o).cell? ⟨b, 3, none⟩ = some x3 ∧ (v.alloc o).cell? ⟨b, 4, none⟩ = some x4 :=
  ⟨keep_alloc o h0, keep_alloc o h1, keep_alloc o h2, keep_alloc o h3, keep_alloc o h4⟩
theorem keepD {v : World} {b : Nat} {x0 x1 x2 x3 x4 : Value} {o : Obj} (h0 : v.drew.cell? ⟨b, 0, none⟩ = some x0) (h1 : v.drew.cell? ⟨b, 1, none⟩ = some x1) (h2 : v.drew.cell? ⟨b, 2, none⟩ = some x2) (h3 : v.drew.cell? ⟨b, 3, none⟩ = some x3) (h4 : v.drew.cell? ⟨b, 4, none⟩ = some x4) :
    (v.alloc o).drew.cell? ⟨b, 0, none⟩ = some x0 ∧ (v.alloc o).drew.cell? ⟨b, 1, none⟩ = some x1 ∧ (v.alloc o).drew.cell? ⟨b, 2, none⟩ = some x2 ∧ (v.alloc o).drew.cell? ⟨b, 3, none⟩ = some x3 ∧ (v.alloc o).drew.cell? ⟨b, 4, none⟩ = some x4 :=
  ⟨keep_alloc (v := v) o h0, keep_alloc (v := v) o h1, keep_alloc (v := v) o h2, keep_alloc (v := v) o h3, keep_alloc (v := v) o h4⟩
/-- The five cells stand. -/
def Five (v : World) (b : Nat) (x0 x1 x2 x3 x4 : Value) : Prop := v.cell? ⟨b, 0, none⟩ = some x0 ∧ v.cell? ⟨b, 1, none⟩ = some x1 ∧ v.cell? ⟨b, 2, none⟩ = some x2 ∧ v.cell? ⟨b, 3, none⟩ = some x3 ∧ v.cell? ⟨b, 4, none⟩ = some x4
theorem Five.set {v : World} {b q j : Nat} {x0 x1 x2 x3 x4 y : Value} (hq : q ≠ b) (h : Five v b x0 x1 x2 x3 x4) : Five (v.setCell ⟨q, j, none⟩ y) b x0 x1 x2 x3 x4 :=
  ⟨keep_set y hq h.1, keep_set y hq h.2.1, keep_set y hq h.2.2.1, keep_set y hq h.2.2.2.1, keep_set y hq h.2.2.2.2⟩
theorem keepS {v : World} {b q : Nat} {x0 x1 x2 x3 x4 y0 y1 y2 y3 y4 : Value} (hq : q ≠ b) (h0 : v.cell? ⟨b, 0, none⟩ = some x0) (h1 : v.cell? ⟨b, 1, none⟩ = some x1) (h2 : v.cell? ⟨b, 2, none⟩ = some x2) (h3 : v.cell? ⟨b, 3, none⟩ = some x3) (h4 : v.cell? ⟨b, 4, none⟩ = some x4) :
    (((((v.setCell ⟨q, 0, none⟩ y0).setCell ⟨q, 1, none⟩ y1).setCell ⟨q, 2, none⟩ y2).setCell ⟨q, 3, none⟩ y3).setCell ⟨q, 4, none⟩ y4).cell? ⟨b, 0, none⟩ = some x0 ∧ (((((v.setCell ⟨q, 0, none⟩ y0).setCell ⟨q, 1, none⟩ y1).setCell ⟨q, 2, none⟩ y2).setCell ⟨q, 3, none⟩ y3).setCell ⟨q, 4, none⟩ y4).cell? ⟨b, 1, none⟩ = some x1 ∧ (((((v.setCell ⟨q, 0, none⟩ y0).setCell ⟨q, 1, none⟩ y1).setCell ⟨q, 2, none⟩ y2).setCell ⟨q, 3, none⟩ y3).setCell ⟨q, 4, none⟩ y4).cell? ⟨b, 2, none⟩ = some x2 ∧ (((((v.setCell ⟨q, 0, none⟩ y0).setCell ⟨q, 1, none⟩ y1).setCell ⟨q, 2, none⟩ y2).setCell ⟨q, 3, none⟩ y3).setCell ⟨q, 4, none⟩ y4).cell? ⟨b, 3, none⟩ = some x3 ∧ (((((v.setCell ⟨q, 0, none⟩ y0).setCell ⟨q, 1, none⟩ y1).setCell ⟨q, 2, none⟩ y2).setCell ⟨q, 3, none⟩ y3).setCell ⟨q, 4, none⟩ y4).cell? ⟨b, 4, none⟩ = some x4 :=
  ((((Five.set hq ⟨h0, h1, h2, h3, h4⟩).set hq).set hq).set hq).set hq

theorem keep_undrew {v : World} {a : Addr} {x : Value} (h : v.drew.cell? a = some x) : v.cell? a = some x := h
theorem keep_drew {v : World} {a : Addr} {x : Value} (h : v.cell? a = some x) : v.drew.cell? a = some x := h

theorem Has1.five5 {v : World} {q : Nat} {z0 z1 z2 z3 z4 : Value} (h : Has1 v (q, #[z0, z1, z2, z3, z4])) (y0 y1 y2 y3 y4 : Value) :
    Has1 (((((v.setCell ⟨q, 0, none⟩ y0).setCell ⟨q, 1, none⟩ y1).setCell ⟨q, 2, none⟩ y2).setCell ⟨q, 3, none⟩ y3).setCell ⟨q, 4, none⟩ y4) (q, #[y0, y1, y2, y3, y4]) :=
  ((((h.setIn 0 y0).setIn 1 y1).setIn 2 y2).setIn 3 y3).setIn 4 y4
theorem Mem.five5 {B v : World} {l : List (Nat × Array Value)} {q : Nat} {z0 z1 z2 z3 z4 y0 y1 y2 y3 y4 : Value} (h : Mem B l v) (hx : Has1 v (q, #[z0, z1, z2, z3, z4])) (hB : B.heap.size ≤ q) (k : List (Nat × Array Value)) (hk : ∀ p, p ∈ k → p = (q, #[y0, y1, y2, y3, y4]) ∨ p ∈ l ∧ q ≠ p.1) :
    Mem B k (((((v.setCell ⟨q, 0, none⟩ y0).setCell ⟨q, 1, none⟩ y1).setCell ⟨q, 2, none⟩ y2).setCell ⟨q, 3, none⟩ y3).setCell ⟨q, 4, none⟩ y4) :=
  ⟨((((h.base.setCell hB _).setCell hB _).setCell hB _).setCell hB _).setCell hB _, fun p hp => by
    rcases hk p hp with e | ⟨e, e'⟩
    · rw [e]; exact hx.five5 _ _ _ _ _
    · exact (((((h.blocks p e).set e').set e').set e').set e').set e'⟩

/-- Two calculators are made. -/
theorem St.start {B v : World} {l : List (Nat × Array Value)} (h : Mem B l v) (hl : l.Pairwise fun p q => p.1 ≠ q.1) (hw : ∀ p, p ∈ l → B.heap.size ≤ p.1) (t u : TypeId) : St B v.heap.size (v.heap.size + 1) 0 0 l ((v.alloc (.cells #[.int .i64 0] t)).alloc (.cells #[.int .i64 0] u)) := by
  have h2 := (h.made #[.int .i64 0] t).made #[.int .i64 0] u
  have e : (v.alloc (.cells #[.int .i64 0] t)).heap.size = v.heap.size + 1 := by simp
  rw [e] at h2
  have hs := h.base.size
  refine ⟨h2.sub (fun p hp => List.mem_cons_of_mem _ (List.mem_cons_of_mem _ hp)), h2.nth 1 rfl, h2.nth 0 rfl, hs, by omega, by omega, fun p hp => ?_, hl, hw⟩
  have : p.1 < v.heap.size := (h.blocks p hp).1
  omega

/-- Behind both answers. -/
def LessC (w : World) (c d : Nat) (e f : Int) (al ah xl xh : Nat) (p q : Value) (wx : World) : Prop :=
  ∃ i j, p = .pointer (some ⟨i, 0, none⟩) ∧ q = .pointer (some ⟨j, 0, none⟩) ∧ Mem w [(c, #[.int .i64 e]), (d, #[.int .i64 f]), (i, #[.float .f64 al, .float .f64 ah]), (j, #[.float .f64 xl, .float .f64 xh])] wx

section
variable {B v : World} {c d : Nat} {e f : Int} {l : List (Nat × Array Value)} {a b x y q r : Nat} {z0 z1 z2 z3 : Value} {t u : TypeId}
theorem LessC.of {i j : Nat} (hb : Below B.heap.size B v) (hc : Has1 v (c, #[.int .i64 e])) (hd : Has1 v (d, #[.int .i64 f])) (hi : Has1 v (i, #[.float .f64 a, .float .f64 b])) (hj : Has1 v (j, #[.float .f64 x, .float .f64 y])) :
    LessC B c d e f a b x y (.pointer (some ⟨i, 0, none⟩)) (.pointer (some ⟨j, 0, none⟩)) v :=
  ⟨i, j, rfl, rfl, hb, fun p hp => by
    simp only [List.mem_cons, List.not_mem_nil, or_false] at hp
    rcases hp with rfl | rfl | rfl | rfl
    · exact hc
    · exact hd
    · exact hi
    · exact hj⟩
theorem LessC.both (h : St B c d e f l v) : LessC B c d e f a b x y (.pointer (some ⟨v.heap.size, 0, none⟩)) (.pointer (some ⟨v.heap.size + 1, 0, none⟩)) ((v.alloc (.cells #[.float .f64 a, .float .f64 b] t)).alloc (.cells #[.float .f64 x, .float .f64 y] u)) := by
  have k := (h.made #[.float .f64 a, .float .f64 b] t).made #[.float .f64 x, .float .f64 y] u
  rw [World.size_alloc] at k
  exact LessC.of k.mem.base k.hc k.hd (k.mem.nth 1 rfl) (k.mem.nth 0 rfl)
theorem LessC.both' (h : St B c d e f l v) : LessC B c d e f a b x y (.pointer (some ⟨v.heap.size + 1, 0, none⟩)) (.pointer (some ⟨v.heap.size, 0, none⟩)) ((v.alloc (.cells #[.float .f64 x, .float .f64 y] t)).alloc (.cells #[.float .f64 a, .float .f64 b] u)) := by
  have k := (h.made #[.float .f64 x, .float .f64 y] t).made #[.float .f64 a, .float .f64 b] u
  rw [World.size_alloc] at k
  exact LessC.of k.mem.base k.hc k.hd (k.mem.nth 0 rfl) (k.mem.nth 1 rfl)

/-- Both cells of one block are stored. -/
theorem below_two {W : Nat} {o : World} (h : Below W o v) (hq : W ≤ q) (x' y' : Value) : Below W o ((v.setCell ⟨q, 0, none⟩ x').setCell ⟨q, 1, none⟩ y') := (Below.setCell h hq _).setCell hq _
theorem Has1.two2 {p : Nat × Array Value} (h : Has1 v p) (hq : q ≠ p.1) (x' y' : Value) : Has1 ((v.setCell ⟨q, 0, none⟩ x').setCell ⟨q, 1, none⟩ y') p := (h.set hq).set hq
theorem size_two (x' y' : Value) : ((v.setCell ⟨q, 0, none⟩ x').setCell ⟨q, 1, none⟩ y').heap.size = v.heap.size := by rw [size_set, size_set]

theorem LessC.one (h : St B c d e f ((q, #[z0, z1]) :: l) v) : LessC B c d e f a b x y (.pointer (some ⟨q, 0, none⟩)) (.pointer (some ⟨v.heap.size, 0, none⟩)) (((v.setCell ⟨q, 0, none⟩ (.float .f64 a)).setCell ⟨q, 1, none⟩ (.float .f64 b)).alloc (.cells #[.float .f64 x, .float .f64 y] u)) := by
  have ho := h.off (q, #[z0, z1]) (List.mem_cons_self ..)
  have hl := h.low (q, #[z0, z1]) (List.mem_cons_self ..)
  have hm := Has1.made ((v.setCell ⟨q, 0, none⟩ (.float .f64 a)).setCell ⟨q, 1, none⟩ (.float .f64 b)) #[.float .f64 x, .float .f64 y] u
  rw [size_two] at hm
  exact LessC.of ((below_two h.mem.base hl _ _).alloc (by rw [size_two]; exact h.mem.base.size) _) ((h.hc.two2 (Ne.symm ho.1) _ _).below (bel1 _ _)) ((h.hd.two2 (Ne.symm ho.2) _ _).below (bel1 _ _)) (((h.mem.nth 0 rfl).set2 _ _).below (bel1 _ _)) hm
theorem LessC.one' (h : St B c d e f ((q, #[z0, z1]) :: l) v) : LessC B c d e f a b x y (.pointer (some ⟨v.heap.size, 0, none⟩)) (.pointer (some ⟨q, 0, none⟩)) (((v.setCell ⟨q, 0, none⟩ (.float .f64 x)).setCell ⟨q, 1, none⟩ (.float .f64 y)).alloc (.cells #[.float .f64 a, .float .f64 b] u)) := by
  have ho := h.off (q, #[z0, z1]) (List.mem_cons_self ..)
  have hl := h.low (q, #[z0, z1]) (List.mem_cons_self ..)
  have hm := Has1.made ((v.setCell ⟨q, 0, none⟩ (.float .f64 x)).setCell ⟨q, 1, none⟩ (.float .f64 y)) #[.float .f64 a, .float .f64 b] u
  rw [size_two] at hm
  exact LessC.of ((below_two h.mem.base hl _ _).alloc (by rw [size_two]; exact h.mem.base.size) _) ((h.hc.two2 (Ne.symm ho.1) _ _).below (bel1 _ _)) ((h.hd.two2 (Ne.symm ho.2) _ _).below (bel1 _ _)) hm (((h.mem.nth 0 rfl).set2 _ _).below (bel1 _ _))
theorem LessC.pair (hb : Below B.heap.size B v) (hc : Has1 v (c, #[.int .i64 e])) (hd : Has1 v (d, #[.int .i64 f])) (hq : Has1 v (q, #[z0, z1])) (hr : Has1 v (r, #[z2, z3])) (lq : B.heap.size ≤ q) (lr : B.heap.size ≤ r) (cq : c ≠ q) (cr : c ≠ r) (dq : d ≠ q) (dr : d ≠ r) (qr : q ≠ r) :
    LessC B c d e f a b x y (.pointer (some ⟨q, 0, none⟩)) (.pointer (some ⟨r, 0, none⟩)) ((((v.setCell ⟨q, 0, none⟩ (.float .f64 a)).setCell ⟨q, 1, none⟩ (.float .f64 b)).setCell ⟨r, 0, none⟩ (.float .f64 x)).setCell ⟨r, 1, none⟩ (.float .f64 y)) :=
  LessC.of (below_two (below_two hb lq _ _) lr _ _) ((hc.two2 (Ne.symm cq) _ _).two2 (Ne.symm cr) _ _) ((hd.two2 (Ne.symm dq) _ _).two2 (Ne.symm dr) _ _) ((hq.set2 _ _).two2 (Ne.symm qr) _ _) ((hr.two2 qr _ _).set2 _ _)
theorem LessC.two (h : St B c d e f ((r, #[z2, z3]) :: (q, #[z0, z1]) :: l) v) : LessC B c d e f a b x y (.pointer (some ⟨q, 0, none⟩)) (.pointer (some ⟨r, 0, none⟩)) ((((v.setCell ⟨q, 0, none⟩ (.float .f64 a)).setCell ⟨q, 1, none⟩ (.float .f64 b)).setCell ⟨r, 0, none⟩ (.float .f64 x)).setCell ⟨r, 1, none⟩ (.float .f64 y)) := by
  have o0 := h.off (r, #[z2, z3]) (List.mem_cons_self ..)
  have o1 := h.off (q, #[z0, z1]) (List.mem_cons_of_mem _ (List.mem_cons_self ..))
  exact LessC.pair h.mem.base h.hc h.hd (h.mem.nth 1 rfl) (h.mem.nth 0 rfl) (h.low (q, #[z0, z1]) (List.mem_cons_of_mem _ (List.mem_cons_self ..))) (h.low (r, #[z2, z3]) (List.mem_cons_self ..)) o1.1 o0.1 o1.2 o0.2 h.two.2
theorem LessC.two' (h : St B c d e f ((q, #[z0, z1]) :: (r, #[z2, z3]) :: l) v) : LessC B c d e f a b x y (.pointer (some ⟨q, 0, none⟩)) (.pointer (some ⟨r, 0, none⟩)) ((((v.setCell ⟨q, 0, none⟩ (.float .f64 a)).setCell ⟨q, 1, none⟩ (.float .f64 b)).setCell ⟨r, 0, none⟩ (.float .f64 x)).setCell ⟨r, 1, none⟩ (.float .f64 y)) := by
  have o0 := h.off (q, #[z0, z1]) (List.mem_cons_self ..)
  have o1 := h.off (r, #[z2, z3]) (List.mem_cons_of_mem _ (List.mem_cons_self ..))
  exact LessC.pair h.mem.base h.hc h.hd (h.mem.nth 0 rfl) (h.mem.nth 1 rfl) (h.low (q, #[z0, z1]) (List.mem_cons_self ..)) (h.low (r, #[z2, z3]) (List.mem_cons_of_mem _ (List.mem_cons_self ..))) o0.1 o1.1 o0.2 o1.2 h.two.1
end

end Go.Proofs.Ytddgcdpmnfdpdaa

namespace Go.Proofs.Ytddgcdpmnfdpdaa
open Go.RowKit

def Nil0 (R : Res) : Prop := R.e ≠ 0 → R.lo = 0 ∧ R.hi = 0
theorem nil_tight (lo hi : Nat) (e f : Int) : Nil0 (tightR lo e hi f) := by
  intro h
  unfold tightR at h ⊢
  by_cases he : e = 0
  · rw [if_pos he] at h ⊢
    by_cases hf : f = 0
    · rw [if_pos hf] at h; exact absurd rfl h
    · rw [if_neg hf]; exact ⟨rfl, rfl⟩
  · rw [if_neg he]; exact ⟨rfl, rfl⟩
theorem nil_none (e : Int) : Nil0 ⟨e, 0, 0⟩ := fun _ => ⟨rfl, rfl⟩
theorem nil_some (a b : Nat) : Nil0 ⟨0, a, b⟩ := fun h => absurd rfl h
theorem nil_join (R R' : Res) : Nil0 (joinR R R') := by
  unfold joinR
  split
  · split
    · exact nil_some _ _
    · exact nil_none _
  · exact nil_none _

theorem nil_mulJ (al ah bl bh : Nat) : Nil0 (mulJ al ah bl bh) := by
  unfold mulJ
  split
  · exact nil_tight _ _ _ _
  · exact nil_tight _ _ _ _

theorem ask_nil (e : Int) (al ah bl bh j : Nat) (hj : j < 11) : Nil0 (askR e al ah bl bh j) := by
  unfold askR stepI
  by_cases he : e = 0
  · rw [if_pos he]
    cases askB al ah bl bh j
    · rw [if_neg Bool.false_ne_true]; exact nil_none _
    · rw [if_pos rfl]
      rcases (show j = 0 ∨ j = 1 ∨ j = 2 ∨ j = 3 ∨ j = 4 ∨ j = 5 ∨ j = 6 ∨ j = 7 ∨ j = 8 ∨ j = 9 ∨ j = 10 by omega) with rfl | rfl | rfl | rfl | rfl | rfl | rfl | rfl | rfl | rfl | rfl
      · exact nil_tight _ _ _ _
      · exact nil_tight _ _ _ _
      · show Nil0 (mulI al ah bl bh)
        unfold mulI
        split
        · exact nil_join _ _
        · exact nil_mulJ _ _ _ _
      · show Nil0 (divI al ah bl bh)
        unfold divI
        split
        · exact nil_none _
        · exact nil_tight _ _ _ _
      · exact nil_some _ _
      · exact nil_some _ _
      · exact nil_tight _ _ _ _
      · show Nil0 (sqrtI al ah)
        unfold sqrtI
        split
        · exact nil_none _
        · exact nil_tight _ _ _ _
      · exact nil_some _ _
      · exact nil_some _ _
      · show Nil0 (ofI al)
        unfold ofI
        split
        · exact nil_some _ _
        · exact nil_none _
  · rw [if_neg he]; exact nil_none _

theorem ask_err (e : Int) (al ah bl bh j : Nat) (he : e ≠ 0) : askR e al ah bl bh j = ⟨e, 0, 0⟩ := by
  unfold askR stepI
  rw [if_neg he]

/-- A calculator that stands, an op, and one more calculator. -/
theorem St.fresh {B v : World} {c : Nat} {e : Int} {x : Array Value} (hB : Below B.heap.size B v) (hc : Has1 v (c, #[.int .i64 e])) (lc : B.heap.size ≤ c) (t u : TypeId) :
    St B c (v.heap.size + 1) e 0 [(v.heap.size, x)] ((v.alloc (.cells x t)).alloc (.cells #[.int .i64 0] u)) := by
  have hs := hB.size
  have hc1 : c < v.heap.size := hc.1
  have h1 := Has1.made v x t
  have h2 := Has1.made (v.alloc (.cells x t)) #[.int .i64 0] u
  rw [World.size_alloc] at h2
  refine ⟨⟨(hB.alloc hs _).alloc (by rw [World.size_alloc]; omega) _, fun p hp => ?_⟩, (hc.below (bel1 _ _)).below (bel1 _ _), h2, lc, by omega, by omega, fun p hp => ?_, by simp, fun p hp => ?_⟩
  · simp only [List.mem_cons, List.not_mem_nil, or_false] at hp
    rw [hp]; exact h1.below (bel1 _ _)
  · simp only [List.mem_cons, List.not_mem_nil, or_false] at hp
    rw [hp]
    exact ⟨by show c ≠ v.heap.size; omega, by show v.heap.size + 1 ≠ v.heap.size; omega⟩
  · simp only [List.mem_cons, List.not_mem_nil, or_false] at hp
    rw [hp]; exact hs

/-- The relation of the loop: c: the calculator's block. -/
def StayRel (w : World) (c m : Nat) (i : Value) (wr : World) : Prop := ∃ (k : Nat) (e : Int), k ≤ m ∧ i = .int .i64 (k : Int) ∧ Below w.heap.size w wr ∧ Has1 wr (c, #[.int .i64 e])

/-- Behind both answers. -/
def StayC (w : World) (c d : Nat) (e f : Int) (al ah xl xh : Nat) (b : Nat) (x : Array Value) (p q : Value) (wx : World) : Prop := LessC w c d e f al ah xl xh p q wx ∧ Has1 wx (b, x)

end Go.Proofs.Ytddgcdpmnfdpdaa
