
/- Package lambert: what its functions answer, by letters. -/
import Derived.Test.YtdppppaoflhgdaaQFA
import Derived.Test.YtdppppaoflhgdaaQFD
import Derived.Deep.RegionHeld3
namespace Go.Proofs.Ytdppppaoflhgdaa
open Go.RowKit

section
variable {P : Program} {ops : Array Oper} {Q : Exit → Act → World → Prop} {md : Region.Mode} {S : World → Prop}
/-- pl: which steps of the chain are plain ones, which are taken as soon as they may come up. -/
def latAtP (pl : List Bool) (md : Region.Mode) (ops : Array Oper) (L0 : Array Bool) (cs ms : List Nat) (k : Nat) (p : List Bool) : Bool :=
  if pl.getD k false && decide (k < cs.length) then
    (match cs[k]? with
      | some i => Region.noSelect ops && Region.free md ops (lstOf L0 cs ms k p) i && (Region.ready md ops (lstOf L0 cs ms k p)).contains i && closedB md ops (lstOf L0 cs ms k p) && ((lstOf L0 cs ms k p).setIfInBounds i true == lstOf L0 cs ms (k + 1) p)
      | none => false)
  else latAt md ops L0 cs ms k p
def latOkP (pl : List Bool) (md : Region.Mode) (ops : Array Oper) (L0 : Array Bool) (cs ms : List Nat) : Bool :=
  (List.range (cs.length + 1)).all fun k => (boolLists ms.length).all fun p => latAtP pl md ops L0 cs ms k p
theorem latP_any {pl : List Bool} {L0 : Array Bool} {cs ms : List Nat} {N : Nat} (J : Nat → List (Option Nat) → Act → World → Prop) (hok : latOkP pl md ops L0 cs ms = true)
    (hS : ∀ k p a w, J k p a w → S w)
    (call : ∀ k i p a w, cs[k]? = some i → pl.getD k false = false → J k p a w → wpOp P ops Q i (fun b v => J (k + 1) p b v) a w)
    (take : ∀ k i p a w, cs[k]? = some i → pl.getD k false = true → J k p a w → ∃ o x, ops[i]? = some o ∧ YieldsIf P ops S o x a ∧ (∀ c a w, Q (.panic c) (a.put o.dst x) w → Q (.panic c) a w) ∧ J (k + 1) p (a.put o.dst x) w)
    (alloc : ∀ k m i p a w, ms[m]? = some i → p[m]? = some none → J k p a w → wpOp P ops Q i (fun b v => ∃ q, J k (p.set m (some q)) b v) a w)
    (fin : ∀ p a w, p.length = ms.length → (∀ x ∈ p, x.isSome = true) → J cs.length p a w → wpAnyV P md ops Q S [] N (lstOf L0 cs ms cs.length (p.map Option.isSome)) a w) :
    ∀ (f k : Nat) (p : List (Option Nat)) (a : Act) (w : World), p.length = ms.length → k ≤ cs.length → f = (cs.length - k) + p.count none → J k p a w →
      wpAnyV P md ops Q S [] (N + f) (lstOf L0 cs ms k (p.map Option.isSome)) a w
  | 0, k, p, a, w, hp, hk, hf, hJ => by
    obtain rfl : k = cs.length := by omega
    exact fin p a w hp (count_nil p (by omega)) hJ
  | f + 1, k, p, a, w, hp, hk, hf, hJ => by
    have hat : latAtP pl md ops L0 cs ms k (p.map Option.isSome) = true := by
      unfold latOkP at hok
      rw [List.all_eq_true] at hok
      have h1 := hok k (by simp; omega)
      rw [List.all_eq_true] at h1
      refine h1 _ ?_
      have := mem_bools (p.map Option.isSome)
      rw [List.length_map, hp] at this
      exact this
    have hnot : (decide (k = cs.length) && (p.map Option.isSome).all id) = false := by
      rw [Bool.eq_false_iff]
      intro h
      rw [Bool.and_eq_true, decide_eq_true_eq, List.all_eq_true] at h
      have hc : p.count none = 0 := by
        rw [List.count_eq_zero]
        intro hm
        have := h.2 false (by rw [List.mem_map]; exact ⟨none, hm, rfl⟩)
        simp at this
      omega
    unfold latAtP at hat
    by_cases g : pl.getD k false = true ∧ k < cs.length
    · rw [g.1, decide_eq_true g.2, Bool.and_true, if_pos rfl] at hat
      cases hck : cs[k]? with
      | none => rw [hck] at hat; cases hat
      | some i =>
        rw [hck] at hat
        simp only [Bool.and_eq_true, beq_iff_eq] at hat
        obtain ⟨⟨⟨⟨h1, h2⟩, h3⟩, h4⟩, hl⟩ := hat
        obtain ⟨o, x, ho, hy, hQ, hJ'⟩ := take k i p a w hck g.1 hJ
        refine tails_take (T := []) ho h1 h2 h3 (by rw [h4]; rfl) hQ hy (hS _ _ _ _ hJ) ?_
        rw [hl]
        exact latP_any J hok hS call take alloc fin f (k + 1) p _ w hp (by omega) (by omega) hJ'
    have g' : (pl.getD k false && decide (k < cs.length)) = false := by
      rw [Bool.eq_false_iff]; intro e
      rw [Bool.and_eq_true, decide_eq_true_eq] at e
      exact g e
    rw [g', if_neg Bool.false_ne_true] at hat
    unfold latAt at hat
    rw [hnot, Bool.false_or, Bool.and_eq_true, List.all_eq_true] at hat
    obtain ⟨hne, hall⟩ := hat
    refine ⟨fun h0 => by rw [h0] at hne; simp at hne, fun i hi => ?_⟩
    have hi' := hall i hi
    rw [Bool.or_eq_true] at hi'
    rcases hi' with h | h
    · cases hck : cs[k]? with
      | none => rw [hck] at h; simp at h
      | some j =>
        rw [hck] at h
        simp only [Bool.and_eq_true, beq_iff_eq] at h
        obtain ⟨rfl, hl⟩ := h
        have hk' : k < cs.length := by
          rcases Nat.lt_or_ge k cs.length with g | g
          · exact g
          · rw [List.getElem?_eq_none g] at hck; cases hck
        refine wpOp_mono (fun b v hb => ⟨Or.inr (hS _ _ _ _ hb), ?_⟩) (call k i p a w hck (by cases e : pl.getD k false; rfl; exact absurd ⟨e, hk'⟩ g) hJ)
        rw [hl]
        exact latP_any J hok hS call take alloc fin f (k + 1) p b v hp (by omega) (by omega) hb
    · rw [List.any_eq_true] at h
      obtain ⟨m, hm, h⟩ := h
      simp only [Bool.and_eq_true, beq_iff_eq] at h
      obtain ⟨⟨h1, h2⟩, hl⟩ := h
      have h3 : p[m]? = some none := by
        rw [List.getElem?_map] at h2
        cases hpm : p[m]? with
        | none => rw [hpm] at h2; simp at h2
        | some x =>
          rw [hpm] at h2
          cases x
          · rfl
          · simp at h2
      refine wpOp_mono (fun b v hb => ?_) (alloc k m i p a w h1 h3 hJ)
      obtain ⟨q, hb⟩ := hb
      refine ⟨Or.inr (hS _ _ _ _ hb), ?_⟩
      have e : (p.map Option.isSome).set m true = (p.set m (some q)).map Option.isSome := by
        rw [List.map_set]; rfl
      rw [hl, e]
      exact latP_any J hok hS call take alloc fin f k (p.set m (some q)) b v (by rw [List.length_set]; exact hp) hk (by have := count_set p m q h3; omega) hb
theorem latP_from {pl : List Bool} {a0 : Act} {w0 : World} {L0 : Array Bool} (cs ms slots : List Nat) (N f : Nat) (J : Act → Nat → List (Option Nat) → Act → World → Prop) (hok : latOkP pl md ops L0 cs ms = true) (hf : f = cs.length + ms.length)
    (hsl : (slots.all fun s => decide (s < a0.tmps.size)) = true) (h0 : ∀ A : Act, (∀ s, s ∈ slots → s < A.tmps.size) → J A 0 (List.replicate ms.length none) A w0)
    (hS : ∀ k p a w, J a0 k p a w → S w)
    (call : ∀ k i p a w, cs[k]? = some i → pl.getD k false = false → J a0 k p a w → wpOp P ops Q i (fun b v => J a0 (k + 1) p b v) a w)
    (take : ∀ k i p a w, cs[k]? = some i → pl.getD k false = true → J a0 k p a w → ∃ o x, ops[i]? = some o ∧ YieldsIf P ops S o x a ∧ (∀ c a w, Q (.panic c) (a.put o.dst x) w → Q (.panic c) a w) ∧ J a0 (k + 1) p (a.put o.dst x) w)
    (alloc : ∀ k m i p a w, ms[m]? = some i → p[m]? = some none → J a0 k p a w → wpOp P ops Q i (fun b v => ∃ q, J a0 k (p.set m (some q)) b v) a w)
    (fin : ∀ p a w, p.length = ms.length → (∀ x ∈ p, x.isSome = true) → J a0 cs.length p a w → wpAnyV P md ops Q S [] N (lstOf L0 cs ms cs.length (p.map Option.isSome)) a w) :
    wpAnyV P md ops Q S [] (N + f) L0 a0 w0 := by
  have h := latP_any (J a0) hok hS call take alloc fin f 0 (List.replicate ms.length none) a0 w0 (by simp) (Nat.zero_le _) (by rw [hf]; simp) (h0 a0 (fun s hs => by rw [List.all_eq_true] at hsl; exact of_decide_eq_true (hsl s hs)))
  have e : lstOf L0 cs ms 0 ((List.replicate ms.length none).map (Option.isSome (α := Nat))) = L0 := by
    unfold lstOf
    rw [List.take_zero, List.foldl_nil]
    have : ∀ (ms : List Nat) (L : Array Bool), (ms.zip ((List.replicate ms.length none).map (Option.isSome (α := Nat)))).foldl (fun l x => if x.2 then l.setIfInBounds x.1 true else l) L = L := by
      intro ms
      induction ms with
      | nil => intro L; rfl
      | cons m ms ih => intro L; simpa [List.replicate_succ] using ih L
    exact this ms L0
  rw [e] at h
  exact h
end
end Go.Proofs.Ytdppppaoflhgdaa

namespace Go.Proofs.Ytdppppaoflhgdaa
open Go.RowKit

section
variable {B v v' : World} {l : List (Nat × Array Value)}
theorem Own.setIn (h : Own B l v) (i : Nat) {q : Nat} {c : Array Value} (hi : l[i]? = some (q, c)) (k : Nat) (y : Value) : Own B (l.set i (q, c.setIfInBounds k y)) (v.setCell ⟨q, k, none⟩ y) :=
  h.at i hi (h.base.setCell (h.lowest i hi) _) ((h.nth i hi).setIn k y) (fun _ hx hne => hx.set hne)
theorem Own.to {l' : List (Nat × Array Value)} (h : Own B l v) (e : l = l') : Own B l' v := e ▸ h
theorem Own.rebase (h : Own B l v) {pb : Nat} {y : Value} (hp : pb < B.heap.size) (hb : Put ⟨pb, 0, none⟩ y v v') : Own (B.setCell ⟨pb, 0, none⟩ y) l v' where
  base := by
    have k := both h.base ⟨pb, 0, none⟩ y
    have k2 : Below v.heap.size (v.setCell ⟨pb, 0, none⟩ y) v' := hb
    rw [size_set]
    exact k.trans (k2.mono h.base.size)
  blocks := fun x hx => by
    obtain ⟨h1, h2⟩ := h.blocks x hx
    have hne : pb ≠ x.1 := by omega
    exact ⟨h1.put hne hb, by rw [size_set]; exact h2⟩
  apart := h.apart
theorem Has1.other {w : World} {pb : Nat} {x : Value} (h : Has1 w (pb, #[x])) (y : Value) : Has1 (w.setCell ⟨pb, 0, none⟩ y) (pb, #[y]) := h.setIn 0 y
theorem Own.put {p : Addr} {y : Value} (h : Own (B.setCell p y) l v) : Put p y B v := by
  have k := h.base
  rw [size_set] at k
  exact k
theorem put_same {p : Addr} {x : Value} (hc : v.cell? p = some x) (h : Put p x v v') : Below v.heap.size v v' := by
  have k : Below v.heap.size (v.setCell p x) v' := h
  exact ⟨k.os, k.tape, k.output, by have := k.size; rw [size_set] at this; exact this, fun i hi => (k.block i hi).trans (set_self v p x hc i)⟩
theorem Has1.ten {w : World} {b : Nat} {x0 x1 x2 x3 x4 x5 x6 x7 x8 x9 : Value} (h : Has1 w (b, #[x0, x1, x2, x3, x4, x5, x6, x7, x8, x9])) :
    w.cell? ⟨b, 0, none⟩ = some x0 ∧ w.cell? ⟨b, 1, none⟩ = some x1 ∧ w.cell? ⟨b, 2, none⟩ = some x2 ∧ w.cell? ⟨b, 3, none⟩ = some x3 ∧ w.cell? ⟨b, 4, none⟩ = some x4 ∧ w.cell? ⟨b, 5, none⟩ = some x5 ∧ w.cell? ⟨b, 6, none⟩ = some x6 ∧ w.cell? ⟨b, 7, none⟩ = some x7 ∧ w.cell? ⟨b, 8, none⟩ = some x8 ∧ w.cell? ⟨b, 9, none⟩ = some x9 :=
  ⟨h.2.1 0, h.2.1 1, h.2.1 2, h.2.1 3, h.2.1 4, h.2.1 5, h.2.1 6, h.2.1 7, h.2.1 8, h.2.1 9⟩
end
/-- What calls upon a calculator answer that has no error, and gets none. -/
theorem kb_of {f : FuncId} {pb : Nat} {xs : Array Value} {x : Value} {v : World} (hC : Has1 v (pb, #[.int .i64 0]))
    (h : Calls Try.prog f xs v fun r w' => r = .returned x ∧ Put ⟨pb, 0, none⟩ (.int .i64 0) v w') : Calls Try.prog f xs v fun r w' => r = .returned x ∧ Below v.heap.size v w' :=
  h.mono fun _ _ ⟨h1, h2⟩ => ⟨h1, put_same hC.pc h2⟩

end Go.Proofs.Ytdppppaoflhgdaa

namespace Go.Proofs.Ytdppppaoflhgdaa
open Go.RowKit
attribute [local go_sem] run_store_float

/-- == of two floats within intervals. -/
theorem eq_floats (x y : Nat) (w : World) : (Op.equalIn 9999 22 (.float .f64 x) (.float .f64 y)).run Try.prog w = .ok (Op.floatEq .f64 x y) w := by
  have hf := run_underlying Try.underlying22 (w := w)
  show (Op.equalIn (9998 + 1) 22 _ _).run Try.prog w = _
  rw [Op.equalIn]
  simp only [Sem.run_bind, hf, Result.andThen]
  simp [go_sem]

end Go.Proofs.Ytdppppaoflhgdaa
