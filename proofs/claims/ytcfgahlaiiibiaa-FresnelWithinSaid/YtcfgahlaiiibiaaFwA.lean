
/- FresnelWithin: the closure, burnishlow.In, regions of rows. -/
import Derived.Test.YtcfgahlaiiibiaaQFA
import Derived.Deep.RegionHeld3
namespace Go.Proofs.Ytcfgahlaiiibiaa
open Go.RowKit
attribute [local go_sem] run_store_float

section
variable {P : Program} {ops : Array Oper} {Q : Exit → Act → World → Prop} {md : Region.Mode} {S : World → Prop} {T : List Nat}
theorem lan_2_2 {a0 : Act} {B v : World} {l : List (Nat × Array Value)} (_ : Hid (Own B l v)) {w0 : World} {L0 : Array Bool} (c1 c2 m1 m2 : Nat) (slots : List Nat) (N : Nat) (J : List (Nat × Array Value) → Act → Nat → List (Option Nat) → Act → World → Prop) (hok : latOk md ops L0 [c1, c2] [m1, m2] = true)
    (hsl : (slots.all fun s => decide (s < a0.tmps.size)) = true) (h0 : ∀ A : Act, (∀ s, s ∈ slots → s < A.tmps.size) → J l A 0 (List.replicate 2 none) A w0)
    (hS : ∀ k p a w, J l a0 k p a w → S w)
    (k1 : ∀ p a w, J l a0 0 p a w → wpOp P ops Q c1 (fun b v => J l a0 1 p b v) a w)
    (k2 : ∀ p a w, J l a0 1 p a w → wpOp P ops Q c2 (fun b v => J l a0 2 p b v) a w)
    (n1 : ∀ k p a w, p[0]? = some none → J l a0 k p a w → wpOp P ops Q m1 (fun b v => ∃ q, J l a0 k (p.set 0 (some q)) b v) a w)
    (n2 : ∀ k p a w, p[1]? = some none → J l a0 k p a w → wpOp P ops Q m2 (fun b v => ∃ q, J l a0 k (p.set 1 (some q)) b v) a w)
    (fin : ∀ q1 q2 a w, J l a0 2 [some q1, some q2] a w → wpAnyV P md ops Q S T N (lstOf L0 [c1, c2] [m1, m2] 2 [true, true]) a w) :
    wpAnyV P md ops Q S T (N + 4) L0 a0 w0 :=
  lat_2_2 c1 c2 m1 m2 slots N (J l) hok hsl h0 hS k1 k2 n1 n2 fin
end

section
variable {P : Program} {ops : Array Oper} {Q : Exit → Act → World → Prop} {md : Region.Mode} {S : World → Prop}
def latAtT (nt : Nat) (md : Region.Mode) (ops : Array Oper) (L0 : Array Bool) (cs ms : List Nat) (k : Nat) (p : List Bool) : Bool :=
  if decide (nt ≤ k) && decide (k < cs.length) then
    (match cs[k]? with
      | some i => Region.noSelect ops && Region.free md ops (lstOf L0 cs ms k p) i && (Region.ready md ops (lstOf L0 cs ms k p)).contains i && closedB md ops (lstOf L0 cs ms k p) && ((lstOf L0 cs ms k p).setIfInBounds i true == lstOf L0 cs ms (k + 1) p)
      | none => false)
  else latAt md ops L0 cs ms k p
def latOkT (nt : Nat) (md : Region.Mode) (ops : Array Oper) (L0 : Array Bool) (cs ms : List Nat) : Bool :=
  (List.range (cs.length + 1)).all fun k => (boolLists ms.length).all fun p => latAtT nt md ops L0 cs ms k p
theorem latT_any {nt : Nat} {L0 : Array Bool} {cs ms : List Nat} {N : Nat} (J : Nat → List (Option Nat) → Act → World → Prop) (hok : latOkT nt md ops L0 cs ms = true)
    (hS : ∀ k p a w, J k p a w → S w)
    (call : ∀ k i p a w, cs[k]? = some i → k < nt → J k p a w → wpOp P ops Q i (fun b v => J (k + 1) p b v) a w)
    (take : ∀ k i p a w, cs[k]? = some i → nt ≤ k → J k p a w → ∃ o x, ops[i]? = some o ∧ YieldsIf P ops S o x a ∧ (∀ c a w, Q (.panic c) (a.put o.dst x) w → Q (.panic c) a w) ∧ J (k + 1) p (a.put o.dst x) w)
    (alloc : ∀ k m i p a w, ms[m]? = some i → p[m]? = some none → J k p a w → wpOp P ops Q i (fun b v => ∃ q, J k (p.set m (some q)) b v) a w)
    (fin : ∀ p a w, p.length = ms.length → (∀ x ∈ p, x.isSome = true) → J cs.length p a w → wpAnyV P md ops Q S [] N (lstOf L0 cs ms cs.length (p.map Option.isSome)) a w) :
    ∀ (f k : Nat) (p : List (Option Nat)) (a : Act) (w : World), p.length = ms.length → k ≤ cs.length → f = (cs.length - k) + p.count none → J k p a w →
      wpAnyV P md ops Q S [] (N + f) (lstOf L0 cs ms k (p.map Option.isSome)) a w
  | 0, k, p, a, w, hp, hk, hf, hJ => by
    obtain rfl : k = cs.length := by omega
    exact fin p a w hp (count_nil p (by omega)) hJ
  | f + 1, k, p, a, w, hp, hk, hf, hJ => by
    have hat : latAtT nt md ops L0 cs ms k (p.map Option.isSome) = true := by
      unfold latOkT at hok
      rw [List.all_eq_true] at hok
      have h1 := hok k (by simp; omega)
      rw [List.all_eq_true] at h1
      refine h1 _ ?_
      have := mem_bools (p.map Option.isSome)
      rw [List.length_map, hp] at this
      exact this
    have hnot : (decide (k = cs.length) && (p.map Option.isSome).all id) = false := by
      rw [Bool.eq_false_iff]
      intro h
      rw [Bool.and_eq_true, decide_eq_true_eq, List.all_eq_true] at h
      have hc : p.count none = 0 := by
        rw [List.count_eq_zero]
        intro hm
        have := h.2 false (by rw [List.mem_map]; exact ⟨none, hm, rfl⟩)
        simp at this
      omega
    unfold latAtT at hat
    by_cases g : nt ≤ k ∧ k < cs.length
    · rw [decide_eq_true g.1, decide_eq_true g.2, Bool.and_true, if_pos rfl] at hat
      cases hck : cs[k]? with
      | none => rw [hck] at hat; cases hat
      | some i =>
        rw [hck] at hat
        simp only [Bool.and_eq_true, beq_iff_eq] at hat
        obtain ⟨⟨⟨⟨h1, h2⟩, h3⟩, h4⟩, hl⟩ := hat
        obtain ⟨o, x, ho, hy, hQ, hJ'⟩ := take k i p a w hck g.1 hJ
        refine tails_take (T := []) ho h1 h2 h3 (by rw [h4]; rfl) hQ hy (hS _ _ _ _ hJ) ?_
        rw [hl]
        exact latT_any J hok hS call take alloc fin f (k + 1) p _ w hp (by omega) (by omega) hJ'
    have g' : (decide (nt ≤ k) && decide (k < cs.length)) = false := by
      rw [Bool.eq_false_iff]; intro e
      rw [Bool.and_eq_true, decide_eq_true_eq, decide_eq_true_eq] at e
      exact g e
    rw [g', if_neg Bool.false_ne_true] at hat
    unfold latAt at hat
    rw [hnot, Bool.false_or, Bool.and_eq_true, List.all_eq_true] at hat
    obtain ⟨hne, hall⟩ := hat
    refine ⟨fun h0 => by rw [h0] at hne; simp at hne, fun i hi => ?_⟩
    have hi' := hall i hi
    rw [Bool.or_eq_true] at hi'
    rcases hi' with h | h
    · cases hck : cs[k]? with
      | none => rw [hck] at h; simp at h
      | some j =>
        rw [hck] at h
        simp only [Bool.and_eq_true, beq_iff_eq] at h
        obtain ⟨rfl, hl⟩ := h
        have hk' : k < cs.length := by
          rcases Nat.lt_or_ge k cs.length with g | g
          · exact g
          · rw [List.getElem?_eq_none g] at hck; cases hck
        refine wpOp_mono (fun b v hb => ⟨Or.inr (hS _ _ _ _ hb), ?_⟩) (call k i p a w hck (by rcases Nat.lt_or_ge k nt with e | e; exact e; exact absurd ⟨e, hk'⟩ g) hJ)
        rw [hl]
        exact latT_any J hok hS call take alloc fin f (k + 1) p b v hp (by omega) (by omega) hb
    · rw [List.any_eq_true] at h
      obtain ⟨m, hm, h⟩ := h
      simp only [Bool.and_eq_true, beq_iff_eq] at h
      obtain ⟨⟨h1, h2⟩, hl⟩ := h
      have h3 : p[m]? = some none := by
        rw [List.getElem?_map] at h2
        cases hpm : p[m]? with
        | none => rw [hpm] at h2; simp at h2
        | some x =>
          rw [hpm] at h2
          cases x
          · rfl
          · simp at h2
      refine wpOp_mono (fun b v hb => ?_) (alloc k m i p a w h1 h3 hJ)
      obtain ⟨q, hb⟩ := hb
      refine ⟨Or.inr (hS _ _ _ _ hb), ?_⟩
      have e : (p.map Option.isSome).set m true = (p.set m (some q)).map Option.isSome := by
        rw [List.map_set]; rfl
      rw [hl, e]
      exact latT_any J hok hS call take alloc fin f k (p.set m (some q)) b v (by rw [List.length_set]; exact hp) hk (by have := count_set p m q h3; omega) hb
theorem latT_from {nt : Nat} {a0 : Act} {w0 : World} {L0 : Array Bool} (cs ms slots : List Nat) (N f : Nat) (J : Act → Nat → List (Option Nat) → Act → World → Prop) (hok : latOkT nt md ops L0 cs ms = true) (hf : f = cs.length + ms.length)
    (hsl : (slots.all fun s => decide (s < a0.tmps.size)) = true) (h0 : ∀ A : Act, (∀ s, s ∈ slots → s < A.tmps.size) → J A 0 (List.replicate ms.length none) A w0)
    (hS : ∀ k p a w, J a0 k p a w → S w)
    (call : ∀ k i p a w, cs[k]? = some i → k < nt → J a0 k p a w → wpOp P ops Q i (fun b v => J a0 (k + 1) p b v) a w)
    (take : ∀ k i p a w, cs[k]? = some i → nt ≤ k → J a0 k p a w → ∃ o x, ops[i]? = some o ∧ YieldsIf P ops S o x a ∧ (∀ c a w, Q (.panic c) (a.put o.dst x) w → Q (.panic c) a w) ∧ J a0 (k + 1) p (a.put o.dst x) w)
    (alloc : ∀ k m i p a w, ms[m]? = some i → p[m]? = some none → J a0 k p a w → wpOp P ops Q i (fun b v => ∃ q, J a0 k (p.set m (some q)) b v) a w)
    (fin : ∀ p a w, p.length = ms.length → (∀ x ∈ p, x.isSome = true) → J a0 cs.length p a w → wpAnyV P md ops Q S [] N (lstOf L0 cs ms cs.length (p.map Option.isSome)) a w) :
    wpAnyV P md ops Q S [] (N + f) L0 a0 w0 := by
  have h := latT_any (J a0) hok hS call take alloc fin f 0 (List.replicate ms.length none) a0 w0 (by simp) (Nat.zero_le _) (by rw [hf]; simp) (h0 a0 (fun s hs => by rw [List.all_eq_true] at hsl; exact of_decide_eq_true (hsl s hs)))
  have e : lstOf L0 cs ms 0 ((List.replicate ms.length none).map (Option.isSome (α := Nat))) = L0 := by
    unfold lstOf
    rw [List.take_zero, List.foldl_nil]
    have : ∀ (ms : List Nat) (L : Array Bool), (ms.zip ((List.replicate ms.length none).map (Option.isSome (α := Nat)))).foldl (fun l x => if x.2 then l.setIfInBounds x.1 true else l) L = L := by
      intro ms
      induction ms with
      | nil => intro L; rfl
      | cons m ms ih => intro L; simpa [List.replicate_succ] using ih L
    exact this ms L0
  rw [e] at h
  exact h
theorem lanT_3 {a0 : Act} {B v : World} {l : List (Nat × Array Value)} (_ : Hid (Own B l v)) {w0 : World} {L0 : Array Bool} (c1 c2 c3 c4 c5 c6 m1 : Nat) (slots : List Nat) (N : Nat) (J : List (Nat × Array Value) → Act → Nat → List (Option Nat) → Act → World → Prop) (hok : latOkT 3 md ops L0 [c1, c2, c3, c4, c5, c6] [m1] = true)
    (hsl : (slots.all fun s => decide (s < a0.tmps.size)) = true) (h0 : ∀ A : Act, (∀ s, s ∈ slots → s < A.tmps.size) → J l A 0 (List.replicate 1 none) A w0)
    (hS : ∀ k p a w, J l a0 k p a w → S w)
    (k1 : ∀ p a w, J l a0 0 p a w → wpOp P ops Q c1 (fun b v => J l a0 1 p b v) a w)
    (k2 : ∀ p a w, J l a0 1 p a w → wpOp P ops Q c2 (fun b v => J l a0 2 p b v) a w)
    (k3 : ∀ p a w, J l a0 2 p a w → wpOp P ops Q c3 (fun b v => J l a0 3 p b v) a w)
    (t4 : ∀ p a w, J l a0 3 p a w → ∃ o x, ops[c4]? = some o ∧ YieldsIf P ops S o x a ∧ (∀ c a w, Q (.panic c) (a.put o.dst x) w → Q (.panic c) a w) ∧ J l a0 4 p (a.put o.dst x) w)
    (t5 : ∀ p a w, J l a0 4 p a w → ∃ o x, ops[c5]? = some o ∧ YieldsIf P ops S o x a ∧ (∀ c a w, Q (.panic c) (a.put o.dst x) w → Q (.panic c) a w) ∧ J l a0 5 p (a.put o.dst x) w)
    (t6 : ∀ p a w, J l a0 5 p a w → ∃ o x, ops[c6]? = some o ∧ YieldsIf P ops S o x a ∧ (∀ c a w, Q (.panic c) (a.put o.dst x) w → Q (.panic c) a w) ∧ J l a0 6 p (a.put o.dst x) w)
    (n1 : ∀ k p a w, p[0]? = some none → J l a0 k p a w → wpOp P ops Q m1 (fun b v => ∃ q, J l a0 k (p.set 0 (some q)) b v) a w)
    (fin : ∀ q1 a w, J l a0 6 [some q1] a w → wpAnyV P md ops Q S [] N (lstOf L0 [c1, c2, c3, c4, c5, c6] [m1] 6 [true]) a w) :
    wpAnyV P md ops Q S [] (N + 7) L0 a0 w0 := by
  refine latT_from (nt := 3) [c1, c2, c3, c4, c5, c6] [m1] slots N 7 (J l) hok rfl hsl h0 hS (fun k i p a w hk hn hJ => ?_) (fun k i p a w hk hn hJ => ?_) (fun k m i p a w hm hp hJ => ?_) (fun p a w hp hall hJ => ?_)
  · rcases k with _ | _ | _ | k
    · obtain rfl : c1 = i := by simpa using hk
      exact k1 p a w hJ
    · obtain rfl : c2 = i := by simpa using hk
      exact k2 p a w hJ
    · obtain rfl : c3 = i := by simpa using hk
      exact k3 p a w hJ
    · omega
  · rcases k with _ | _ | _ | _ | _ | _ | k
    · exact absurd hn (by decide)
    · exact absurd hn (by decide)
    · exact absurd hn (by decide)
    · obtain rfl : c4 = i := by simpa using hk
      exact t4 p a w hJ
    · obtain rfl : c5 = i := by simpa using hk
      exact t5 p a w hJ
    · obtain rfl : c6 = i := by simpa using hk
      exact t6 p a w hJ
    · simp at hk
  · rcases m with _ | m
    · obtain rfl : m1 = i := by simpa using hm
      exact n1 k p a w hp hJ
    · simp at hm
  · obtain ⟨q1, rfl⟩ := fin_one hp hall
    exact fin q1 a w hJ
theorem lanT_4 {a0 : Act} {B v : World} {l : List (Nat × Array Value)} (_ : Hid (Own B l v)) {w0 : World} {L0 : Array Bool} (c1 c2 c3 c4 c5 c6 c7 m1 : Nat) (slots : List Nat) (N : Nat) (J : List (Nat × Array Value) → Act → Nat → List (Option Nat) → Act → World → Prop) (hok : latOkT 4 md ops L0 [c1, c2, c3, c4, c5, c6, c7] [m1] = true)
    (hsl : (slots.all fun s => decide (s < a0.tmps.size)) = true) (h0 : ∀ A : Act, (∀ s, s ∈ slots → s < A.tmps.size) → J l A 0 (List.replicate 1 none) A w0)
    (hS : ∀ k p a w, J l a0 k p a w → S w)
    (k1 : ∀ p a w, J l a0 0 p a w → wpOp P ops Q c1 (fun b v => J l a0 1 p b v) a w)
    (k2 : ∀ p a w, J l a0 1 p a w → wpOp P ops Q c2 (fun b v => J l a0 2 p b v) a w)
    (k3 : ∀ p a w, J l a0 2 p a w → wpOp P ops Q c3 (fun b v => J l a0 3 p b v) a w)
    (k4 : ∀ p a w, J l a0 3 p a w → wpOp P ops Q c4 (fun b v => J l a0 4 p b v) a w)
    (t5 : ∀ p a w, J l a0 4 p a w → ∃ o x, ops[c5]? = some o ∧ YieldsIf P ops S o x a ∧ (∀ c a w, Q (.panic c) (a.put o.dst x) w → Q (.panic c) a w) ∧ J l a0 5 p (a.put o.dst x) w)
    (t6 : ∀ p a w, J l a0 5 p a w → ∃ o x, ops[c6]? = some o ∧ YieldsIf P ops S o x a ∧ (∀ c a w, Q (.panic c) (a.put o.dst x) w → Q (.panic c) a w) ∧ J l a0 6 p (a.put o.dst x) w)
    (t7 : ∀ p a w, J l a0 6 p a w → ∃ o x, ops[c7]? = some o ∧ YieldsIf P ops S o x a ∧ (∀ c a w, Q (.panic c) (a.put o.dst x) w → Q (.panic c) a w) ∧ J l a0 7 p (a.put o.dst x) w)
    (n1 : ∀ k p a w, p[0]? = some none → J l a0 k p a w → wpOp P ops Q m1 (fun b v => ∃ q, J l a0 k (p.set 0 (some q)) b v) a w)
    (fin : ∀ q1 a w, J l a0 7 [some q1] a w → wpAnyV P md ops Q S [] N (lstOf L0 [c1, c2, c3, c4, c5, c6, c7] [m1] 7 [true]) a w) :
    wpAnyV P md ops Q S [] (N + 8) L0 a0 w0 := by
  refine latT_from (nt := 4) [c1, c2, c3, c4, c5, c6, c7] [m1] slots N 8 (J l) hok rfl hsl h0 hS (fun k i p a w hk hn hJ => ?_) (fun k i p a w hk hn hJ => ?_) (fun k m i p a w hm hp hJ => ?_) (fun p a w hp hall hJ => ?_)
  · rcases k with _ | _ | _ | _ | k
    · obtain rfl : c1 = i := by simpa using hk
      exact k1 p a w hJ
    · obtain rfl : c2 = i := by simpa using hk
      exact k2 p a w hJ
    · obtain rfl : c3 = i := by simpa using hk
      exact k3 p a w hJ
    · obtain rfl : c4 = i := by simpa using hk
      exact k4 p a w hJ
    · omega
  · rcases k with _ | _ | _ | _ | _ | _ | _ | k
    · exact absurd hn (by decide)
    · exact absurd hn (by decide)
    · exact absurd hn (by decide)
    · exact absurd hn (by decide)
    · obtain rfl : c5 = i := by simpa using hk
      exact t5 p a w hJ
    · obtain rfl : c6 = i := by simpa using hk
      exact t6 p a w hJ
    · obtain rfl : c7 = i := by simpa using hk
      exact t7 p a w hJ
    · simp at hk
  · rcases m with _ | m
    · obtain rfl : m1 = i := by simpa using hm
      exact n1 k p a w hp hJ
    · simp at hm
  · obtain ⟨q1, rfl⟩ := fin_one hp hall
    exact fin q1 a w hJ
end

set_option maxRecDepth 100000 in
set_option maxHeartbeats 4000000 in
theorem in0_walk (q al ah v0 v1 v2 v3 v4 v5 v6 v7 rl rh : Nat) (w : World) (hA : Has1 w (q, #[.int .u32 v0, .int .u32 v1, .int .u32 v2, .int .u32 v3, .int .u32 v4, .int .u32 v5, .int .u32 v6, .int .u32 v7])) (s : Hid (∀ w, Calls Try.prog 5 #[.float .f64 al, .float .f64 ah, .int .u32 v0, .int .u32 v1] w fun r w' => r = .returned (.agg #[.float .f64 rl, .float .f64 rh]) ∧ Below w.heap.size w w')) :
    Calls Try.prog 4 #[.agg #[.float .f64 al, .float .f64 ah], .int .i64 0, .pointer (some ⟨q, 0, none⟩)] w fun r w' => r = .returned (.agg #[.float .f64 rl, .float .f64 rh]) ∧ Below w.heap.size w w' := by
  have M := Lib.hid (((Own.nil w).made #[.float .f64 al, .float .f64 ah] 26).made #[.float .f64 0, .float .f64 0] 26)
  simp only [World.size_alloc] at M
  have hq : q < w.heap.size := hA.1
  have hw1 : IntKind.i64.wrap (0 + 1) = 1 := by decide
  have hw2 : IntKind.i64.wrap 1 = 1 := by decide
  go_enter Try.func4, Try.ntmps4
  go_upto_region 1 with fail
  replace M := Lib.hid M.out.drew
  revert M
  generalize ((w.alloc (.cells #[.float .f64 al, .float .f64 ah] 26)).alloc (.cells #[.float .f64 0, .float .f64 0] 26)) = W0
  intro M
  obtain ⟨m0, m1, m2, m3, m4, m5, m6, m7⟩ := (hA.below M.out.base).eight
  obtain ⟨k1, k2⟩ := (M.out.nth 1 rfl).two
  have kc := (M.out.nth 0 rfl).2.1
  have kf := (M.out.nth 0 rfl).2.2
  go_region_held3 (fun w' => w'.cell? ⟨w.heap.size, 0, none⟩ = some (.float .f64 al) ∧ w'.cell? ⟨w.heap.size, 1, none⟩ = some (.float .f64 ah) ∧ w'.cell? ⟨q, 0, none⟩ = some (.int .u32 v0) ∧ w'.cell? ⟨q, 1, none⟩ = some (.int .u32 v1)) (((try dsimp only); (repeat' apply And.intro); all_goals (repeat (first | (with_reducible assumption) | ((with_reducible refine keep_undrew ?_); (with_reducible assumption)) | (with_reducible refine keep_drew ?_) | (with_reducible refine keep_alloc _ ?_) | (with_reducible refine keep_set _ (by first | (with_reducible assumption) | omega) ?_)))))
    (first | (go_at_call 5; (with_reducible refine (s.out _).mono ?_); rintro rr w5 ⟨rfl, hb⟩; replace M := Lib.hid (M.out.below hb); clear hb m0 m1 m2 m3 m4 m5 m6 m7 k1 k2 kc kf; obtain ⟨m0, m1, m2, m3, m4, m5, m6, m7⟩ := (hA.below M.out.base).eight; obtain ⟨k1, k2⟩ := (M.out.nth 1 rfl).two; have kc := (M.out.nth 0 rfl).2.1; have kf := (M.out.nth 0 rfl).2.2))
  replace M := Lib.hid (M.out.set2 0 rfl (.float .f64 rl) (.float .f64 rh))
  clear m0 m1 m2 m3 m4 m5 m6 m7 k1 k2 kc kf
  go_wp2
  obtain ⟨f1, f2⟩ := (M.out.nth 0 rfl).two
  exact bodyPost_ret (v := .agg #[.float .f64 rl, .float .f64 rh]) (by simp [results, Try.results4, go_sem, f1, f2]) rfl ⟨rfl, M.out.base⟩

set_option maxRecDepth 100000 in
set_option maxHeartbeats 4000000 in
theorem in2_walk (q al ah v0 v1 v2 v3 v4 v5 v6 v7 rl rh : Nat) (w : World) (hA : Has1 w (q, #[.int .u32 v0, .int .u32 v1, .int .u32 v2, .int .u32 v3, .int .u32 v4, .int .u32 v5, .int .u32 v6, .int .u32 v7])) (s : Hid (∀ w, Calls Try.prog 5 #[.float .f64 al, .float .f64 ah, .int .u32 v2, .int .u32 v3] w fun r w' => r = .returned (.agg #[.float .f64 rl, .float .f64 rh]) ∧ Below w.heap.size w w')) :
    Calls Try.prog 4 #[.agg #[.float .f64 al, .float .f64 ah], .int .i64 2, .pointer (some ⟨q, 0, none⟩)] w fun r w' => r = .returned (.agg #[.float .f64 rl, .float .f64 rh]) ∧ Below w.heap.size w w' := by
  have M := Lib.hid (((Own.nil w).made #[.float .f64 al, .float .f64 ah] 26).made #[.float .f64 0, .float .f64 0] 26)
  simp only [World.size_alloc] at M
  have hq : q < w.heap.size := hA.1
  have hw1 : IntKind.i64.wrap (2 + 1) = 3 := by decide
  have hw2 : IntKind.i64.wrap 3 = 3 := by decide
  go_enter Try.func4, Try.ntmps4
  go_upto_region 1 with fail
  replace M := Lib.hid M.out.drew
  revert M
  generalize ((w.alloc (.cells #[.float .f64 al, .float .f64 ah] 26)).alloc (.cells #[.float .f64 0, .float .f64 0] 26)) = W0
  intro M
  obtain ⟨m0, m1, m2, m3, m4, m5, m6, m7⟩ := (hA.below M.out.base).eight
  obtain ⟨k1, k2⟩ := (M.out.nth 1 rfl).two
  have kc := (M.out.nth 0 rfl).2.1
  have kf := (M.out.nth 0 rfl).2.2
  go_region_held3 (fun w' => w'.cell? ⟨w.heap.size, 0, none⟩ = some (.float .f64 al) ∧ w'.cell? ⟨w.heap.size, 1, none⟩ = some (.float .f64 ah) ∧ w'.cell? ⟨q, 2, none⟩ = some (.int .u32 v2) ∧ w'.cell? ⟨q, 3, none⟩ = some (.int .u32 v3)) (((try dsimp only); (repeat' apply And.intro); all_goals (repeat (first | (with_reducible assumption) | ((with_reducible refine keep_undrew ?_); (with_reducible assumption)) | (with_reducible refine keep_drew ?_) | (with_reducible refine keep_alloc _ ?_) | (with_reducible refine keep_set _ (by first | (with_reducible assumption) | omega) ?_)))))
    (first | (go_at_call 5; (with_reducible refine (s.out _).mono ?_); rintro rr w5 ⟨rfl, hb⟩; replace M := Lib.hid (M.out.below hb); clear hb m0 m1 m2 m3 m4 m5 m6 m7 k1 k2 kc kf; obtain ⟨m0, m1, m2, m3, m4, m5, m6, m7⟩ := (hA.below M.out.base).eight; obtain ⟨k1, k2⟩ := (M.out.nth 1 rfl).two; have kc := (M.out.nth 0 rfl).2.1; have kf := (M.out.nth 0 rfl).2.2))
  replace M := Lib.hid (M.out.set2 0 rfl (.float .f64 rl) (.float .f64 rh))
  clear m0 m1 m2 m3 m4 m5 m6 m7 k1 k2 kc kf
  go_wp2
  obtain ⟨f1, f2⟩ := (M.out.nth 0 rfl).two
  exact bodyPost_ret (v := .agg #[.float .f64 rl, .float .f64 rh]) (by simp [results, Try.results4, go_sem, f1, f2]) rfl ⟨rfl, M.out.base⟩

set_option maxRecDepth 100000 in
set_option maxHeartbeats 4000000 in
theorem in4_walk (q al ah v0 v1 v2 v3 v4 v5 v6 v7 rl rh : Nat) (w : World) (hA : Has1 w (q, #[.int .u32 v0, .int .u32 v1, .int .u32 v2, .int .u32 v3, .int .u32 v4, .int .u32 v5, .int .u32 v6, .int .u32 v7])) (s : Hid (∀ w, Calls Try.prog 5 #[.float .f64 al, .float .f64 ah, .int .u32 v4, .int .u32 v5] w fun r w' => r = .returned (.agg #[.float .f64 rl, .float .f64 rh]) ∧ Below w.heap.size w w')) :
    Calls Try.prog 4 #[.agg #[.float .f64 al, .float .f64 ah], .int .i64 4, .pointer (some ⟨q, 0, none⟩)] w fun r w' => r = .returned (.agg #[.float .f64 rl, .float .f64 rh]) ∧ Below w.heap.size w w' := by
  have M := Lib.hid (((Own.nil w).made #[.float .f64 al, .float .f64 ah] 26).made #[.float .f64 0, .float .f64 0] 26)
  simp only [World.size_alloc] at M
  have hq : q < w.heap.size := hA.1
  have hw1 : IntKind.i64.wrap (4 + 1) = 5 := by decide
  have hw2 : IntKind.i64.wrap 5 = 5 := by decide
  go_enter Try.func4, Try.ntmps4
  go_upto_region 1 with fail
  replace M := Lib.hid M.out.drew
  revert M
  generalize ((w.alloc (.cells #[.float .f64 al, .float .f64 ah] 26)).alloc (.cells #[.float .f64 0, .float .f64 0] 26)) = W0
  intro M
  obtain ⟨m0, m1, m2, m3, m4, m5, m6, m7⟩ := (hA.below M.out.base).eight
  obtain ⟨k1, k2⟩ := (M.out.nth 1 rfl).two
  have kc := (M.out.nth 0 rfl).2.1
  have kf := (M.out.nth 0 rfl).2.2
  go_region_held3 (fun w' => w'.cell? ⟨w.heap.size, 0, none⟩ = some (.float .f64 al) ∧ w'.cell? ⟨w.heap.size, 1, none⟩ = some (.float .f64 ah) ∧ w'.cell? ⟨q, 4, none⟩ = some (.int .u32 v4) ∧ w'.cell? ⟨q, 5, none⟩ = some (.int .u32 v5)) (((try dsimp only); (repeat' apply And.intro); all_goals (repeat (first | (with_reducible assumption) | ((with_reducible refine keep_undrew ?_); (with_reducible assumption)) | (with_reducible refine keep_drew ?_) | (with_reducible refine keep_alloc _ ?_) | (with_reducible refine keep_set _ (by first | (with_reducible assumption) | omega) ?_)))))
    (first | (go_at_call 5; (with_reducible refine (s.out _).mono ?_); rintro rr w5 ⟨rfl, hb⟩; replace M := Lib.hid (M.out.below hb); clear hb m0 m1 m2 m3 m4 m5 m6 m7 k1 k2 kc kf; obtain ⟨m0, m1, m2, m3, m4, m5, m6, m7⟩ := (hA.below M.out.base).eight; obtain ⟨k1, k2⟩ := (M.out.nth 1 rfl).two; have kc := (M.out.nth 0 rfl).2.1; have kf := (M.out.nth 0 rfl).2.2))
  replace M := Lib.hid (M.out.set2 0 rfl (.float .f64 rl) (.float .f64 rh))
  clear m0 m1 m2 m3 m4 m5 m6 m7 k1 k2 kc kf
  go_wp2
  obtain ⟨f1, f2⟩ := (M.out.nth 0 rfl).two
  exact bodyPost_ret (v := .agg #[.float .f64 rl, .float .f64 rh]) (by simp [results, Try.results4, go_sem, f1, f2]) rfl ⟨rfl, M.out.base⟩

set_option maxRecDepth 100000 in
set_option maxHeartbeats 4000000 in
theorem in6_walk (q al ah v0 v1 v2 v3 v4 v5 v6 v7 rl rh : Nat) (w : World) (hA : Has1 w (q, #[.int .u32 v0, .int .u32 v1, .int .u32 v2, .int .u32 v3, .int .u32 v4, .int .u32 v5, .int .u32 v6, .int .u32 v7])) (s : Hid (∀ w, Calls Try.prog 5 #[.float .f64 al, .float .f64 ah, .int .u32 v6, .int .u32 v7] w fun r w' => r = .returned (.agg #[.float .f64 rl, .float .f64 rh]) ∧ Below w.heap.size w w')) :
    Calls Try.prog 4 #[.agg #[.float .f64 al, .float .f64 ah], .int .i64 6, .pointer (some ⟨q, 0, none⟩)] w fun r w' => r = .returned (.agg #[.float .f64 rl, .float .f64 rh]) ∧ Below w.heap.size w w' := by
  have M := Lib.hid (((Own.nil w).made #[.float .f64 al, .float .f64 ah] 26).made #[.float .f64 0, .float .f64 0] 26)
  simp only [World.size_alloc] at M
  have hq : q < w.heap.size := hA.1
  have hw1 : IntKind.i64.wrap (6 + 1) = 7 := by decide
  have hw2 : IntKind.i64.wrap 7 = 7 := by decide
  go_enter Try.func4, Try.ntmps4
  go_upto_region 1 with fail
  replace M := Lib.hid M.out.drew
  revert M
  generalize ((w.alloc (.cells #[.float .f64 al, .float .f64 ah] 26)).alloc (.cells #[.float .f64 0, .float .f64 0] 26)) = W0
  intro M
  obtain ⟨m0, m1, m2, m3, m4, m5, m6, m7⟩ := (hA.below M.out.base).eight
  obtain ⟨k1, k2⟩ := (M.out.nth 1 rfl).two
  have kc := (M.out.nth 0 rfl).2.1
  have kf := (M.out.nth 0 rfl).2.2
  go_region_held3 (fun w' => w'.cell? ⟨w.heap.size, 0, none⟩ = some (.float .f64 al) ∧ w'.cell? ⟨w.heap.size, 1, none⟩ = some (.float .f64 ah) ∧ w'.cell? ⟨q, 6, none⟩ = some (.int .u32 v6) ∧ w'.cell? ⟨q, 7, none⟩ = some (.int .u32 v7)) (((try dsimp only); (repeat' apply And.intro); all_goals (repeat (first | (with_reducible assumption) | ((with_reducible refine keep_undrew ?_); (with_reducible assumption)) | (with_reducible refine keep_drew ?_) | (with_reducible refine keep_alloc _ ?_) | (with_reducible refine keep_set _ (by first | (with_reducible assumption) | omega) ?_)))))
    (first | (go_at_call 5; (with_reducible refine (s.out _).mono ?_); rintro rr w5 ⟨rfl, hb⟩; replace M := Lib.hid (M.out.below hb); clear hb m0 m1 m2 m3 m4 m5 m6 m7 k1 k2 kc kf; obtain ⟨m0, m1, m2, m3, m4, m5, m6, m7⟩ := (hA.below M.out.base).eight; obtain ⟨k1, k2⟩ := (M.out.nth 1 rfl).two; have kc := (M.out.nth 0 rfl).2.1; have kf := (M.out.nth 0 rfl).2.2))
  replace M := Lib.hid (M.out.set2 0 rfl (.float .f64 rl) (.float .f64 rh))
  clear m0 m1 m2 m3 m4 m5 m6 m7 k1 k2 kc kf
  go_wp2
  obtain ⟨f1, f2⟩ := (M.out.nth 0 rfl).two
  exact bodyPost_ret (v := .agg #[.float .f64 rl, .float .f64 rh]) (by simp [results, Try.results4, go_sem, f1, f2]) rfl ⟨rfl, M.out.base⟩

set_option maxRecDepth 100000 in
theorem lowIn_any (al ah bl bh : Nat) (w : World) (o1 : ((FloatKind.f64.format.order bl al == some Ordering.lt) || (FloatKind.f64.format.order bl al == some Ordering.eq)) = true) (o2 : ((FloatKind.f64.format.order ah bh == some Ordering.lt) || (FloatKind.f64.format.order ah bh == some Ordering.eq)) = true) :
    Calls Try.prog 7 #[.agg #[.float .f64 al, .float .f64 ah], .agg #[.float .f64 bl, .float .f64 bh]] w fun r w' => r = .returned (.bool true) ∧ Below w.heap.size w w' := by
  have M := Lib.hid (((Own.nil w).made #[.float .f64 al, .float .f64 ah] 26).made #[.float .f64 bl, .float .f64 bh] 26)
  simp only [World.size_alloc] at M
  obtain ⟨k1, k2⟩ := (M.out.nth 1 rfl).two
  obtain ⟨k3, k4⟩ := (M.out.nth 0 rfl).two
  go_enter Try.func7, Try.ntmps7
  go_wp2
  go_ret
  exact ⟨by rw [← o2]; rfl, M.out.base⟩

end Go.Proofs.Ytcfgahlaiiibiaa
