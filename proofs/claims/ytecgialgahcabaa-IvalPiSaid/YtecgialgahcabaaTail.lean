/- A region that draws its order, whose last operation may write a cell that the others read: what is held of the world need not hold behind the last one. No program is named here. -/
import Derived.Test.YtecgialgahcabaaBase
import Derived.Deep.RegionHeld3
namespace Go.Proofs.Ytecgialgahcabaa
open Go.RowKit

section
variable {P : Program} {ops : Array Oper} {Q : Exit → Act → World → Prop} {md : Region.Mode} {S : World → Prop}

/-- Whatever order is picked from here on; S holds behind each operation but number L. -/
def wpAnyT (P : Program) (md : Region.Mode) (ops : Array Oper) (Q : Exit → Act → World → Prop) (S : World → Prop) (L : Nat) : Nat → Array Bool → Act → World → Prop
  | 0, listed, a, w => Region.ready md ops listed = [] ∧ Q .normal a w
  | n + 1, listed, a, w => (Region.ready md ops listed = [] → Q .normal a w) ∧
      ∀ i, i ∈ Region.ready md ops listed → wpOp P ops Q i (fun b v => (i = L ∨ S v) ∧ wpAnyT P md ops Q S L n (listed.setIfInBounds i true) b v) a w

variable {L : Nat}
theorem tail_any : ∀ (n : Nat) (listed : Array Bool) (a : Act) (w : World), wpAnyT P md ops Q S L n listed a w → wpAny P md ops Q n listed a w
  | 0, _, _, _, h => h
  | n + 1, _, _, _, h => ⟨h.1, fun i hi => wpOp_mono (fun b v k => tail_any n _ b v k.2) (h.2 i hi)⟩

theorem tail_first {i : Nat} {o : Oper} {x : Value} (hi : ops[i]? = some o) (hsel : ∀ (j : Nat) (q : Oper) cs b, ops[j]? = some q → q.op ≠ .select cs b) (hQ : ∀ c a w, Q (.panic c) (a.put o.dst x) w → Q (.panic c) a w)
    (hL : ∀ q, ops[L]? = some q → ∃ e, e ∈ q.after ∧ Region.binds md e = true ∧ e.on = i) (n : Nat) :
    ∀ (listed : Array Bool) (a : Act) (w : World), (∀ j q, ops[j]? = some q → j ≠ i → listed.getD j true = false → (∀ e ∈ q.after, Region.binds md e = true → e.on ≠ i) → o.apart ops q = true) →
      i ∈ Region.ready md ops listed → YieldsIf P ops S o x a → S w → wpAnyT P md ops Q S L n (listed.setIfInBounds i true) (a.put o.dst x) w → wpAnyT P md ops Q S L (n + 1) listed a w := by
  have wait : ∀ {listed : Array Bool} {j : Nat} {q : Oper}, i ∈ Region.ready md ops listed → (∀ e ∈ q.after, Region.binds md e = true → listed.getD e.on false = true) → ∀ e ∈ q.after, Region.binds md e = true → e.on ≠ i := by
    intro listed j q hr hall e he hb heq
    have h1 := hall e he hb
    have h0 := (mem_ready.1 hr).1
    rw [heq] at h1
    rcases Nat.lt_or_ge i listed.size with g | g
    · simp [g] at h0 h1; rw [h0] at h1; cases h1
    · simp [Array.getElem?_eq_none g] at h1
  induction n with
  | zero =>
    intro listed a w _ hr hy hS H
    refine ⟨fun h => absurd hr (by rw [h]; simp), fun j hj => ?_⟩
    rcases Nat.decEq j i with hne | rfl
    · exact absurd (ready_mono hj hne) (by rw [H.1]; simp)
    · exact hy.wpOp hi hS ⟨Or.inr hS, H⟩
  | succ n ih =>
    intro listed a w hfree hr hy hS H
    refine ⟨fun h => absurd hr (by rw [h]; simp), fun j hj => ?_⟩
    rcases Nat.decEq j i with hne | rfl
    · obtain ⟨un, q, hq, hall⟩ := mem_ready.1 hj
      have away := wait (j := j) hr hall
      have step := wpOp_putIf hq (hfree j q hq hne un away) (fun cs b => hsel i o cs b hi) (fun cs b => hsel j q cs b hq) hQ hy (H.2 j (ready_mono hj hne))
      have still : i ∈ Region.ready md ops (listed.setIfInBounds j true) := ready_mono hr (Ne.symm hne)
      refine wpOp_mono (fun b v k => ?_) step
      obtain ⟨yb, ks, kt⟩ := k
      have ks' : S v := by
        rcases ks with ks | ks
        · subst ks
          obtain ⟨e, he, hb, heq⟩ := hL q hq
          exact absurd heq (away e he hb)
        · exact ks
      refine ⟨Or.inr ks', ih _ b v (fun l r hl hli hun hno => hfree l r hl hli ?_ hno) still yb ks' ?_⟩
      · by_cases g : j = l
        · subst g; exact un
        · rw [getD_set_ne true g] at hun; exact hun
      · rw [Array.setIfInBounds_comm _ _ hne]
        exact kt
    · exact hy.wpOp hi hS ⟨Or.inr hS, H⟩

theorem tail_take {i : Nat} {o : Oper} {x : Value} {n : Nat} {listed : Array Bool} {a : Act} {w : World} (hi : ops[i]? = some o) (hs : Region.noSelect ops = true) (hf : Region.free md ops listed i = true) (hr : (Region.ready md ops listed).contains i = true)
    (hl : ((ops[L]?).map fun q => q.after.any fun e => Region.binds md e && e.on == i).getD false = true) (hQ : ∀ c a w, Q (.panic c) (a.put o.dst x) w → Q (.panic c) a w) (hy : YieldsIf P ops S o x a) (hS : S w)
    (h : wpAnyT P md ops Q S L n (listed.setIfInBounds i true) (a.put o.dst x) w) : wpAnyT P md ops Q S L (n + 1) listed a w := by
  refine tail_first hi (Region.noSelect_spec hs) hQ (fun q hq => ?_) n listed a w (Region.free_spec hi hf) (by simpa using hr) hy hS h
  rw [hq] at hl
  simp only [Option.map_some, Option.getD_some, Array.any_eq_true, Bool.and_eq_true, beq_iff_eq] at hl
  obtain ⟨k, hk, h1, h2⟩ := hl
  exact ⟨_, Array.getElem_mem hk, h1, h2⟩

/-- The one that may come up now. -/
theorem tail_one {i : Nat} {o : Oper} {n : Nat} {listed : Array Bool} {a : Act} {w : World} (hi : ops[i]? = some o) (hr : Region.ready md ops listed = [i])
    (h : ∀ K : Act → World → Prop, Shut (∀ b v, (i = L ∨ S v) → ((i = L ∨ S v) → wpAnyT P md ops Q S L n (listed.setIfInBounds i true) b v) → K b v) → if Region.wanted o (yielded ops a.tmps) then o.wp P a w K Q else K (a.put o.dst undef) w) :
    wpAnyT P md ops Q S L (n + 1) listed a w := by
  refine ⟨fun h0 => absurd hr (by rw [h0]; simp), fun j hj => ?_⟩
  rw [hr] at hj
  have : j = i := by simpa using hj
  subst this
  have k := h (fun b v => (j = L ∨ S v) ∧ wpAnyT P md ops Q S L n (listed.setIfInBounds j true) b v) (fun b v h1 h2 => ⟨h1, h2 h1⟩)
  unfold wpOp
  simp only [hi]
  split at k
  · rename_i hw
    rw [if_pos hw]; exact Or.inl k
  · rename_i hw
    rw [if_neg hw]; exact k

theorem tail_done {listed : Array Bool} {a : Act} {w : World} (hr : Region.ready md ops listed = []) (h : Q .normal a w) : ∀ n, wpAnyT P md ops Q S L n listed a w
  | 0 => ⟨hr, h⟩
  | _ + 1 => ⟨fun _ => h, by rw [hr]; simp⟩

theorem tail_region {id : Nat} {a : Act} {w : World} (L : Nat) (hm : P.follows .mixedOrders = true) (hS : S w.drew) (h : S w.drew → wpAnyT P .any ops Q S L ops.size (Array.replicate ops.size false) a w.drew) : (Code.region id ops true).wp P Q a w :=
  wp_region_any hm (tail_any _ _ _ _ (h hS))

end
end Go.Proofs.Ytecgialgahcabaa
