
/- The law DirSides: what its parts are about. -/
import Derived.Test.YtmcecchcbfhfcaaSidesA
import Derived.Test.YtmcecchcbfhfcaaAwakeB
import Derived.Test.YtmcecchcbfhfcaaMem
import Derived.Test.YtmcecchcbfhfcaaSame
import Derived.Test.YtmcecchcbfhfcaaIvC
import Derived.LoopTactic
import Derived.Deep.RegionHeld3
import Derived.Deep.CutRange
namespace Go.Proofs.Ytmcecchcbfhfcaa
open Go.RowKit
attribute [local go_sem] run_store_float

/-- What the nearest numbers are good for: the two sides of each operation. -/
def NearOk (a b r0 r1 r2 r3 r4 : Nat) : Prop :=
  Sides (addW a b false) (addE a b false) (addW a b true) (addE a b true) r0 ∧ Sides (subW a b false) (subE a b false) (subW a b true) (subE a b true) r1 ∧ Sides (mulW a b false) (mulE a b false) (mulW a b true) (mulE a b true) r2 ∧
  (Sides (divW a b false) (divE a b false) (divW a b true) (divE a b true) r3 ∨ b = 0) ∧ (Sides (sqrtW a false) (sqrtE a false) (sqrtW a true) (sqrtE a true) r4 ∨ sgnB a = true)

/-- Behind the row of nearest numbers. -/
def NearCut (w : World) (a b : Nat) (v : Value) (wx : World) : Prop :=
  ∃ q r0 r1 r2 r3 r4, v = .slice (some ⟨q, 0, none⟩) 5 5 ∧ w.heap.size + 1 < q ∧ NearOk a b r0 r1 r2 r3 r4 ∧ Mem w [(w.heap.size, #[.float .f64 a]), (w.heap.size + 1, #[.float .f64 b]), (q, #[.float .f64 r0, .float .f64 r1, .float .f64 r2, .float .f64 r3, .float .f64 r4])] wx

theorem Mem.like {B v v' : World} {l : List (Nat × Array Value)} (h : Mem B l v) (h1 : v'.heap = v.heap) (h2 : v'.os = v.os) (h3 : v'.tape = v.tape) (h4 : v'.output = v.output) : Mem B l v' := by
  refine ⟨⟨h2.trans h.base.os, h3.trans h.base.tape, h4.trans h.base.output, by rw [h1]; exact h.base.size, fun k hk => by rw [h1]; exact h.base.block k hk⟩, fun p hp => ?_⟩
  obtain ⟨a1, a2, a3⟩ := h.blocks p hp
  refine ⟨by rw [h1]; exact a1, fun i => (World.cell?_of_block (w := v) (by rw [h1])).trans (a2 i), fun i => (World.frozen?_of_block (w := v) (by rw [h1])).trans (a3 i)⟩
/-- Behind the row of nearest numbers, whatever was drawn on the way. -/
theorem near_meet {w v v' : World} {a b r0 r1 r2 r3 r4 : Nat} (h : Mem w [(w.heap.size, #[.float .f64 a]), (w.heap.size + 1, #[.float .f64 b])] v) (hn : NearOk a b r0 r1 r2 r3 r4)
    (h1 : v'.heap = (v.alloc (.cells #[.float .f64 r0, .float .f64 r1, .float .f64 r2, .float .f64 r3, .float .f64 r4] 22)).heap := by rfl) (h2 : v'.os = v.os := by rfl) (h3 : v'.tape = v.tape := by rfl) (h4 : v'.output = v.output := by rfl) :
    NearCut w a b (.slice (some ⟨v.heap.size, 0, none⟩) 5 5) v' :=
  ⟨_, r0, r1, r2, r3, r4, rfl, h.size 1 rfl, hn, ((h.made _ _).sub (by simp)).like h1 h2 h3 h4⟩

/-- The operation number k: its word, its error, its function, its nearest number. -/
def XW (a b : Nat) (up : Bool) : Nat → Nat | 0 => addW a b up | 1 => subW a b up | 2 => mulW a b up | 3 => divW a b up | _ => sqrtW a up
def XE (a b : Nat) (up : Bool) : Nat → Int | 0 => addE a b up | 1 => subE a b up | 2 => mulE a b up | 3 => divE a b up | _ => sqrtE a up
def FV (n : Nat) : Nat → Value | 0 => .func (.func 29) #[] #[Value.pointer (some ⟨n, 0, none⟩), Value.pointer (some ⟨n + 1, 0, none⟩)] | 1 => .func (.func 30) #[] #[Value.pointer (some ⟨n, 0, none⟩), Value.pointer (some ⟨n + 1, 0, none⟩)] | 2 => .func (.func 31) #[] #[Value.pointer (some ⟨n, 0, none⟩), Value.pointer (some ⟨n + 1, 0, none⟩)] | 3 => .func (.func 32) #[] #[Value.pointer (some ⟨n, 0, none⟩), Value.pointer (some ⟨n + 1, 0, none⟩)] | _ => .func (.func 33) #[] #[Value.pointer (some ⟨n, 0, none⟩)]
def RN (r0 r1 r2 r3 r4 : Nat) : Nat → Nat | 0 => r0 | 1 => r1 | 2 => r2 | 3 => r3 | _ => r4
/-- What is known of a round's operation. -/
def Out (a b k x : Nat) (e : Int) (y : Nat) (f : Int) (r : Nat) : Prop := Sides x e y f r ∨ (k = 3 ∧ b = 0 ∧ e = 11 ∧ f = 11) ∨ (k = 4 ∧ sgnB a = true ∧ e = 12 ∧ f = 12)
theorem out_all (a b r0 r1 r2 r3 r4 k : Nat) (ra : rightB a = true) (rb : rightB b = true) (hk : k < 5) (h : NearOk a b r0 r1 r2 r3 r4) : Out a b k (XW a b false k) (XE a b false k) (XW a b true k) (XE a b true k) (RN r0 r1 r2 r3 r4 k) := by
  obtain ⟨h0, h1, h2, h3, h4⟩ := h
  match k, hk with
  | 0, _ => exact Or.inl h0
  | 1, _ => exact Or.inl h1
  | 2, _ => exact Or.inl h2
  | 3, _ =>
    rcases h3 with h | h
    · exact Or.inl h
    · refine Or.inr (Or.inl ⟨rfl, h, ?_, ?_⟩)
      · show divE a b false = 11
        unfold divE; rw [if_pos (by rw [ra, rb]; rfl), if_pos h]
      · show divE a b true = 11
        unfold divE; rw [if_pos (by rw [ra, rb]; rfl), if_pos h]
  | 4, _ =>
    rcases h4 with h | h
    · exact Or.inl h
    · refine Or.inr (Or.inr ⟨rfl, h, ?_, ?_⟩)
      · show sqrtE a false = 12
        unfold sqrtE; rw [if_pos ra, if_pos h]
      · show sqrtE a true = 12
        unfold sqrtE; rw [if_pos ra, if_pos h]
theorem cells_near (r0 r1 r2 r3 r4 k : Nat) (hk : k < 5) : (#[Value.float .f64 r0, .float .f64 r1, .float .f64 r2, .float .f64 r3, .float .f64 r4] : Array Value)[k]? = some (.float .f64 (RN r0 r1 r2 r3 r4 k)) := by
  match k, hk with
  | 0, _ => rfl
  | 1, _ => rfl
  | 2, _ => rfl
  | 3, _ => rfl
  | 4, _ => rfl
theorem cells_func (n k : Nat) (hk : k < 5) : (#[FV n 0, FV n 1, FV n 2, FV n 3, FV n 4] : Array Value)[k]? = some (FV n k) := by
  match k, hk with
  | 0, _ => rfl
  | 1, _ => rfl
  | 2, _ => rfl
  | 3, _ => rfl
  | 4, _ => rfl
/-- The four blocks. -/
def SidesMem (w : World) (a b q s r0 r1 r2 r3 r4 : Nat) (wr : World) : Prop :=
  Mem w [(w.heap.size, #[.float .f64 a]), (w.heap.size + 1, #[.float .f64 b]), (q, #[.float .f64 r0, .float .f64 r1, .float .f64 r2, .float .f64 r3, .float .f64 r4]), (s, #[FV w.heap.size 0, FV w.heap.size 1, FV w.heap.size 2, FV w.heap.size 3, FV w.heap.size 4])] wr
/-- At the head of a round. -/
def SidesRel (w : World) (a b q s r0 r1 r2 r3 r4 : Nat) (i : Value) (wr : World) : Prop :=
  (i = .int .i64 0 ∨ i = .int .i64 1 ∨ i = .int .i64 2 ∨ i = .int .i64 3 ∨ i = .int .i64 4 ∨ i = .int .i64 5) ∧ SidesMem w a b q s r0 r1 r2 r3 r4 wr

theorem Has1.one {v : World} {b : Nat} {x : Value} (h : Has1 v (b, #[x])) : v.cell? ⟨b, 0, none⟩ = some x := h.2.1 0

/-- The region of that number; the code from it on; the loop's body. -/
def sidesRegionOf (n : Nat) : Code → Option Code
  | .region k ops b => if k = n then some (.region k ops b) else none
  | .seq a b => match sidesRegionOf n a with
    | some c => some c
    | none => sidesRegionOf n b
  | .cond _ a b => match sidesRegionOf n a with
    | some c => some c
    | none => sidesRegionOf n b
  | .block _ c => sidesRegionOf n c
  | .loop c => sidesRegionOf n c
  | .scope c => sidesRegionOf n c
  | _ => none
def sidesFrom (n : Nat) : Code → Option Code
  | .seq (.region k ops b) c => if k = n then some (.seq (.region k ops b) c) else sidesFrom n c
  | .seq a b => match sidesFrom n a with
    | some c => some c
    | none => sidesFrom n b
  | .block _ c => sidesFrom n c
  | .scope c => sidesFrom n c
  | _ => none
def sidesLoop : Code → Option Code
  | .seq a b => match sidesLoop a with
    | some c => some c
    | none => sidesLoop b
  | .cond _ a b => match sidesLoop a with
    | some c => some c
    | none => sidesLoop b
  | .block _ c => sidesLoop c
  | .loop c => some c
  | .scope c => sidesLoop c
  | _ => none
noncomputable def sidesReg (n : Nat) : Code := ((Try.f4.body.bind (sidesRegionOf n)).getD .skip)
noncomputable def sidesTail : Code := ((Try.f4.body.bind (sidesFrom 23)).getD .skip)
noncomputable def sidesBody : Code := ((Try.f4.body.bind sidesLoop).getD .skip)

/-- A word is the same as itself. -/
theorem l_one (a : Nat) (w : World) : Calls Try.prog 20 #[.float .f64 a, .float .f64 a] w fun r w' => r = .returned (.bool true) ∧ w = w' := by
  have h := same_any a a w
  rw [decide_eq_true rfl] at h
  exact h

end Go.Proofs.Ytmcecchcbfhfcaa
