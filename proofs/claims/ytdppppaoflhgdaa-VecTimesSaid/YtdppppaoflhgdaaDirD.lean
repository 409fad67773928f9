
/- What the functions sum and product of package dir answer. -/
import Derived.Test.YtdppppaoflhgdaaDirC
import Derived.Deep.RegionHeld3
import Derived.IntWalk
namespace Go.Proofs.Ytdppppaoflhgdaa
open Go.RowKit

set_option maxRecDepth 100000 in
set_option maxHeartbeats 1000000 in
theorem product_any (s t : Bool) (m n : Nat) (e f : Int) (w : World) (hm : m < 18446744073709551616) (hn : n < 18446744073709551616) (he0 : -3000 ≤ e) (he1 : e ≤ 3000) (hf0 : -3000 ≤ f) (hf1 : f ≤ 3000) :
    Calls Try.prog 98 #[.agg #[.bool s, .int .u64 m, .int .i64 e], .agg #[.bool t, .int .u64 n, .int .i64 f]] w fun r w' => r = .returned (.agg #[.bool (!(s == t)), .int .u64 (hiW (m * n)), .int .u64 (loW (m * n)), .int .i64 (e + f)]) ∧ Below w.heap.size w w' := by
  have cT := Lib.hid (fun w => times_any m n w hm hn)
  have ne1 : ¬ w.heap.size + 1 + 1 = w.heap.size := by omega
  have hsum : IntKind.i64.wrap (e + f) = e + f := IntWalk.i64_in _ (by omega)
  clear hm hn he0 he1 hf0 hf1
  go_enter Try.func98, Try.ntmps98
  go_wp2
  go_region_held3 (fun w' => w'.cell? ⟨w.heap.size, 0, none⟩ = some (.bool s) ∧ w'.cell? ⟨w.heap.size, 1, none⟩ = some (.int .u64 m) ∧ w'.cell? ⟨w.heap.size, 2, none⟩ = some (.int .i64 e) ∧ w'.cell? ⟨w.heap.size + 1, 0, none⟩ = some (.bool t) ∧ w'.cell? ⟨w.heap.size + 1, 1, none⟩ = some (.int .u64 n) ∧ w'.cell? ⟨w.heap.size + 1, 2, none⟩ = some (.int .i64 f)) (go_keep)
    (first | (refine (cT.out _).mono ?_; rintro r w1 ⟨rfl, hb⟩; obtain ⟨hz1, hz2, hz3, hc1, hfr1, hc2, hfr2, hc3, hfr3, HB⟩ := after3 (undrew hb); clear hb))
  go_wp2
  refine bodyPost_ret (v := .agg #[.bool (!(s == t)), .int .u64 (hiW (m * n)), .int .u64 (loW (m * n)), .int .i64 (e + f)]) (by simp [results, Try.results98, go_sem, hc3]) rfl ⟨rfl, ?_⟩
  exact (((HB.setCell (by show _ ≤ w.heap.size + 1 + 1; omega) _).setCell (by show _ ≤ w.heap.size + 1 + 1; omega) _).setCell (by show _ ≤ w.heap.size + 1 + 1; omega) _).setCell (by show _ ≤ w.heap.size + 1 + 1; omega) _

theorem plus_top (m V : Nat) (w : World) (h : m * 18446744073709551616 + V < 340282366920938463463374607431768211456) :
    Calls Try.prog 111 #[.agg #[.int .u64 m, .int .u64 0], .agg #[.int .u64 (hiW V), .int .u64 (loW V)]] w fun r w' => r = .returned (.agg #[.int .u64 (hiW (m * 18446744073709551616 + V)), .int .u64 (loW (m * 18446744073709551616 + V))]) ∧ Below w.heap.size w w' := by
  have c := plus_any (m * 18446744073709551616) V w h
  have e1 : hiW (m * 18446744073709551616) = m := by unfold hiW; omega
  have e2 : loW (m * 18446744073709551616) = 0 := by unfold loW; omega
  rw [e1, e2] at c
  exact c

theorem minus_top (m V : Nat) (w : World) (h : V ≤ m * 18446744073709551616) (hm : m < 18446744073709551616) :
    Calls Try.prog 112 #[.agg #[.int .u64 m, .int .u64 0], .agg #[.int .u64 (hiW V), .int .u64 (loW V)]] w fun r w' => r = .returned (.agg #[.int .u64 (hiW (m * 18446744073709551616 - V)), .int .u64 (loW (m * 18446744073709551616 - V))]) ∧ Below w.heap.size w w' := by
  have c := minus_any (m * 18446744073709551616) V w h (by omega)
  have e1 : hiW (m * 18446744073709551616) = m := by unfold hiW; omega
  have e2 : loW (m * 18446744073709551616) = 0 := by unfold loW; omega
  rw [e1, e2] at c
  exact c

/-- A block of ours: it stands, its cells are known, and none is barred. -/
def HoldsB (w : World) (k : Nat) (c : Array Value) : Prop := k < w.heap.size ∧ (∀ i, w.cell? ⟨k, i, none⟩ = c[i]?) ∧ (∀ i, w.frozen? ⟨k, i, none⟩ = false)

theorem HoldsB.below {w1 w2 : World} {k : Nat} {c : Array Value} (h : HoldsB w1 k c) (hb : Below w1.heap.size w1 w2) : HoldsB w2 k c := keepB hb h.1 h.2.1 h.2.2
theorem HoldsB.alloc {w : World} {k : Nat} {c : Array Value} (h : HoldsB w k c) (o : Obj) : HoldsB (w.alloc o) k c := h.below (bel1 w o)
theorem HoldsB.drew {w : World} {k : Nat} {c : Array Value} (h : HoldsB w k c) : HoldsB w.drew k c := h
theorem HoldsB.fresh (w : World) (c : Array Value) (t : TypeId) : HoldsB (w.alloc (.cells c t)) w.heap.size c :=
  ⟨by simp, fun i => World.cell?_alloc_at _ _ _ _ rfl, fun i => World.frozen?_alloc_at _ _ _ _ rfl⟩
theorem HoldsB.other {w : World} {k : Nat} {c : Array Value} (h : HoldsB w k c) (p : Addr) (v : Value) (hp : p.block ≠ k) : HoldsB (w.setCell p v) k c :=
  ⟨by simpa [World.setCell] using h.1, fun i => by rw [World.cell?_setCell_far _ _ _ _ hp]; exact h.2.1 i, fun i => by rw [World.frozen?_setCell]; exact h.2.2 i⟩
theorem HoldsB.put {w : World} {k j : Nat} {c : Array Value} (h : HoldsB w k c) (hj : j < c.size) (v : Value) : HoldsB (w.setCell ⟨k, j, none⟩ v) k (c.set j v hj) := by
  refine ⟨by simpa [World.setCell] using h.1, fun i => ?_, fun i => by rw [World.frozen?_setCell]; exact h.2.2 i⟩
  by_cases e : i = j
  · subst e
    rw [World.cell?_setCell_same w ⟨k, i, none⟩ v (u := c[i]) (by rw [h.2.1 i]; exact Array.getElem?_eq_getElem hj)]
    simp
  · rw [World.cell?_setCell_other w ⟨k, j, none⟩ ⟨k, i, none⟩ v (by intro g; injection g; omega), h.2.1 i, Array.getElem?_set_ne hj (by omega)]

/-- What stands between the two operands' words and what is done with them. -/
def SumCut (w : World) (a b c x y : Array Value) (s5 s6 : Value) (wx : World) : Prop :=
  ∃ p q : Nat, s5 = .pointer (some ⟨p, 0, none⟩) ∧ s6 = .pointer (some ⟨q, 0, none⟩) ∧ p ≠ q ∧ w.heap.size + 1 + 1 < p ∧ w.heap.size + 1 + 1 < q ∧ HoldsB wx w.heap.size a ∧ HoldsB wx (w.heap.size + 1) b ∧ HoldsB wx (w.heap.size + 1 + 1) c ∧ HoldsB wx p x ∧ HoldsB wx q y ∧ Below w.heap.size w wx

/-- Behind three blocks of ours: each stands. -/
theorem holds3 {w w1 : World} {c d e : Array Value} {t u v : TypeId} (hb : Below (((w.alloc (.cells c t)).alloc (.cells d u)).alloc (.cells e v)).heap.size (((w.alloc (.cells c t)).alloc (.cells d u)).alloc (.cells e v)) w1) :
    HoldsB w1 w.heap.size c ∧ HoldsB w1 (w.heap.size + 1) d ∧ HoldsB w1 (w.heap.size + 1 + 1) e ∧ Below w.heap.size w w1 := by
  obtain ⟨hz1, hz2, hz3, hc1, hfr1, hc2, hfr2, hc3, hfr3, HB1⟩ := after3 hb
  exact ⟨⟨hz3, hc1, hfr1⟩, ⟨hz2, hc2, hfr2⟩, ⟨hz1, hc3, hfr3⟩, HB1⟩

/-- What is known when the lower operand's words are there, whatever was made ahead of them. -/
def Low (w w1 : World) (a b c : Array Value) (w2 : World) : Prop := HoldsB w2 w.heap.size a ∧ HoldsB w2 (w.heap.size + 1) b ∧ HoldsB w2 (w.heap.size + 1 + 1) c ∧ Below w.heap.size w w2 ∧ w1.heap.size ≤ w2.heap.size

theorem low_of {w w1 w2 : World} {a b c : Array Value} (h1 : HoldsB w1 w.heap.size a) (h2 : HoldsB w1 (w.heap.size + 1) b) (h3 : HoldsB w1 (w.heap.size + 1 + 1) c) (h4 : Below w.heap.size w w1) (hb : Below w1.heap.size w1 w2) : Low w w1 a b c w2 :=
  ⟨h1.below hb, h2.below hb, h3.below hb, h4.trans (hb.mono (Nat.le_of_lt h1.1)), hb.size⟩

abbrev Three (w w1 : World) (a b c : Array Value) : Prop := HoldsB w1 w.heap.size a ∧ HoldsB w1 (w.heap.size + 1) b ∧ HoldsB w1 (w.heap.size + 1 + 1) c ∧ Below w.heap.size w w1

theorem meetA {w w1 w2 : World} {a b c x y : Array Value} {t : TypeId} (h : Three w w1 a b c) (hb : Below w1.heap.size w1 w2) :
    SumCut w a b c x y (.pointer (some ⟨w2.heap.size, 0, none⟩)) (.pointer (some ⟨w2.heap.size + 1, 0, none⟩)) ((w2.alloc (.cells x t)).alloc (.cells y t)) := by
  obtain ⟨k1, k2, k3, k4, k5⟩ := low_of h.1 h.2.1 h.2.2.1 h.2.2.2 hb
  have z := h.2.2.1.1
  have f := HoldsB.fresh (w2.alloc (.cells x t)) y t
  rw [World.size_alloc] at f
  have z1 := k1.1
  exact ⟨_, _, rfl, rfl, by omega, by omega, by omega, (k1.alloc _).alloc _, (k2.alloc _).alloc _, (k3.alloc _).alloc _, (HoldsB.fresh w2 x t).alloc _, f, (k4.alloc (by omega) _).alloc (by rw [World.size_alloc]; omega) _⟩

theorem meetB {w w1 w2 : World} {a b c x y : Array Value} {t : TypeId} (h : Three w w1 a b c) (hb : Below w1.heap.size w1 w2) :
    SumCut w a b c x y (.pointer (some ⟨w2.heap.size + 1, 0, none⟩)) (.pointer (some ⟨w2.heap.size, 0, none⟩)) ((w2.alloc (.cells y t)).alloc (.cells x t)) := by
  obtain ⟨k1, k2, k3, k4, k5⟩ := low_of h.1 h.2.1 h.2.2.1 h.2.2.2 hb
  have z := h.2.2.1.1
  have f := HoldsB.fresh (w2.alloc (.cells y t)) x t
  rw [World.size_alloc] at f
  have z1 := k1.1
  exact ⟨_, _, rfl, rfl, by omega, by omega, by omega, (k1.alloc _).alloc _, (k2.alloc _).alloc _, (k3.alloc _).alloc _, f, (HoldsB.fresh w2 y t).alloc _, (k4.alloc (by omega) _).alloc (by rw [World.size_alloc]; omega) _⟩

theorem HoldsB.put2 {w : World} {k : Nat} {x y : Value} (h : HoldsB w k #[x, y]) (u v : Value) : HoldsB ((w.setCell ⟨k, 0, none⟩ u).setCell ⟨k, 1, none⟩ v) k #[u, v] :=
  (h.put (j := 0) (Nat.zero_lt_succ 1) u).put (j := 1) (Nat.lt_succ_self 1) v
theorem HoldsB.other2 {w : World} {k g : Nat} {c : Array Value} (h : HoldsB w k c) (u v : Value) (hk : g ≠ k) : HoldsB ((w.setCell ⟨g, 0, none⟩ u).setCell ⟨g, 1, none⟩ v) k c :=
  (h.other ⟨g, 0, none⟩ u hk).other ⟨g, 1, none⟩ v hk
theorem bset2 {B : Nat} {w w' : World} (h : Below B w w') (g : Nat) (u v : Value) (hg : B ≤ g) : Below B w ((w'.setCell ⟨g, 0, none⟩ u).setCell ⟨g, 1, none⟩ v) := (h.setCell hg u).setCell hg v
theorem size_set2 (w : World) (g : Nat) (u v : Value) : ((w.setCell ⟨g, 0, none⟩ u).setCell ⟨g, 1, none⟩ v).heap.size = w.heap.size := by simp [World.setCell]

theorem meetC {w w1 w2 : World} {a b c : Array Value} {z z' x0 x1 y0 y1 : Value} {t : TypeId} (h : Three w w1 a b c) (hb : Below (w1.alloc (.cells #[z, z'] t)).heap.size (w1.alloc (.cells #[z, z'] t)) w2) :
    SumCut w a b c #[x0, x1] #[y0, y1] (.pointer (some ⟨w1.heap.size, 0, none⟩)) (.pointer (some ⟨w2.heap.size, 0, none⟩)) (((w2.setCell ⟨w1.heap.size, 0, none⟩ x0).setCell ⟨w1.heap.size, 1, none⟩ x1).alloc (.cells #[y0, y1] t)) := by
  have hn := (HoldsB.fresh w1 #[z, z'] t).below hb
  obtain ⟨k1, k2, k3, k4, k5⟩ := low_of h.1 h.2.1 h.2.2.1 h.2.2.2 ((bel1 w1 _).trans (hb.mono (by simp)))
  have z0 := h.2.2.1.1
  have z1 := hn.1
  have f := HoldsB.fresh ((w2.setCell ⟨w1.heap.size, 0, none⟩ x0).setCell ⟨w1.heap.size, 1, none⟩ x1) #[y0, y1] t
  rw [size_set2] at f
  exact ⟨_, _, rfl, rfl, by omega, by omega, by omega, (k1.other2 _ _ (by omega)).alloc _, (k2.other2 _ _ (by omega)).alloc _, (k3.other2 _ _ (by omega)).alloc _, (hn.put2 _ _).alloc _, f, (bset2 k4 _ _ _ (by omega)).alloc (by rw [size_set2]; omega) _⟩

theorem meetE {w w1 w2 : World} {a b c : Array Value} {z z' x0 x1 y0 y1 : Value} {t : TypeId} (h : Three w w1 a b c) (hb : Below (w1.alloc (.cells #[z, z'] t)).heap.size (w1.alloc (.cells #[z, z'] t)) w2) :
    SumCut w a b c #[x0, x1] #[y0, y1] (.pointer (some ⟨w2.heap.size, 0, none⟩)) (.pointer (some ⟨w1.heap.size, 0, none⟩)) (((w2.setCell ⟨w1.heap.size, 0, none⟩ y0).setCell ⟨w1.heap.size, 1, none⟩ y1).alloc (.cells #[x0, x1] t)) := by
  have hn := (HoldsB.fresh w1 #[z, z'] t).below hb
  obtain ⟨k1, k2, k3, k4, k5⟩ := low_of h.1 h.2.1 h.2.2.1 h.2.2.2 ((bel1 w1 _).trans (hb.mono (by simp)))
  have z0 := h.2.2.1.1
  have z1 := hn.1
  have f := HoldsB.fresh ((w2.setCell ⟨w1.heap.size, 0, none⟩ y0).setCell ⟨w1.heap.size, 1, none⟩ y1) #[x0, x1] t
  rw [size_set2] at f
  exact ⟨_, _, rfl, rfl, by omega, by omega, by omega, (k1.other2 _ _ (by omega)).alloc _, (k2.other2 _ _ (by omega)).alloc _, (k3.other2 _ _ (by omega)).alloc _, f, (hn.put2 _ _).alloc _, (bset2 k4 _ _ _ (by omega)).alloc (by rw [size_set2]; omega) _⟩

theorem two_new {w1 w2 : World} {z z' y y' : Value} {t : TypeId} (hb : Below ((w1.alloc (.cells #[z, z'] t)).alloc (.cells #[y, y'] t)).heap.size ((w1.alloc (.cells #[z, z'] t)).alloc (.cells #[y, y'] t)) w2) :
    HoldsB w2 w1.heap.size #[z, z'] ∧ HoldsB w2 (w1.heap.size + 1) #[y, y'] ∧ Below w1.heap.size w1 w2 := by
  have f := HoldsB.fresh (w1.alloc (.cells #[z, z'] t)) #[y, y'] t
  rw [World.size_alloc] at f
  exact ⟨((HoldsB.fresh w1 #[z, z'] t).alloc _).below hb, f.below hb, (bel2 w1 _ _).trans (hb.mono (by simp; omega))⟩

theorem meetD {w w1 w2 : World} {a b c : Array Value} {z z' y y' x0 x1 y0 y1 : Value} {t : TypeId} (h : Three w w1 a b c) (hb : Below ((w1.alloc (.cells #[z, z'] t)).alloc (.cells #[y, y'] t)).heap.size ((w1.alloc (.cells #[z, z'] t)).alloc (.cells #[y, y'] t)) w2) :
    SumCut w a b c #[x0, x1] #[y0, y1] (.pointer (some ⟨w1.heap.size, 0, none⟩)) (.pointer (some ⟨w1.heap.size + 1, 0, none⟩)) ((((w2.setCell ⟨w1.heap.size, 0, none⟩ x0).setCell ⟨w1.heap.size, 1, none⟩ x1).setCell ⟨w1.heap.size + 1, 0, none⟩ y0).setCell ⟨w1.heap.size + 1, 1, none⟩ y1) := by
  obtain ⟨n1, n2, hb2⟩ := two_new hb
  obtain ⟨k1, k2, k3, k4, k5⟩ := low_of h.1 h.2.1 h.2.2.1 h.2.2.2 hb2
  have z0 := h.2.2.1.1
  exact ⟨_, _, rfl, rfl, by omega, by omega, by omega, (k1.other2 _ _ (by omega)).other2 _ _ (by omega), (k2.other2 _ _ (by omega)).other2 _ _ (by omega), (k3.other2 _ _ (by omega)).other2 _ _ (by omega), (n1.put2 _ _).other2 _ _ (by omega), (n2.other2 _ _ (by omega)).put2 _ _, bset2 (bset2 k4 _ _ _ (by omega)) _ _ _ (by omega)⟩

theorem meetF {w w1 w2 : World} {a b c : Array Value} {z z' y y' x0 x1 y0 y1 : Value} {t : TypeId} (h : Three w w1 a b c) (hb : Below ((w1.alloc (.cells #[z, z'] t)).alloc (.cells #[y, y'] t)).heap.size ((w1.alloc (.cells #[z, z'] t)).alloc (.cells #[y, y'] t)) w2) :
    SumCut w a b c #[x0, x1] #[y0, y1] (.pointer (some ⟨w1.heap.size + 1, 0, none⟩)) (.pointer (some ⟨w1.heap.size, 0, none⟩)) ((((w2.setCell ⟨w1.heap.size + 1, 0, none⟩ x0).setCell ⟨w1.heap.size + 1, 1, none⟩ x1).setCell ⟨w1.heap.size, 0, none⟩ y0).setCell ⟨w1.heap.size, 1, none⟩ y1) := by
  obtain ⟨n1, n2, hb2⟩ := two_new hb
  obtain ⟨k1, k2, k3, k4, k5⟩ := low_of h.1 h.2.1 h.2.2.1 h.2.2.2 hb2
  have z0 := h.2.2.1.1
  exact ⟨_, _, rfl, rfl, by omega, by omega, by omega, (k1.other2 _ _ (by omega)).other2 _ _ (by omega), (k2.other2 _ _ (by omega)).other2 _ _ (by omega), (k3.other2 _ _ (by omega)).other2 _ _ (by omega), (n2.put2 _ _).other2 _ _ (by omega), (n1.other2 _ _ (by omega)).put2 _ _, bset2 (bset2 k4 _ _ _ (by omega)) _ _ _ (by omega)⟩

/-- Both parts put together: the words of a sum, or of a difference. -/
def sumW (same : Bool) (m V : Nat) : Nat := if same then m * 18446744073709551616 + V else m * 18446744073709551616 - V

theorem HoldsB.put3 {w : World} {k : Nat} {x y z : Value} (h : HoldsB w k #[x, y, z]) (u v r : Value) : HoldsB (((w.setCell ⟨k, 0, none⟩ u).setCell ⟨k, 1, none⟩ v).setCell ⟨k, 2, none⟩ r) k #[u, v, r] :=
  ((h.put (j := 0) (Nat.zero_lt_succ 2) u).put (j := 1) (Nat.succ_lt_succ (Nat.zero_lt_succ 1)) v).put (j := 2) (Nat.lt_succ_self 2) r
theorem HoldsB.other3 {w : World} {k g : Nat} {c : Array Value} (h : HoldsB w k c) (u v r : Value) (hk : g ≠ k) : HoldsB (((w.setCell ⟨g, 0, none⟩ u).setCell ⟨g, 1, none⟩ v).setCell ⟨g, 2, none⟩ r) k c :=
  ((h.other ⟨g, 0, none⟩ u hk).other ⟨g, 1, none⟩ v hk).other ⟨g, 2, none⟩ r hk
theorem bset3 {B : Nat} {w w' : World} (h : Below B w w') (g : Nat) (u v r : Value) (hg : B ≤ g) : Below B w (((w'.setCell ⟨g, 0, none⟩ u).setCell ⟨g, 1, none⟩ v).setCell ⟨g, 2, none⟩ r) := ((h.setCell hg u).setCell hg v).setCell hg r

/-- Two blocks of three cells, exchanged. -/
theorem swapped {w w1 : World} {x y z x' y' z' : Value} {c : Array Value} (h : Three w w1 #[x, y, z] #[x', y', z'] c) :
    Three w ((((((w1.setCell ⟨w.heap.size, 0, none⟩ x').setCell ⟨w.heap.size, 1, none⟩ y').setCell ⟨w.heap.size, 2, none⟩ z').setCell ⟨w.heap.size + 1, 0, none⟩ x).setCell ⟨w.heap.size + 1, 1, none⟩ y).setCell ⟨w.heap.size + 1, 2, none⟩ z) #[x', y', z'] #[x, y, z] c := by
  obtain ⟨h1, h2, h3, h4⟩ := h
  exact ⟨(h1.put3 _ _ _).other3 _ _ _ (by omega), (h2.other3 _ _ _ (by omega)).put3 _ _ _, (h3.other3 _ _ _ (by omega)).other3 _ _ _ (by omega), bset3 (bset3 h4 _ _ _ _ (by omega)) _ _ _ _ (by omega)⟩

set_option maxRecDepth 100000 in
set_option maxHeartbeats 20000000 in
theorem sum_ord (s t : Bool) (m n : Nat) (e f : Int) (S T : Bool) (M N : Nat) (E F : Int) (w : World) (hm : M < 9007199254740992) (he0 : -3000 ≤ E) (he1 : E ≤ 3000) (hf0 : -3000 ≤ F) (hf1 : F ≤ 3000) (hef : 0 ≤ E - F)
    (hcase : (nearB e f m n = false ∧ S = s ∧ M = m ∧ E = e ∧ T = t ∧ N = n ∧ F = f) ∨ (nearB e f m n = true ∧ S = t ∧ M = n ∧ E = f ∧ T = s ∧ N = m ∧ F = e)) (hle : lowerW N (E - F) ≤ M * 18446744073709551616) :
    Calls Try.prog 101 #[.agg #[.bool s, .int .u64 m, .int .i64 e], .agg #[.bool t, .int .u64 n, .int .i64 f]] w fun r w' => r = .returned (.agg #[.bool S, .int .u64 (hiW (sumW (S == T) M (lowerW N (E - F)))), .int .u64 (loW (sumW (S == T) M (lowerW N (E - F)))), .int .i64 (E - 64)]) ∧ Below w.heap.size w w' := by
  have cN := Lib.hid (fun w => nearer_any s t m n e f w)
  have cL := Lib.hid (fun w => lowered_any N (E - F) w hef)
  have cP := Lib.hid (fun w => plus_top M (lowerW N (E - F)) w (by omega))
  have cM := Lib.hid (fun w => minus_top M (lowerW N (E - F)) w hle (by omega))
  have Hsub := Lib.hid (show IntKind.i64.wrap (E - F) = E - F from IntWalk.i64_in _ (by omega))
  have Hsub2 := Lib.hid (show IntKind.i64.wrap (E - 64) = E - 64 from IntWalk.i64_in _ (by omega))
  have Hcase := Lib.hid hcase
  clear hle hm he0 he1 hf0 hf1 hef hcase
  go_enter Try.func101, Try.ntmps101
  go_wp2_with fail
  refine (cN.out _).mono ?_
  rintro r w0 ⟨rfl, hb⟩
  have HV : Hid (Three w w0 _ _ _) := Lib.hid (holds3 hb)
  clear hb
  go_upto_if 9 with fail
  go_cut [] (fun wx => Three w wx #[.bool S, .int .u64 M, .int .i64 E] #[.bool T, .int .u64 N, .int .i64 F] #[.bool false, .int .u64 0, .int .u64 0, .int .i64 0])
  case first =>
    rcases Hcase.out with ⟨hnear, rfl, rfl, rfl, rfl, rfl, rfl⟩ | ⟨hnear, rfl, rfl, rfl, rfl, rfl, rfl⟩
    · rw [hnear]
      go_wp2_with fail
      go_meet
      exact HV.out
    · obtain ⟨⟨z1, c1, f1⟩, ⟨z2, c2, f2⟩, _, _⟩ := HV.out
      rw [hnear]
      go_wp2_with fail
      go_meet
      exact swapped HV.out
  case rest =>
    clear HV cN
    obtain ⟨w1, rfl⟩ : ∃ x : World, x = wc := ⟨_, rfl⟩
    have HW := Lib.hid hcut
    obtain ⟨h1, h2, h3, h4⟩ := hcut
    have s1 := h1.2.1 1
    have s2 := h1.2.1 2
    have s3 := h2.2.1 1
    have s4 := h2.2.1 2
    have z : w.heap.size + 1 + 1 < w1.heap.size := h3.1
    have hsub := Hsub.out
    clear h1 h2 h3 h4
    go_upto_region 3 with fail
    go_cut [5, 6] (SumCut w #[.bool S, .int .u64 M, .int .i64 E] #[.bool T, .int .u64 N, .int .i64 F] #[.bool false, .int .u64 0, .int .u64 0, .int .i64 0] #[.int .u64 M, .int .u64 0] #[.int .u64 (hiW (lowerW N (E - F))), .int .u64 (loW (lowerW N (E - F)))])
    case first =>
      have q1 : ¬ w1.heap.size = w.heap.size := by omega
      have q2 : ¬ w1.heap.size = w.heap.size + 1 := by omega
      have q3 : ¬ w1.heap.size + 1 = w.heap.size := by omega
      have q4 : ¬ w1.heap.size + 1 = w.heap.size + 1 := by omega
      have p1 : w.heap.size < w1.heap.size := by omega
      have p2 : w.heap.size < w1.heap.size + 1 := by omega
      have p3 : w.heap.size < w1.heap.size + 1 + 1 := by omega
      have p4 : w.heap.size + 1 < w1.heap.size := by omega
      have p5 : w.heap.size + 1 < w1.heap.size + 1 := by omega
      have p6 : w.heap.size + 1 < w1.heap.size + 1 + 1 := by omega
      clear z
      go_region_held3 (fun w' => w'.cell? ⟨w.heap.size, 1, none⟩ = some (.int .u64 M) ∧ w'.cell? ⟨w.heap.size, 2, none⟩ = some (.int .i64 E) ∧ w'.cell? ⟨w.heap.size + 1, 1, none⟩ = some (.int .u64 N) ∧ w'.cell? ⟨w.heap.size + 1, 2, none⟩ = some (.int .i64 F)) (first | (simp [*, World.cell?_alloc_past]; done) | go_keep)
        (first
          | (refine (cL.out _).mono ?_; rintro r w2 ⟨rfl, hb0⟩; have hb := undrew hb0; clear hb0; obtain ⟨hbc, hbf⟩ := bcell hb; have hbz := hb.size; (try simp only [World.size_alloc] at hbc hbf hbz); have y3 : ¬ w2.heap.size = w.heap.size := (by omega); have y4 : ¬ w2.heap.size = w.heap.size + 1 := (by omega); have y5 : ¬ w2.heap.size + 1 = w.heap.size := (by omega); have y6 : ¬ w2.heap.size + 1 = w.heap.size + 1 := (by omega); have x1 : w.heap.size < w2.heap.size := (by omega); have x2 : w.heap.size < w2.heap.size + 1 := (by omega); have x3 : w.heap.size + 1 < w2.heap.size := (by omega); have x4 : w.heap.size + 1 < w2.heap.size + 1 := (by omega); (try have x5 : w1.heap.size < w2.heap.size := (by omega)); (try have x6 : w1.heap.size + 1 < w2.heap.size := (by omega)); (try have x7 : ¬ w2.heap.size = w1.heap.size := (by omega)); have Hb := Lib.hid hb; clear hb hbz))
      all_goals (go_wp2_with fail; go_meet)
      · exact meetA HW.out Hb.out
      · exact meetB HW.out Hb.out
      · exact meetC HW.out Hb.out
      · exact meetD HW.out Hb.out
      · exact meetE HW.out Hb.out
      · exact meetF HW.out Hb.out
    case rest =>
      obtain ⟨p, q, rfl, rfl, hpq, hp, hq, ⟨gz1, gc1, gf1⟩, ⟨gz2, gc2, gf2⟩, ⟨gz3, gc3, gf3⟩, ⟨gz4, gc4, gf4⟩, ⟨gz5, gc5, gf5⟩, HX⟩ := hcut
      have hsub2 := Hsub2.out
      clear s1 s2 s3 s4 z
      have n1 : ¬ p = w.heap.size := by omega
      have n2 : ¬ p = w.heap.size + 1 + 1 := by omega
      have n3 : ¬ w.heap.size + 1 + 1 = w.heap.size := by omega
      have Hp := Lib.hid hp
      clear hp hq hpq
      cases hst : (S == T)
      · go_wp2_with fail
        refine (cM.out _).mono ?_
        rintro r w3 ⟨rfl, hb⟩
        obtain ⟨iz1, ic1, if1⟩ := keepB hb gz1 gc1 gf1
        obtain ⟨iz3, ic3, if3⟩ := keepB hb gz3 gc3 gf3
        obtain ⟨iz4, ic4, if4⟩ := keepB hb gz4 gc4 gf4
        have HY := Lib.hid (HX.trans (hb.mono (Nat.le_of_lt gz1)))
        clear hb gc1 gf1 gc2 gf2 gc3 gf3 gc4 gf4 gc5 gf5 gz1 gz2 gz3 gz4 gz5 HX
        go_wp2
        refine bodyPost_ret (v := .agg #[.bool S, .int .u64 (hiW (M * 18446744073709551616 - lowerW N (E - F))), .int .u64 (loW (M * 18446744073709551616 - lowerW N (E - F))), .int .i64 (E - 64)]) (by simp [results, Try.results101, go_sem, ic3]) rfl ⟨by rw [hst]; rfl, ?_⟩
        have hp := Hp.out
        exact (((bset2 HY.out p _ _ (by omega)).setCell (by show _ ≤ w.heap.size + 1 + 1; omega) _).setCell (by show _ ≤ w.heap.size + 1 + 1; omega) _).setCell (by show _ ≤ w.heap.size + 1 + 1; omega) _ |>.setCell (by show _ ≤ w.heap.size + 1 + 1; omega) _
      · go_wp2_with fail
        refine (cP.out _).mono ?_
        rintro r w3 ⟨rfl, hb⟩
        obtain ⟨iz1, ic1, if1⟩ := keepB hb gz1 gc1 gf1
        obtain ⟨iz3, ic3, if3⟩ := keepB hb gz3 gc3 gf3
        obtain ⟨iz4, ic4, if4⟩ := keepB hb gz4 gc4 gf4
        have HY := Lib.hid (HX.trans (hb.mono (Nat.le_of_lt gz1)))
        clear hb gc1 gf1 gc2 gf2 gc3 gf3 gc4 gf4 gc5 gf5 gz1 gz2 gz3 gz4 gz5 HX
        go_wp2
        refine bodyPost_ret (v := .agg #[.bool S, .int .u64 (hiW (M * 18446744073709551616 + lowerW N (E - F))), .int .u64 (loW (M * 18446744073709551616 + lowerW N (E - F))), .int .i64 (E - 64)]) (by simp [results, Try.results101, go_sem, ic3]) rfl ⟨by rw [hst]; rfl, ?_⟩
        have hp := Hp.out
        exact (((bset2 HY.out p _ _ (by omega)).setCell (by show _ ≤ w.heap.size + 1 + 1; omega) _).setCell (by show _ ≤ w.heap.size + 1 + 1; omega) _).setCell (by show _ ≤ w.heap.size + 1 + 1; omega) _ |>.setCell (by show _ ≤ w.heap.size + 1 + 1; omega) _

end Go.Proofs.Ytdppppaoflhgdaa
