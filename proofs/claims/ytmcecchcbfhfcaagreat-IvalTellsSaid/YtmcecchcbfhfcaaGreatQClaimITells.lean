
/- IvalTells holds for any two intervals, any number and any slice of ops, of any ends: the law answers true, and its arguments read as before. No conditions. -/
import Derived.Test.YtmcecchcbfhfcaaGreatQIt
import Derived.Test.YtmcecchcbfhfcaaGreatQOpen
import Derived.Deep.Slices
import Derived.ProofKit
import Derived.Carry
namespace Go.Proofs.YtmcecchcbfhfcaaGreat
open Go.ChangeShapes Go.WideShapes Go.ChangeAt Go.RowKit Go.Joins Go.Deep

theorem run_min30 (len : Nat) (ts : Array TypeId) (t : TypeId) (w : World) : (Builtin.min_ ts t #[.int .i64 len, .int .i64 30]).run Tryz.prog w = .ok (.int .i64 (min len 30 : Nat)) w := by
  rcases Nat.lt_or_ge len 30 with h | h
  · rw [Nat.min_eq_left (by omega)]
    simp [Builtin.min_, Builtin.min2]
    omega
  · rw [Nat.min_eq_right h]
    simp [Builtin.min_, Builtin.min2]
    omega

set_option maxRecDepth 100000 in
/-- A slice of ops comes in. -/
theorem open_ops {H : Type} {enc : TypeId × Value → H} {W : World} {base : Nat} {held : Bool} {r : Reach} {b0 : Nat} {v : Value} {d : DataW H} {p : List MemPlace} (hv : Value.okWide Tryz.prog W r b0 25 v) (h : DataW.Trod enc Tryz.prog W base (fun _ => true) held 25 v d p) :
    v = .slice none 0 0 ∨ ∃ (a : Addr) (len cap : Nat), v = .slice (some a) len cap ∧ len ≤ cap ∧ ∀ i, i < len → ∃ n al ah bl bh, OpIn W (a.add (i * 5)) n al ah bl bh := by
  obtain ⟨a0, len, cap, rfl⟩ := okWide_slice Tryz.underlying25 hv
  obtain ⟨fuel, hf⟩ := h
  have hf' : DataW.trod enc Tryz.prog W base (fun _ => true) held fuel 25 [.slice a0 len cap] = some (d, p) := by simpa [Value.cells] using hf
  rcases open_slice Tryz.underlying25 hf' with ⟨h0, _⟩ | ⟨a, len', cap', m, n, D, Pl, hcs, _, hl, _, hmm, _, hi⟩
  · left
    simpa using h0
  · right
    have he : Value.slice a0 len cap = .slice (some a) len' cap' := by simpa using hcs
    refine ⟨a, len', cap', he, hl, fun i hil => ?_⟩
    have hm : m = cap' := by rw [hmm]; rfl
    obtain ⟨cs', hc, ht⟩ := hi i (by omega)
    rw [Tryz.cellsOp] at hc
    obtain ⟨_, hlen, hat⟩ := World.cells?_some hc
    match cs', hlen with
    | [c0, c1, c2, c3, c4], _ =>
      obtain ⟨n, al, ah, bl, bh, rfl, rfl, rfl, rfl, rfl, _, w0, w1, w2, w3, w4⟩ := trod_op ht
      have hn : 0 ≤ n ∧ n < 256 := by
        have h := w0
        simp [Lit.wf] at h
        have e1 : IntKind.u8.min = 0 := by decide
        have e2 : IntKind.u8.max = 255 := by decide
        omega
      obtain ⟨x, rfl⟩ := Int.eq_ofNat_of_zero_le hn.1
      have a0 := hat 0 (by decide)
      have a1 := hat 1 (by decide)
      have a2 := hat 2 (by decide)
      have a3 := hat 3 (by decide)
      have a4 := hat 4 (by decide)
      have z : W.cell? (a.add (i * 5)) = some (.int .u8 (x : Int)) := a0
      exact ⟨x, al, ah, bl, bh, z, a1, a2, a3, a4, by omega, by simpa [Lit.wf] using w1, by simpa [Lit.wf] using w2, by simpa [Lit.wf] using w3, by simpa [Lit.wf] using w4, cell_lt z⟩

theorem Tryz.laidOut' : laidOutB Tryz.prog = true := by kernel_rfl

set_option maxRecDepth 100000 in
theorem ivalTells_lifted (os : Os) (started : os.Started) (H : Type) (enc : TypeId × Value → H) :
    ReturnsInHanded {} Tryz.checked os 3 .any (Rows.ivalTellsSpec.pre6 enc Tryz.prog Tryz.f3 Rows.ivalTellsRow.domain false) (Rows.ivalTellsSpec.post enc Tryz.prog Tryz.f3 false true false false) := by
  refine returnsInHanded_of_change (C := Tryz.checked) Tryz.own started (by kernel_rfl) Tryz.func3
    (ChangeSpec.witness6 (enc := enc) (C := Tryz.checked) false ⟨#[], #[.agg #[.float .f64 0, .float .f64 0], .agg #[.float .f64 0, .float .f64 0], .float .f64 0, .slice none 0 0], []⟩ 8 (by kernel_rfl) (by kernel_rfl) (by kernel_rfl) (by kernel_rfl)) ?_
  intro W base args ds gs before hval0 hW hcnd _
  have hval : ∀ (j : Nat) t v, Tryz.f3.params[j]? = some t → args[j]? = some v → Value.okWide Tryz.prog W .any base t v := hval0
  have hW' := hW
  obtain ⟨p, q, hA0, hV, rfl, hfz, hnd⟩ := hW
  have hA : DataW.TrodAll enc Tryz.prog W 0 (fun _ => true) true Tryz.f3.params.toList args.toList ds p := hA0
  rw [Tryz.params3] at hA hval
  obtain ⟨v0, v1, v2, v3, d0, d1, d2, d3, p0, p1, p2, p3, rfl, rfl, rfl, h0, h1, h2, h3⟩ := trodAll_four hA
  obtain ⟨rfl, rfl⟩ := trodVars_none hV
  obtain ⟨al, ah, rfl, rfl, rfl, wa, wb⟩ := open_iv (hval 0 24 v0 rfl rfl) h0
  obtain ⟨bl, bh, rfl, rfl, rfl, wc, wd⟩ := open_iv (hval 1 24 v1 rfl rfl) h1
  obtain ⟨x, rfl, rfl, rfl, wx⟩ := open_float Tryz.underlying22 (hval 2 22 v2 rfl rfl) h2
  clear hA0 hval0
  simp only [List.append_nil, List.nil_append] at hW'
  have la : al < 18446744073709551616 := by simpa [Lit.wf] using wa
  have ha : ah < 18446744073709551616 := by simpa [Lit.wf] using wb
  have lb : bl < 18446744073709551616 := by simpa [Lit.wf] using wc
  have hb : bh < 18446744073709551616 := by simpa [Lit.wf] using wd
  have lx : x < 18446744073709551616 := by simpa [Lit.wf] using wx
  have hlt : ∀ x ∈ p3, x.block < W.heap.size := fun x hx => by simpa using hW'.lt x hx
  have hargs : ∀ (W' : World), Below W.heap.size W W' → DataW.TrodAll enc Tryz.prog W' 0 (fun b => decide (b < W.heap.size)) true [24, 24, 22, 25] [_, _, _, v3] [_, _, _, d3] ([] ++ ([] ++ ([] ++ p3))) :=
    fun W' hn => trodAll_mk4 (shut_iv wa wb) (shut_iv wc wd) (shut_float Tryz.underlying22 wx) (Below.trod Tryz.laidOut' (by kernel_rfl) (of_decide_eq_true (by kernel_rfl)) h3 hn hlt)
  have hcall : Calls Tryz.prog 3 #[.agg #[.float .f64 al, .float .f64 ah], .agg #[.float .f64 bl, .float .f64 bh], .float .f64 x, v3] W fun r w' => r = .returned (.bool true) ∧ Below W.heap.size W w' := by
    rcases open_ops (hval 3 25 v3 rfl rfl) h3 with rfl | ⟨a, len, cap, rfl, hc, hi⟩
    · exact it_any_nil al ah bl bh x W la ha lb hb lx
    · exact it_any al ah bl bh x W la ha lb hb lx (m := min len 30) (Nat.min_le_left _ _) (Nat.min_le_right _ _) hc (fun ts t w => run_min30 len ts t w) hi
  refine hcall.mono fun e W' ⟨he, hw⟩ => ?_
  subst he
  refine ⟨_, rfl, _, _, _, [], p3, [], hW', trodAll_mk1 (shut_bool Tryz.underlying4 _), hargs _ hw, rfl, hw.frame _, fun h => by cases h⟩

theorem ivalTells_holds : Rows.IvalTellsSaid :=
  OpenClaim.holds_of_wide 3 Tryz.f3 rfl rfl rfl rfl rfl rfl rfl ⟨rfl, rfl, rfl, rfl, rfl⟩ rfl rfl rfl rfl rfl (by kernel_rfl) Tryz.func3 (by kernel_rfl)
    (of_decide_eq_true (by kernel_rfl)) (by unfold Func.isWrapper; first | (rw [if_pos (by decide +kernel)]; kernel_rfl) | (rw [if_neg (by decide +kernel)]; exact ⟨rfl, rfl⟩))
    (fun os started H enc _ => ivalTells_lifted os started H enc)

end Go.Proofs.YtmcecchcbfhfcaaGreat
