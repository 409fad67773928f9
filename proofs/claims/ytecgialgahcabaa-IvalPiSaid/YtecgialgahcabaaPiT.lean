/- The law IvalPi: its walk. -/
import Derived.Test.YtecgialgahcabaaPiM
import Derived.Test.YtecgialgahcabaaTail
namespace Go.Proofs.Ytecgialgahcabaa
open Go.RowKit
attribute [local go_sem] run_store_float

/-- What stands at the head of a round: the counter, the sides, the blocks. -/
def PiRel (w : World) (p q s K : Nat) (v8 v22 : Value) (wr : World) : Prop :=
  ∃ k : Nat, k ≤ K ∧ v22 = .int .i64 k ∧ v8 = .float .f64 (sidesW k) ∧ Mem w [(w.heap.size, #[.int .i64 0]), (p, #[.float .f64 4607182418800017408, .float .f64 4607182418800017408]), (q, #[.float .f64 4611686018427387904, .float .f64 4611686018427387904]), (s, #[.float .f64 (sideR k).lo, .float .f64 (sideR k).hi])] wr

theorem l_num2 (pb : Nat) (w : World) (hc : w.cell? ⟨pb, 0, none⟩ = some (.int .i64 0)) (hf : w.frozen? ⟨pb, 0, none⟩ = false) :
    Calls Try.prog 53 #[.pointer (some ⟨pb, 0, none⟩), .float .f64 4611686018427387904] w fun r w' => r = .returned (.agg #[.float .f64 4611686018427387904, .float .f64 4611686018427387904]) ∧ Put ⟨pb, 0, none⟩ (.int .i64 0) w w' := by
  have h := cNum_any 0 4611686018427387904 pb 0 w (by decide) hc hf
  rw [show stepI 0 true (ofI 4611686018427387904) = ⟨0, 4611686018427387904, 4611686018427387904⟩ from res_eq (by decide +kernel)] at h
  exact h

theorem small_parts {r : Res} (h : small r = true) : r.e = 0 ∧ r.lo < 18446744073709551616 ∧ r.hi < 18446744073709551616 := by
  unfold small at h
  simp only [Bool.and_eq_true, decide_eq_true_eq] at h
  exact ⟨h.1.1, h.1.2, h.2⟩
theorem told_small {R : Res} {pb : Nat} {w : World} {f : FuncId} {args : Array Value} (he : R.e = 0) (h : Calls Try.prog f args w (Told R pb 0 w)) :
    Calls Try.prog f args w fun r w' => r = .returned (.agg #[.float .f64 R.lo, .float .f64 R.hi]) ∧ Put ⟨pb, 0, none⟩ (.int .i64 0) w w' := by
  refine h.mono fun r w' ⟨h1, h2⟩ => ⟨h1, ?_⟩
  rw [he] at h2
  exact h2

theorem side_small : ∀ k, k ≤ 20 → (sideR k).lo < 18446744073709551616 ∧ (sideR k).hi < 18446744073709551616
  | 0, _ => ⟨by decide, by decide⟩
  | k + 1, h => by
    have hr := rounds_ok k (by omega)
    unfold roundOk at hr
    simp only [Bool.and_eq_true] at hr
    exact (small_parts hr.1.2).2

theorem round_calls (k : Nat) (hk : k < 20) : ∃ a1 a2 b1 b2 c1 c2 : Nat,
    (∀ (pb : Nat) (w : World), w.cell? ⟨pb, 0, none⟩ = some (.int .i64 0) → w.frozen? ⟨pb, 0, none⟩ = false → Calls Try.prog 57 #[.pointer (some ⟨pb, 0, none⟩), .agg #[.float .f64 4616189618054758400, .float .f64 4616189618054758400], .agg #[.float .f64 (sideR k).lo, .float .f64 (sideR k).hi]] w fun r w' => r = .returned (.agg #[.float .f64 a1, .float .f64 a2]) ∧ Put ⟨pb, 0, none⟩ (.int .i64 0) w w') ∧
    (∀ (pb : Nat) (w : World), w.cell? ⟨pb, 0, none⟩ = some (.int .i64 0) → w.frozen? ⟨pb, 0, none⟩ = false → Calls Try.prog 56 #[.pointer (some ⟨pb, 0, none⟩), .agg #[.float .f64 a1, .float .f64 a2]] w fun r w' => r = .returned (.agg #[.float .f64 b1, .float .f64 b2]) ∧ Put ⟨pb, 0, none⟩ (.int .i64 0) w w') ∧
    (∀ (pb : Nat) (w : World), w.cell? ⟨pb, 0, none⟩ = some (.int .i64 0) → w.frozen? ⟨pb, 0, none⟩ = false → Calls Try.prog 55 #[.pointer (some ⟨pb, 0, none⟩), .agg #[.float .f64 4611686018427387904, .float .f64 4611686018427387904], .agg #[.float .f64 b1, .float .f64 b2]] w fun r w' => r = .returned (.agg #[.float .f64 c1, .float .f64 c2]) ∧ Put ⟨pb, 0, none⟩ (.int .i64 0) w w') ∧
    (∀ (pb : Nat) (w : World), w.cell? ⟨pb, 0, none⟩ = some (.int .i64 0) → w.frozen? ⟨pb, 0, none⟩ = false → Calls Try.prog 54 #[.pointer (some ⟨pb, 0, none⟩), .agg #[.float .f64 (sideR k).lo, .float .f64 (sideR k).hi], .agg #[.float .f64 c1, .float .f64 c2]] w fun r w' => r = .returned (.agg #[.float .f64 (sideR (k + 1)).lo, .float .f64 (sideR (k + 1)).hi]) ∧ Put ⟨pb, 0, none⟩ (.int .i64 0) w w') ∧
    floatBits .mul .f64 (sidesW k) 4611686018427387904 = some (sidesW (k + 1)) := by
  have hr := rounds_ok k hk
  unfold roundOk at hr
  simp only [Bool.and_eq_true, decide_eq_true_eq] at hr
  obtain ⟨⟨⟨⟨hA, hB⟩, hC⟩, hD⟩, hm⟩ := hr
  obtain ⟨l1, l2⟩ := side_small k (by omega)
  obtain ⟨eA, a1, a2⟩ := small_parts hA
  obtain ⟨eB, b1, b2⟩ := small_parts hB
  obtain ⟨eC, c1, c2⟩ := small_parts hC
  obtain ⟨eD, d1, d2⟩ := small_parts hD
  exact ⟨(rA (sideR k)).lo, (rA (sideR k)).hi, (rB (sideR k)).lo, (rB (sideR k)).hi, (rC (sideR k)).lo, (rC (sideR k)).hi,
    fun pb w hc hf => told_small eA (cSub_any 0 w4W w4W _ _ pb 0 w (by decide) (by decide) l1 l2 hc hf),
    fun pb w hc hf => told_small eB (cSqrt_any 0 _ _ pb 0 w a1 a2 hc hf),
    fun pb w hc hf => told_small eC (cAdd_any 0 w2W w2W _ _ pb 0 w (by decide) (by decide) b1 b2 hc hf),
    fun pb w hc hf => told_small eD (cDiv_any 0 _ _ _ _ pb 0 w l1 l2 c1 c2 hc hf), hm⟩

theorem end_calls (k : Nat) (hk : k < 21) : ∃ a1 a2 b1 b2 c1 c2 d1 d2 f1 f2 g1 g2 h1 h2 i1 i2 : Nat,
    (∀ (pb : Nat) (w : World), w.cell? ⟨pb, 0, none⟩ = some (.int .i64 0) → w.frozen? ⟨pb, 0, none⟩ = false → Calls Try.prog 53 #[.pointer (some ⟨pb, 0, none⟩), .float .f64 (sidesW k)] w fun r w' => r = .returned (.agg #[.float .f64 a1, .float .f64 a2]) ∧ Put ⟨pb, 0, none⟩ (.int .i64 0) w w') ∧
    (∀ (pb : Nat) (w : World), w.cell? ⟨pb, 0, none⟩ = some (.int .i64 0) → w.frozen? ⟨pb, 0, none⟩ = false → Calls Try.prog 56 #[.pointer (some ⟨pb, 0, none⟩), .agg #[.float .f64 (sideR k).lo, .float .f64 (sideR k).hi]] w fun r w' => r = .returned (.agg #[.float .f64 b1, .float .f64 b2]) ∧ Put ⟨pb, 0, none⟩ (.int .i64 0) w w') ∧
    (∀ (pb : Nat) (w : World), w.cell? ⟨pb, 0, none⟩ = some (.int .i64 0) → w.frozen? ⟨pb, 0, none⟩ = false → Calls Try.prog 58 #[.pointer (some ⟨pb, 0, none⟩), .agg #[.float .f64 a1, .float .f64 a2], .agg #[.float .f64 b1, .float .f64 b2]] w fun r w' => r = .returned (.agg #[.float .f64 c1, .float .f64 c2]) ∧ Put ⟨pb, 0, none⟩ (.int .i64 0) w w') ∧
    (∀ (pb : Nat) (w : World), w.cell? ⟨pb, 0, none⟩ = some (.int .i64 0) → w.frozen? ⟨pb, 0, none⟩ = false → Calls Try.prog 54 #[.pointer (some ⟨pb, 0, none⟩), .agg #[.float .f64 c1, .float .f64 c2], .agg #[.float .f64 4611686018427387904, .float .f64 4611686018427387904]] w fun r w' => r = .returned (.agg #[.float .f64 d1, .float .f64 d2]) ∧ Put ⟨pb, 0, none⟩ (.int .i64 0) w w') ∧
    (∀ (pb : Nat) (w : World), w.cell? ⟨pb, 0, none⟩ = some (.int .i64 0) → w.frozen? ⟨pb, 0, none⟩ = false → Calls Try.prog 54 #[.pointer (some ⟨pb, 0, none⟩), .agg #[.float .f64 (sideR k).lo, .float .f64 (sideR k).hi], .agg #[.float .f64 4616189618054758400, .float .f64 4616189618054758400]] w fun r w' => r = .returned (.agg #[.float .f64 f1, .float .f64 f2]) ∧ Put ⟨pb, 0, none⟩ (.int .i64 0) w w') ∧
    (∀ (pb : Nat) (w : World), w.cell? ⟨pb, 0, none⟩ = some (.int .i64 0) → w.frozen? ⟨pb, 0, none⟩ = false → Calls Try.prog 57 #[.pointer (some ⟨pb, 0, none⟩), .agg #[.float .f64 4607182418800017408, .float .f64 4607182418800017408], .agg #[.float .f64 f1, .float .f64 f2]] w fun r w' => r = .returned (.agg #[.float .f64 g1, .float .f64 g2]) ∧ Put ⟨pb, 0, none⟩ (.int .i64 0) w w') ∧
    (∀ (pb : Nat) (w : World), w.cell? ⟨pb, 0, none⟩ = some (.int .i64 0) → w.frozen? ⟨pb, 0, none⟩ = false → Calls Try.prog 56 #[.pointer (some ⟨pb, 0, none⟩), .agg #[.float .f64 g1, .float .f64 g2]] w fun r w' => r = .returned (.agg #[.float .f64 h1, .float .f64 h2]) ∧ Put ⟨pb, 0, none⟩ (.int .i64 0) w w') ∧
    (∀ (pb : Nat) (w : World), w.cell? ⟨pb, 0, none⟩ = some (.int .i64 0) → w.frozen? ⟨pb, 0, none⟩ = false → Calls Try.prog 54 #[.pointer (some ⟨pb, 0, none⟩), .agg #[.float .f64 d1, .float .f64 d2], .agg #[.float .f64 h1, .float .f64 h2]] w fun r w' => r = .returned (.agg #[.float .f64 i1, .float .f64 i2]) ∧ Put ⟨pb, 0, none⟩ (.int .i64 0) w w') ∧
    ((FloatKind.f64.format.order d1 4614256656552045849 == some Ordering.lt) || (FloatKind.f64.format.order d1 4614256656552045849 == some Ordering.eq)) = true ∧
    ((FloatKind.f64.format.order i2 4614256656552045848 == some Ordering.gt) || (FloatKind.f64.format.order i2 4614256656552045848 == some Ordering.eq)) = true ∧
    (k < 12 ∨ ∃ r, floatBits .sub .f64 i2 d1 = some r ∧ (FloatKind.f64.format.order r 4517329193108106637 == some Ordering.lt) = true) := by
  have hr := ends_ok k hk
  unfold endOk at hr
  simp only [Bool.and_eq_true] at hr
  obtain ⟨⟨⟨⟨⟨⟨⟨⟨⟨⟨hA, hB⟩, hC⟩, hD⟩, hE⟩, hF⟩, hG⟩, hH⟩, o1⟩, o2⟩, o3⟩ := hr
  obtain ⟨l1, l2⟩ := side_small k (by omega)
  obtain ⟨xA, a1, a2⟩ := small_parts hA
  obtain ⟨xB, b1, b2⟩ := small_parts hB
  obtain ⟨xC, c1, c2⟩ := small_parts hC
  obtain ⟨xD, d1, d2⟩ := small_parts hD
  obtain ⟨xE, f1, f2⟩ := small_parts hE
  obtain ⟨xF, g1, g2⟩ := small_parts hF
  obtain ⟨xG, h1, h2⟩ := small_parts hG
  obtain ⟨xH, i1, i2⟩ := small_parts hH
  have ls : sidesW k < 18446744073709551616 := by unfold sidesW; omega
  refine ⟨_, _, _, _, _, _, _, _, _, _, _, _, _, _, _, _,
    fun pb w hc hf => told_small xA (cNum_any 0 (sidesW k) pb 0 w ls hc hf),
    fun pb w hc hf => told_small xB (cSqrt_any 0 _ _ pb 0 w l1 l2 hc hf),
    fun pb w hc hf => told_small xC (cMul_any 0 _ _ _ _ pb 0 w a1 a2 b1 b2 hc hf),
    fun pb w hc hf => told_small xD (cDiv_any 0 _ _ w2W w2W pb 0 w c1 c2 (by decide) (by decide) hc hf),
    fun pb w hc hf => told_small xE (cDiv_any 0 _ _ w4W w4W pb 0 w l1 l2 (by decide) (by decide) hc hf),
    fun pb w hc hf => told_small xF (cSub_any 0 w1W w1W _ _ pb 0 w (by decide) (by decide) f1 f2 hc hf),
    fun pb w hc hf => told_small xG (cSqrt_any 0 _ _ pb 0 w g1 g2 hc hf),
    fun pb w hc hf => told_small xH (cDiv_any 0 _ _ _ _ pb 0 w d1 d2 h1 h2 hc hf), o1, o2, ?_⟩
  rcases Bool.or_eq_true _ _ |>.mp o3 with h | h
  · exact Or.inl (of_decide_eq_true h)
  · right
    split at h
    · rename_i r hr'
      exact ⟨r, hr', h⟩
    · cases h

theorem farN {a b : Nat} (h : a < b) : ¬ b = a := by omega
theorem Mem.putMade {B v v' : World} {l : List (Nat × Array Value)} {b q : Nat} {x y : Value} {c : Array Value} (h : Mem B ((q, c) :: (b, #[x]) :: l) v) (hb : Put ⟨b, 0, none⟩ y v v') (hB : B.heap.size ≤ b) (hq : b ≠ q) (hl : ∀ p, p ∈ l → b ≠ p.1) : Mem B ((b, #[y]) :: (l ++ [(q, c)])) v' :=
  h.puts (h.nth 1 rfl) hb hB _ (fun p hp => by
    simp at hp
    rcases hp with e | e | e
    · exact Or.inl e
    · exact Or.inr ⟨List.mem_cons_of_mem _ (List.mem_cons_of_mem _ e), hl p e⟩
    · exact Or.inr ⟨by rw [e]; exact List.mem_cons_self .., by rw [e]; exact hq⟩)
theorem next_pi (w : World) : Calls Try.prog 25 #[.float .f64 4614256656552045848, .bool true] w fun r w' => r = .returned (.tuple #[.float .f64 4614256656552045849, .int .i64 0]) ∧ Below w.heap.size w w' :=
  next_lit 4614256656552045848 4614256656552045849 0 true w (by decide) (by decide +kernel) (by decide +kernel)
/-- Behind a value that is kept in a new block. -/
def KeptIn (w : World) (l : List (Nat × Array Value)) (m : Nat) (x y : Nat) (p : Value) (wx : World) : Prop :=
  ∃ q, p = .pointer (some ⟨q, 0, none⟩) ∧ m < q ∧ Mem w (l ++ [(q, #[.float .f64 x, .float .f64 y])]) wx

theorem l_num4 (pb : Nat) (w : World) (hc : w.cell? ⟨pb, 0, none⟩ = some (.int .i64 0)) (hf : w.frozen? ⟨pb, 0, none⟩ = false) :
    Calls Try.prog 53 #[.pointer (some ⟨pb, 0, none⟩), .float .f64 4616189618054758400] w fun r w' => r = .returned (.agg #[.float .f64 4616189618054758400, .float .f64 4616189618054758400]) ∧ Put ⟨pb, 0, none⟩ (.int .i64 0) w w' := by
  have h := cNum_any 0 4616189618054758400 pb 0 w (by decide) hc hf
  rw [show stepI 0 true (ofI 4616189618054758400) = ⟨0, 4616189618054758400, 4616189618054758400⟩ from res_eq (by decide +kernel)] at h
  exact h

set_option maxRecDepth 100000 in
set_option maxHeartbeats 8000000 in
theorem pi_law (n K : Nat) (w : World) (hn : n < 256) (hK : n % 21 = K) :
    Calls Try.prog 13 #[.int .u8 n] w fun r w' => r = .returned (.bool true) ∧ Below w.heap.size w w' := by
  have h0 : (0 : Int) ≤ n := by omega
  have h1 : (n : Int) ≤ 255 := by omega
  have HK : Hid ((n : Int) % 21 = (K : Int)) := by show (n : Int) % 21 = (K : Int); omega
  have hK1 : (K : Int) < 21 := by omega
  have M := Lib.hid ((Mem.nil w).made #[.int .i64 0] 47)
  clear hK hn
  go_enter Try.func13, Try.ntmps13
  go_wp2_with fail
  refine (l_num1 _ _ (M.out.nth 0 rfl).pc (M.out.nth 0 rfl).pf).mono ?_
  rintro r w1 ⟨rfl, hp⟩
  replace M := Lib.hid (M.out.put hp (Nat.le_refl _) (by simp))
  clear hp
  go_wp2_with fail
  refine (l_num2 _ _ (M.out.nth 0 rfl).pc (M.out.nth 0 rfl).pf).mono ?_
  rintro r w2 ⟨rfl, hp⟩
  replace M := Lib.hid (M.out.put hp (Nat.le_refl _) (by simp))
  have z1 : w.heap.size < w2.heap.size := M.out.size 0 rfl
  clear hp
  go_wp2_with fail
  replace M : Hid (Mem w [(w.heap.size, #[.int .i64 0]), (w2.heap.size, #[.float .f64 4607182418800017408, .float .f64 4607182418800017408]), (w2.heap.size + 1, #[.float .f64 4611686018427387904, .float .f64 4611686018427387904]), (w2.heap.size + 1 + 1, #[.float .f64 4607182418800017408, .float .f64 4607182418800017408])] (((w2.alloc (.cells #[.float .f64 4607182418800017408, .float .f64 4607182418800017408] 41)).alloc (.cells #[.float .f64 4611686018427387904, .float .f64 4611686018427387904] 41)).alloc (.cells #[.float .f64 4607182418800017408, .float .f64 4607182418800017408] 41))) := by
    have h := ((M.out.made #[.float .f64 4607182418800017408, .float .f64 4607182418800017408] 41).made #[.float .f64 4611686018427387904, .float .f64 4611686018427387904] 41).made #[.float .f64 4607182418800017408, .float .f64 4607182418800017408] 41
    simp only [World.size_alloc] at h
    exact Lib.hid (h.sub (by simp))
  rw [HK.out]
  go_loopw [8, 22] (PiRel w w2.heap.size (w2.heap.size + 1) (w2.heap.size + 1 + 1) K) (fun _ i _ => K - (intOf i).toNat)
  case atStart => exact ⟨0, Nat.zero_le _, rfl, rfl, M.out⟩
  case round =>
    clear M
    obtain ⟨k, hk, rfl, rfl, hM⟩ := hrel
    have M := Lib.hid hM
    clear hM
    by_cases hlt : k < K
    · obtain ⟨a1, a2, b1, b2, c1, c2, cS, cQ, cA, cD, hm⟩ := round_calls k (by omega)
      have CS := Lib.hid cS
      have CQ := Lib.hid cQ
      have CA := Lib.hid cA
      have CD := Lib.hid cD
      have hmul := fun t w => run_float_arith (P := Try.prog) (w := w) .mul t .f64 (sidesW k) 4611686018427387904 _ hm
      clear cS cQ cA cD hm
      go_upto_region 8 with fail
      have k1 := (M.out.nth 2 rfl).two.1
      have k2 := (M.out.nth 2 rfl).two.2
      have k3 := (M.out.nth 3 rfl).two.1
      have k4 := (M.out.nth 3 rfl).two.2
      replace M := Lib.hid M.out.drew
      refine wp_region_noPanic ?_
      refine tail_region (S := fun w' => w'.cell? ⟨w2.heap.size + 1, 0, none⟩ = some (.float .f64 4611686018427387904) ∧ w'.cell? ⟨w2.heap.size + 1, 1, none⟩ = some (.float .f64 4611686018427387904) ∧ w'.cell? ⟨w2.heap.size + 1 + 1, 0, none⟩ = some (.float .f64 (sideR k).lo) ∧ w'.cell? ⟨w2.heap.size + 1 + 1, 1, none⟩ = some (.float .f64 (sideR k).hi)) 8 (by kernel_rfl) ?_ (fun hS => ?_)
      · (first | (go_keep; done) | (dsimp only; go_keep))
      refine tail_take (L := 8) (i := 0) (o := { dst := some 24, op := Op.load 41 (Operand.tmp 7), type := 41, pos := "outright.go:162", after := #[], guard := none }) (x := ?_) rfl (by kernel_rfl) (by kernel_rfl) (by kernel_rfl) (by kernel_rfl) (fun _ _ _ h => h) (Or.inl ⟨by rfl, ?_⟩) (by assumption) ?_
      rotate_left; focus (intro w hSw; (try dsimp only at hSw); go_simp; first | done | with_reducible rfl)
      try simp only [Act.put, List.setIfInBounds_toArray, List.set_cons_zero, List.set_cons_succ]
      refine tail_take (L := 8) (i := 1) (o := { dst := some 25, op := Op.load 41 (Operand.tmp 6), type := 41, pos := "outright.go:162", after := #[], guard := none }) (x := ?_) rfl (by kernel_rfl) (by kernel_rfl) (by kernel_rfl) (by kernel_rfl) (fun _ _ _ h => h) (Or.inl ⟨by rfl, ?_⟩) (by assumption) ?_
      rotate_left; focus (intro w hSw; (try dsimp only at hSw); go_simp; first | done | with_reducible rfl)
      try simp only [Act.put, List.setIfInBounds_toArray, List.set_cons_zero, List.set_cons_succ]
      refine tail_take (L := 8) (i := 3) (o := { dst := some 27, op := Op.load 41 (Operand.tmp 7), type := 41, pos := "outright.go:162", after := #[], guard := none }) (x := ?_) rfl (by kernel_rfl) (by kernel_rfl) (by kernel_rfl) (by kernel_rfl) (fun _ _ _ h => h) (Or.inl ⟨by rfl, ?_⟩) (by assumption) ?_
      rotate_left; focus (intro w hSw; (try dsimp only at hSw); go_simp; first | done | with_reducible rfl)
      try simp only [Act.put, List.setIfInBounds_toArray, List.set_cons_zero, List.set_cons_succ]
      refine tail_one (L := 8) (i := 2) (o := { dst := some 26, op := Op.call { callee := Callee.value (Operand.func 53), args := #[Operand.tmp 3, Operand.const (Value.float FloatKind.f64 4616189618054758400)], argTypes := #[47, 22] }, type := 41, pos := "outright.go:162", after := #[], guard := none }) rfl (by kernel_rfl) (fun K hK => ?_)
      go_simp
      ((with_reducible refine (l_num4 _ _ (M.out.nth 0 rfl).pc (M.out.nth 0 rfl).pf).mono ?_); rintro rr w5 ⟨rfl, hp⟩; replace M := Lib.hid (M.out.put hp (Nat.le_refl _) (by simp; omega)); clear hp; clear k1 k2 k3 k4; have k1 := (M.out.nth 2 rfl).two.1; have k2 := (M.out.nth 2 rfl).two.2; have k3 := (M.out.nth 3 rfl).two.1; have k4 := (M.out.nth 3 rfl).two.2)
      try go_wp2_with fail
      refine hK.out _ _ (Or.inr ?_) (fun hHeld => ?_)
      · ((try dsimp only); go_keep)
      clear hK K hS
      have hS := hHeld.resolve_left (by decide)
      clear hHeld
      try simp only [Act.put, List.setIfInBounds_toArray, List.set_cons_zero, List.set_cons_succ]
      refine tail_one (L := 8) (i := 4) (o := { dst := some 28, op := Op.call { callee := Callee.value (Operand.func 57), args := #[Operand.tmp 3, Operand.tmp 26, Operand.tmp 27], argTypes := #[47, 41, 41] }, type := 41, pos := "outright.go:162", after := #[{ on := 2, ground := Ground.data }, { on := 3, ground := Ground.data }, { on := 2, ground := Ground.chain }], guard := none }) rfl (by kernel_rfl) (fun K hK => ?_)
      go_simp
      ((with_reducible refine (CS.out _ _ (M.out.nth 0 rfl).pc (M.out.nth 0 rfl).pf).mono ?_); rintro rr w5 ⟨rfl, hp⟩; replace M := Lib.hid (M.out.put hp (Nat.le_refl _) (by simp; omega)); clear hp; clear k1 k2 k3 k4; have k1 := (M.out.nth 2 rfl).two.1; have k2 := (M.out.nth 2 rfl).two.2; have k3 := (M.out.nth 3 rfl).two.1; have k4 := (M.out.nth 3 rfl).two.2)
      try go_wp2_with fail
      refine hK.out _ _ (Or.inr ?_) (fun hHeld => ?_)
      · ((try dsimp only); go_keep)
      clear hK K hS
      have hS := hHeld.resolve_left (by decide)
      clear hHeld
      try simp only [Act.put, List.setIfInBounds_toArray, List.set_cons_zero, List.set_cons_succ]
      refine tail_one (L := 8) (i := 5) (o := { dst := some 29, op := Op.call { callee := Callee.value (Operand.func 56), args := #[Operand.tmp 3, Operand.tmp 28], argTypes := #[47, 41] }, type := 41, pos := "outright.go:162", after := #[{ on := 4, ground := Ground.data }, { on := 4, ground := Ground.chain }], guard := none }) rfl (by kernel_rfl) (fun K hK => ?_)
      go_simp
      ((with_reducible refine (CQ.out _ _ (M.out.nth 0 rfl).pc (M.out.nth 0 rfl).pf).mono ?_); rintro rr w5 ⟨rfl, hp⟩; replace M := Lib.hid (M.out.put hp (Nat.le_refl _) (by simp; omega)); clear hp; clear k1 k2 k3 k4; have k1 := (M.out.nth 2 rfl).two.1; have k2 := (M.out.nth 2 rfl).two.2; have k3 := (M.out.nth 3 rfl).two.1; have k4 := (M.out.nth 3 rfl).two.2)
      try go_wp2_with fail
      refine hK.out _ _ (Or.inr ?_) (fun hHeld => ?_)
      · ((try dsimp only); go_keep)
      clear hK K hS
      have hS := hHeld.resolve_left (by decide)
      clear hHeld
      try simp only [Act.put, List.setIfInBounds_toArray, List.set_cons_zero, List.set_cons_succ]
      refine tail_one (L := 8) (i := 6) (o := { dst := some 30, op := Op.call { callee := Callee.value (Operand.func 55), args := #[Operand.tmp 3, Operand.tmp 25, Operand.tmp 29], argTypes := #[47, 41, 41] }, type := 41, pos := "outright.go:162", after := #[{ on := 1, ground := Ground.data }, { on := 5, ground := Ground.data }, { on := 5, ground := Ground.chain }], guard := none }) rfl (by kernel_rfl) (fun K hK => ?_)
      go_simp
      ((with_reducible refine (CA.out _ _ (M.out.nth 0 rfl).pc (M.out.nth 0 rfl).pf).mono ?_); rintro rr w5 ⟨rfl, hp⟩; replace M := Lib.hid (M.out.put hp (Nat.le_refl _) (by simp; omega)); clear hp; clear k1 k2 k3 k4; have k1 := (M.out.nth 2 rfl).two.1; have k2 := (M.out.nth 2 rfl).two.2; have k3 := (M.out.nth 3 rfl).two.1; have k4 := (M.out.nth 3 rfl).two.2)
      try go_wp2_with fail
      refine hK.out _ _ (Or.inr ?_) (fun hHeld => ?_)
      · ((try dsimp only); go_keep)
      clear hK K hS
      have hS := hHeld.resolve_left (by decide)
      clear hHeld
      try simp only [Act.put, List.setIfInBounds_toArray, List.set_cons_zero, List.set_cons_succ]
      refine tail_one (L := 8) (i := 7) (o := { dst := some 31, op := Op.call { callee := Callee.value (Operand.func 54), args := #[Operand.tmp 3, Operand.tmp 24, Operand.tmp 30], argTypes := #[47, 41, 41] }, type := 41, pos := "outright.go:162", after := #[{ on := 0, ground := Ground.data }, { on := 6, ground := Ground.data }, { on := 6, ground := Ground.chain }], guard := none }) rfl (by kernel_rfl) (fun K hK => ?_)
      go_simp
      ((with_reducible refine (CD.out _ _ (M.out.nth 0 rfl).pc (M.out.nth 0 rfl).pf).mono ?_); rintro rr w5 ⟨rfl, hp⟩; replace M := Lib.hid (M.out.put hp (Nat.le_refl _) (by simp; omega)); clear hp; clear k1 k2 k3 k4; have k1 := (M.out.nth 2 rfl).two.1; have k2 := (M.out.nth 2 rfl).two.2; have k3 := (M.out.nth 3 rfl).two.1; have k4 := (M.out.nth 3 rfl).two.2)
      try go_wp2_with fail
      refine hK.out _ _ (Or.inr ?_) (fun hHeld => ?_)
      · ((try dsimp only); go_keep)
      clear hK K hS
      have hS := hHeld.resolve_left (by decide)
      clear hHeld
      try simp only [Act.put, List.setIfInBounds_toArray, List.set_cons_zero, List.set_cons_succ]
      refine tail_one (L := 8) (i := 8) (o := { dst := none, op := Op.store 41 (Operand.tmp 7) (Operand.tmp 31), type := 0, pos := "outright.go:162", after := #[{ on := 7, ground := Ground.data }, { on := 7, ground := Ground.chain }, { on := 0, ground := Ground.phase }, { on := 1, ground := Ground.phase }, { on := 2, ground := Ground.phase }, { on := 3, ground := Ground.phase }, { on := 4, ground := Ground.phase }, { on := 5, ground := Ground.phase }, { on := 6, ground := Ground.phase }, { on := 7, ground := Ground.phase }], guard := none }) rfl (by kernel_rfl) (fun K hK => ?_)
      go_simp
      (have kf := (M.out.nth 3 rfl).2.2; have ks := (M.out.nth 3 rfl).2.1; go_simp)
      refine hK.out _ _ (Or.inl rfl) (fun hHeld => ?_)
      clear hK K hHeld
      try simp only [Act.put, List.setIfInBounds_toArray, List.set_cons_zero, List.set_cons_succ]
      refine tail_done (by kernel_rfl) ?_ _
      refine NoPanic.normal ?_
      replace M := Lib.hid (M.out.sets (M.out.nth 3 rfl) (.float .f64 (sideR (k + 1)).lo) (.float .f64 (sideR (k + 1)).hi) (by omega) [(w.heap.size, #[.int .i64 0]), (w2.heap.size, #[.float .f64 4607182418800017408, .float .f64 4607182418800017408]), (w2.heap.size + 1, #[.float .f64 4611686018427387904, .float .f64 4611686018427387904]), (w2.heap.size + 1 + 1, #[.float .f64 (sideR (k + 1)).lo, .float .f64 (sideR (k + 1)).hi])] (by simp; omega))
      clear k1 k2 k3 k4 hS
      go_wp2_with fail
      go_roundw
      case rel => exact ⟨k + 1, by omega, by go_num, rfl, M.out⟩
      case measure => simp [intOf]; omega
    · have hkK : k = K := by omega
      subst hkK
      obtain ⟨a1, a2, b1, b2, c1, c2, d1, d2, f1, f2, g1, g2, h1, h2, i1, i2, cA, cB, cC, cD, cE, cF, cG, cH, o1, o2, o3⟩ := end_calls k (by omega)
      have CA := Lib.hid cA
      have CB := Lib.hid cB
      have CC := Lib.hid cC
      have CD := Lib.hid cD
      have CE := Lib.hid cE
      have CF := Lib.hid cF
      have CG := Lib.hid cG
      have CH := Lib.hid cH
      have O1 := Lib.hid o1
      have O2 := Lib.hid o2
      have O3 := Lib.hid o3
      clear cA cB cC cD cE cF cG cH o1 o2 o3
      go_upto_region 11 with fail
      go_cut [9] (KeptIn w [(w.heap.size, #[.int .i64 0]), (w2.heap.size, #[.float .f64 4607182418800017408, .float .f64 4607182418800017408]), (w2.heap.size + 1, #[.float .f64 4611686018427387904, .float .f64 4611686018427387904]), (w2.heap.size + 1 + 1, #[.float .f64 (sideR k).lo, .float .f64 (sideR k).hi])] (w2.heap.size + 1 + 1) d1 d2)
      case first =>
        have M0 := M
        have k1 := (M.out.nth 2 rfl).two.1
        have k2 := (M.out.nth 2 rfl).two.2
        have k3 := (M.out.nth 3 rfl).two.1
        have k4 := (M.out.nth 3 rfl).two.2
        have z40 := M.out.size 2 rfl
        have z41 := M.out.size 3 rfl
        have y40 := farN z40
        have y41 := farN z41
        replace M := Lib.hid M.out.drew
        have T0 : Hid True := trivial
        go_region_held3 (fun w' => w'.cell? ⟨w2.heap.size + 1, 0, none⟩ = some (.float .f64 4611686018427387904) ∧ w'.cell? ⟨w2.heap.size + 1, 1, none⟩ = some (.float .f64 4611686018427387904) ∧ w'.cell? ⟨w2.heap.size + 1 + 1, 0, none⟩ = some (.float .f64 (sideR k).lo) ∧ w'.cell? ⟨w2.heap.size + 1 + 1, 1, none⟩ = some (.float .f64 (sideR k).hi)) (go_keep)
          (first
            | (go_at_call 53; have _t := T0; (with_reducible refine (CA.out _ _ (M.out.nth 0 rfl).pc (M.out.nth 0 rfl).pf).mono ?_); rintro rr w5 ⟨rfl, hp⟩; replace M := Lib.hid (M.out.put hp (Nat.le_refl _) (by simp; omega)); clear hp; clear k1 k2 k3 k4; have k1 := (M.out.nth 2 rfl).two.1; have k2 := (M.out.nth 2 rfl).two.2; have k3 := (M.out.nth 3 rfl).two.1; have k4 := (M.out.nth 3 rfl).two.2)
            | (go_at_call 53; have _t := T0; (with_reducible refine (CA.out _ _ ((M0.out.made _ _).drew.nth 1 rfl).pc ((M0.out.made _ _).drew.nth 1 rfl).pf).mono ?_); rintro rr w5 ⟨rfl, hp⟩; have n0 := farN (show _ < _ from (M0.out).size 2 rfl); have n1 := farN (show _ < _ from (M0.out).size 3 rfl); have hq := Lib.hid (M0.out.size 3 rfl); have hq0 := M0.out.size 0 rfl; replace M := Lib.hid ((M0.out.made _ _).drew.putMade hp (Nat.le_refl _) (by simp at hq0; omega) (by simp; omega)); clear hp T0 _t hq0; have T1 : Hid True := trivial; clear k1 k2 k3 k4; have k1 := (M.out.nth 2 rfl).two.1; have k2 := (M.out.nth 2 rfl).two.2; have k3 := (M.out.nth 3 rfl).two.1; have k4 := (M.out.nth 3 rfl).two.2; have q0 := (M.out.nth 4 rfl).two.1; have q1 := (M.out.nth 4 rfl).two.2; have qf := (M.out.nth 4 rfl).2.2)
            | (go_at_call 53; have _t := T0; (with_reducible refine (CA.out _ _ ((M.out.made _ _).nth 1 rfl).pc ((M.out.made _ _).nth 1 rfl).pf).mono ?_); rintro rr w5 ⟨rfl, hp⟩; have n0 := farN (show _ < _ from (M.out).size 2 rfl); have n1 := farN (show _ < _ from (M.out).size 3 rfl); have hq := Lib.hid (M.out.size 3 rfl); have hq0 := M.out.size 0 rfl; replace M := Lib.hid ((M.out.made _ _).putMade hp (Nat.le_refl _) (by simp at hq0; omega) (by simp; omega)); clear hp T0 _t hq0; have T1 : Hid True := trivial; clear k1 k2 k3 k4; have k1 := (M.out.nth 2 rfl).two.1; have k2 := (M.out.nth 2 rfl).two.2; have k3 := (M.out.nth 3 rfl).two.1; have k4 := (M.out.nth 3 rfl).two.2; have q0 := (M.out.nth 4 rfl).two.1; have q1 := (M.out.nth 4 rfl).two.2; have qf := (M.out.nth 4 rfl).2.2)
            | (go_at_call 53; have _t := T1; (with_reducible refine (CA.out _ _ (M.out.nth 0 rfl).pc (M.out.nth 0 rfl).pf).mono ?_); rintro rr w5 ⟨rfl, hp⟩; have hq' := hq.out; replace M := Lib.hid (M.out.put hp (Nat.le_refl _) (by simp at hq' ⊢; omega)); clear hp hq' q0 q1 qf; clear k1 k2 k3 k4; have k1 := (M.out.nth 2 rfl).two.1; have k2 := (M.out.nth 2 rfl).two.2; have k3 := (M.out.nth 3 rfl).two.1; have k4 := (M.out.nth 3 rfl).two.2; have q0 := (M.out.nth 4 rfl).two.1; have q1 := (M.out.nth 4 rfl).two.2; have qf := (M.out.nth 4 rfl).2.2)
            | (go_at_call 56; have _t := T0; (with_reducible refine (CB.out _ _ (M.out.nth 0 rfl).pc (M.out.nth 0 rfl).pf).mono ?_); rintro rr w5 ⟨rfl, hp⟩; replace M := Lib.hid (M.out.put hp (Nat.le_refl _) (by simp; omega)); clear hp; clear k1 k2 k3 k4; have k1 := (M.out.nth 2 rfl).two.1; have k2 := (M.out.nth 2 rfl).two.2; have k3 := (M.out.nth 3 rfl).two.1; have k4 := (M.out.nth 3 rfl).two.2)
            | (go_at_call 56; have _t := T0; (with_reducible refine (CB.out _ _ ((M.out.made _ _).nth 1 rfl).pc ((M.out.made _ _).nth 1 rfl).pf).mono ?_); rintro rr w5 ⟨rfl, hp⟩; have n0 := farN (show _ < _ from (M.out).size 2 rfl); have n1 := farN (show _ < _ from (M.out).size 3 rfl); have hq := Lib.hid (M.out.size 3 rfl); have hq0 := M.out.size 0 rfl; replace M := Lib.hid ((M.out.made _ _).putMade hp (Nat.le_refl _) (by simp at hq0; omega) (by simp; omega)); clear hp T0 _t hq0; have T1 : Hid True := trivial; clear k1 k2 k3 k4; have k1 := (M.out.nth 2 rfl).two.1; have k2 := (M.out.nth 2 rfl).two.2; have k3 := (M.out.nth 3 rfl).two.1; have k4 := (M.out.nth 3 rfl).two.2; have q0 := (M.out.nth 4 rfl).two.1; have q1 := (M.out.nth 4 rfl).two.2; have qf := (M.out.nth 4 rfl).2.2)
            | (go_at_call 56; have _t := T1; (with_reducible refine (CB.out _ _ (M.out.nth 0 rfl).pc (M.out.nth 0 rfl).pf).mono ?_); rintro rr w5 ⟨rfl, hp⟩; have hq' := hq.out; replace M := Lib.hid (M.out.put hp (Nat.le_refl _) (by simp at hq' ⊢; omega)); clear hp hq' q0 q1 qf; clear k1 k2 k3 k4; have k1 := (M.out.nth 2 rfl).two.1; have k2 := (M.out.nth 2 rfl).two.2; have k3 := (M.out.nth 3 rfl).two.1; have k4 := (M.out.nth 3 rfl).two.2; have q0 := (M.out.nth 4 rfl).two.1; have q1 := (M.out.nth 4 rfl).two.2; have qf := (M.out.nth 4 rfl).2.2)
            | (go_at_call 58; have _t := T0; (with_reducible refine (CC.out _ _ (M.out.nth 0 rfl).pc (M.out.nth 0 rfl).pf).mono ?_); rintro rr w5 ⟨rfl, hp⟩; replace M := Lib.hid (M.out.put hp (Nat.le_refl _) (by simp; omega)); clear hp; clear k1 k2 k3 k4; have k1 := (M.out.nth 2 rfl).two.1; have k2 := (M.out.nth 2 rfl).two.2; have k3 := (M.out.nth 3 rfl).two.1; have k4 := (M.out.nth 3 rfl).two.2)
            | (go_at_call 58; have _t := T0; (with_reducible refine (CC.out _ _ ((M.out.made _ _).nth 1 rfl).pc ((M.out.made _ _).nth 1 rfl).pf).mono ?_); rintro rr w5 ⟨rfl, hp⟩; have n0 := farN (show _ < _ from (M.out).size 2 rfl); have n1 := farN (show _ < _ from (M.out).size 3 rfl); have hq := Lib.hid (M.out.size 3 rfl); have hq0 := M.out.size 0 rfl; replace M := Lib.hid ((M.out.made _ _).putMade hp (Nat.le_refl _) (by simp at hq0; omega) (by simp; omega)); clear hp T0 _t hq0; have T1 : Hid True := trivial; clear k1 k2 k3 k4; have k1 := (M.out.nth 2 rfl).two.1; have k2 := (M.out.nth 2 rfl).two.2; have k3 := (M.out.nth 3 rfl).two.1; have k4 := (M.out.nth 3 rfl).two.2; have q0 := (M.out.nth 4 rfl).two.1; have q1 := (M.out.nth 4 rfl).two.2; have qf := (M.out.nth 4 rfl).2.2)
            | (go_at_call 58; have _t := T1; (with_reducible refine (CC.out _ _ (M.out.nth 0 rfl).pc (M.out.nth 0 rfl).pf).mono ?_); rintro rr w5 ⟨rfl, hp⟩; have hq' := hq.out; replace M := Lib.hid (M.out.put hp (Nat.le_refl _) (by simp at hq' ⊢; omega)); clear hp hq' q0 q1 qf; clear k1 k2 k3 k4; have k1 := (M.out.nth 2 rfl).two.1; have k2 := (M.out.nth 2 rfl).two.2; have k3 := (M.out.nth 3 rfl).two.1; have k4 := (M.out.nth 3 rfl).two.2; have q0 := (M.out.nth 4 rfl).two.1; have q1 := (M.out.nth 4 rfl).two.2; have qf := (M.out.nth 4 rfl).2.2)
            | (go_at_call 54; have _t := T0; (with_reducible refine (CD.out _ _ (M.out.nth 0 rfl).pc (M.out.nth 0 rfl).pf).mono ?_); rintro rr w5 ⟨rfl, hp⟩; replace M := Lib.hid (M.out.put hp (Nat.le_refl _) (by simp; omega)); clear hp; clear k1 k2 k3 k4; have k1 := (M.out.nth 2 rfl).two.1; have k2 := (M.out.nth 2 rfl).two.2; have k3 := (M.out.nth 3 rfl).two.1; have k4 := (M.out.nth 3 rfl).two.2)
            | (go_at_call 54; have _t := T0; (with_reducible refine (CD.out _ _ ((M.out.made _ _).nth 1 rfl).pc ((M.out.made _ _).nth 1 rfl).pf).mono ?_); rintro rr w5 ⟨rfl, hp⟩; have n0 := farN (show _ < _ from (M.out).size 2 rfl); have n1 := farN (show _ < _ from (M.out).size 3 rfl); have hq := Lib.hid (M.out.size 3 rfl); have hq0 := M.out.size 0 rfl; replace M := Lib.hid ((M.out.made _ _).putMade hp (Nat.le_refl _) (by simp at hq0; omega) (by simp; omega)); clear hp T0 _t hq0; have T1 : Hid True := trivial; clear k1 k2 k3 k4; have k1 := (M.out.nth 2 rfl).two.1; have k2 := (M.out.nth 2 rfl).two.2; have k3 := (M.out.nth 3 rfl).two.1; have k4 := (M.out.nth 3 rfl).two.2; have q0 := (M.out.nth 4 rfl).two.1; have q1 := (M.out.nth 4 rfl).two.2; have qf := (M.out.nth 4 rfl).2.2)
            | (go_at_call 54; have _t := T1; (with_reducible refine (CD.out _ _ (M.out.nth 0 rfl).pc (M.out.nth 0 rfl).pf).mono ?_); rintro rr w5 ⟨rfl, hp⟩; have hq' := hq.out; replace M := Lib.hid (M.out.put hp (Nat.le_refl _) (by simp at hq' ⊢; omega)); clear hp hq' q0 q1 qf; clear k1 k2 k3 k4; have k1 := (M.out.nth 2 rfl).two.1; have k2 := (M.out.nth 2 rfl).two.2; have k3 := (M.out.nth 3 rfl).two.1; have k4 := (M.out.nth 3 rfl).two.2; have q0 := (M.out.nth 4 rfl).two.1; have q1 := (M.out.nth 4 rfl).two.2; have qf := (M.out.nth 4 rfl).2.2))
        all_goals (go_wp2_with fail; go_meet)
        all_goals first | exact ⟨_, rfl, M.out.size 3 rfl, (M.out.made _ _).sub (by simp)⟩ | exact ⟨_, rfl, hq.out, M.out.sets (M.out.nth 4 rfl) _ _ (by have hh : w2.heap.size + 1 + 1 < _ := hq.out; omega) _ (by have hh : w2.heap.size + 1 + 1 < _ := hq.out; simp; omega)⟩
      case rest =>
        clear M
        obtain ⟨w6, rfl⟩ : ∃ x : World, x = wc := ⟨_, rfl⟩
        obtain ⟨q9, rfl, hq9, hM⟩ := hcut
        have M : Hid (Mem w [(w.heap.size, #[.int .i64 0]), (w2.heap.size, #[.float .f64 4607182418800017408, .float .f64 4607182418800017408]), (w2.heap.size + 1, #[.float .f64 4611686018427387904, .float .f64 4611686018427387904]), (w2.heap.size + 1 + 1, #[.float .f64 (sideR k).lo, .float .f64 (sideR k).hi]), (q9, #[.float .f64 d1, .float .f64 d2])] w6) := Lib.hid hM
        clear hM
        go_upto_region 12 with fail
        go_cut [10] (KeptIn w [(w.heap.size, #[.int .i64 0]), (w2.heap.size, #[.float .f64 4607182418800017408, .float .f64 4607182418800017408]), (w2.heap.size + 1, #[.float .f64 4611686018427387904, .float .f64 4611686018427387904]), (w2.heap.size + 1 + 1, #[.float .f64 (sideR k).lo, .float .f64 (sideR k).hi]), (q9, #[.float .f64 d1, .float .f64 d2])] (q9) h1 h2)
        case first =>
          have M0 := M
          have k1 := (M.out.nth 1 rfl).two.1
          have k2 := (M.out.nth 1 rfl).two.2
          have k3 := (M.out.nth 3 rfl).two.1
          have k4 := (M.out.nth 3 rfl).two.2
          have z40 := M.out.size 1 rfl
          have z41 := M.out.size 3 rfl
          have y40 := farN z40
          have y41 := farN z41
          replace M := Lib.hid M.out.drew
          have T0 : Hid True := trivial
          go_region_held3 (fun w' => w'.cell? ⟨w2.heap.size, 0, none⟩ = some (.float .f64 4607182418800017408) ∧ w'.cell? ⟨w2.heap.size, 1, none⟩ = some (.float .f64 4607182418800017408) ∧ w'.cell? ⟨w2.heap.size + 1 + 1, 0, none⟩ = some (.float .f64 (sideR k).lo) ∧ w'.cell? ⟨w2.heap.size + 1 + 1, 1, none⟩ = some (.float .f64 (sideR k).hi)) (go_keep)
            (first
              | (go_at_call 53; have _t := T0; (with_reducible refine (l_num4 _ _ (M.out.nth 0 rfl).pc (M.out.nth 0 rfl).pf).mono ?_); rintro rr w5 ⟨rfl, hp⟩; replace M := Lib.hid (M.out.put hp (Nat.le_refl _) (by simp; omega)); clear hp; clear k1 k2 k3 k4; have k1 := (M.out.nth 1 rfl).two.1; have k2 := (M.out.nth 1 rfl).two.2; have k3 := (M.out.nth 3 rfl).two.1; have k4 := (M.out.nth 3 rfl).two.2)
              | (go_at_call 53; have _t := T0; (with_reducible refine (l_num4 _ _ ((M0.out.made _ _).drew.nth 1 rfl).pc ((M0.out.made _ _).drew.nth 1 rfl).pf).mono ?_); rintro rr w5 ⟨rfl, hp⟩; have n0 := farN (show _ < _ from (M0.out).size 1 rfl); have n1 := farN (show _ < _ from (M0.out).size 3 rfl); have hq := Lib.hid (M0.out.size 4 rfl); have hq0 := M0.out.size 0 rfl; replace M := Lib.hid ((M0.out.made _ _).drew.putMade hp (Nat.le_refl _) (by simp at hq0; omega) (by simp; omega)); clear hp T0 _t hq0; have T1 : Hid True := trivial; clear k1 k2 k3 k4; have k1 := (M.out.nth 1 rfl).two.1; have k2 := (M.out.nth 1 rfl).two.2; have k3 := (M.out.nth 3 rfl).two.1; have k4 := (M.out.nth 3 rfl).two.2; have q0 := (M.out.nth 5 rfl).two.1; have q1 := (M.out.nth 5 rfl).two.2; have qf := (M.out.nth 5 rfl).2.2)
              | (go_at_call 53; have _t := T0; (with_reducible refine (l_num4 _ _ ((M.out.made _ _).nth 1 rfl).pc ((M.out.made _ _).nth 1 rfl).pf).mono ?_); rintro rr w5 ⟨rfl, hp⟩; have n0 := farN (show _ < _ from (M.out).size 1 rfl); have n1 := farN (show _ < _ from (M.out).size 3 rfl); have hq := Lib.hid (M.out.size 4 rfl); have hq0 := M.out.size 0 rfl; replace M := Lib.hid ((M.out.made _ _).putMade hp (Nat.le_refl _) (by simp at hq0; omega) (by simp; omega)); clear hp T0 _t hq0; have T1 : Hid True := trivial; clear k1 k2 k3 k4; have k1 := (M.out.nth 1 rfl).two.1; have k2 := (M.out.nth 1 rfl).two.2; have k3 := (M.out.nth 3 rfl).two.1; have k4 := (M.out.nth 3 rfl).two.2; have q0 := (M.out.nth 5 rfl).two.1; have q1 := (M.out.nth 5 rfl).two.2; have qf := (M.out.nth 5 rfl).2.2)
              | (go_at_call 53; have _t := T1; (with_reducible refine (l_num4 _ _ (M.out.nth 0 rfl).pc (M.out.nth 0 rfl).pf).mono ?_); rintro rr w5 ⟨rfl, hp⟩; have hq' := hq.out; replace M := Lib.hid (M.out.put hp (Nat.le_refl _) (by simp at hq' ⊢; omega)); clear hp hq' q0 q1 qf; clear k1 k2 k3 k4; have k1 := (M.out.nth 1 rfl).two.1; have k2 := (M.out.nth 1 rfl).two.2; have k3 := (M.out.nth 3 rfl).two.1; have k4 := (M.out.nth 3 rfl).two.2; have q0 := (M.out.nth 5 rfl).two.1; have q1 := (M.out.nth 5 rfl).two.2; have qf := (M.out.nth 5 rfl).2.2)
              | (go_at_call 54; have _t := T0; (with_reducible refine (CE.out _ _ (M.out.nth 0 rfl).pc (M.out.nth 0 rfl).pf).mono ?_); rintro rr w5 ⟨rfl, hp⟩; replace M := Lib.hid (M.out.put hp (Nat.le_refl _) (by simp; omega)); clear hp; clear k1 k2 k3 k4; have k1 := (M.out.nth 1 rfl).two.1; have k2 := (M.out.nth 1 rfl).two.2; have k3 := (M.out.nth 3 rfl).two.1; have k4 := (M.out.nth 3 rfl).two.2)
              | (go_at_call 54; have _t := T0; (with_reducible refine (CE.out _ _ ((M.out.made _ _).nth 1 rfl).pc ((M.out.made _ _).nth 1 rfl).pf).mono ?_); rintro rr w5 ⟨rfl, hp⟩; have n0 := farN (show _ < _ from (M.out).size 1 rfl); have n1 := farN (show _ < _ from (M.out).size 3 rfl); have hq := Lib.hid (M.out.size 4 rfl); have hq0 := M.out.size 0 rfl; replace M := Lib.hid ((M.out.made _ _).putMade hp (Nat.le_refl _) (by simp at hq0; omega) (by simp; omega)); clear hp T0 _t hq0; have T1 : Hid True := trivial; clear k1 k2 k3 k4; have k1 := (M.out.nth 1 rfl).two.1; have k2 := (M.out.nth 1 rfl).two.2; have k3 := (M.out.nth 3 rfl).two.1; have k4 := (M.out.nth 3 rfl).two.2; have q0 := (M.out.nth 5 rfl).two.1; have q1 := (M.out.nth 5 rfl).two.2; have qf := (M.out.nth 5 rfl).2.2)
              | (go_at_call 54; have _t := T1; (with_reducible refine (CE.out _ _ (M.out.nth 0 rfl).pc (M.out.nth 0 rfl).pf).mono ?_); rintro rr w5 ⟨rfl, hp⟩; have hq' := hq.out; replace M := Lib.hid (M.out.put hp (Nat.le_refl _) (by simp at hq' ⊢; omega)); clear hp hq' q0 q1 qf; clear k1 k2 k3 k4; have k1 := (M.out.nth 1 rfl).two.1; have k2 := (M.out.nth 1 rfl).two.2; have k3 := (M.out.nth 3 rfl).two.1; have k4 := (M.out.nth 3 rfl).two.2; have q0 := (M.out.nth 5 rfl).two.1; have q1 := (M.out.nth 5 rfl).two.2; have qf := (M.out.nth 5 rfl).2.2)
              | (go_at_call 57; have _t := T0; (with_reducible refine (CF.out _ _ (M.out.nth 0 rfl).pc (M.out.nth 0 rfl).pf).mono ?_); rintro rr w5 ⟨rfl, hp⟩; replace M := Lib.hid (M.out.put hp (Nat.le_refl _) (by simp; omega)); clear hp; clear k1 k2 k3 k4; have k1 := (M.out.nth 1 rfl).two.1; have k2 := (M.out.nth 1 rfl).two.2; have k3 := (M.out.nth 3 rfl).two.1; have k4 := (M.out.nth 3 rfl).two.2)
              | (go_at_call 57; have _t := T0; (with_reducible refine (CF.out _ _ ((M.out.made _ _).nth 1 rfl).pc ((M.out.made _ _).nth 1 rfl).pf).mono ?_); rintro rr w5 ⟨rfl, hp⟩; have n0 := farN (show _ < _ from (M.out).size 1 rfl); have n1 := farN (show _ < _ from (M.out).size 3 rfl); have hq := Lib.hid (M.out.size 4 rfl); have hq0 := M.out.size 0 rfl; replace M := Lib.hid ((M.out.made _ _).putMade hp (Nat.le_refl _) (by simp at hq0; omega) (by simp; omega)); clear hp T0 _t hq0; have T1 : Hid True := trivial; clear k1 k2 k3 k4; have k1 := (M.out.nth 1 rfl).two.1; have k2 := (M.out.nth 1 rfl).two.2; have k3 := (M.out.nth 3 rfl).two.1; have k4 := (M.out.nth 3 rfl).two.2; have q0 := (M.out.nth 5 rfl).two.1; have q1 := (M.out.nth 5 rfl).two.2; have qf := (M.out.nth 5 rfl).2.2)
              | (go_at_call 57; have _t := T1; (with_reducible refine (CF.out _ _ (M.out.nth 0 rfl).pc (M.out.nth 0 rfl).pf).mono ?_); rintro rr w5 ⟨rfl, hp⟩; have hq' := hq.out; replace M := Lib.hid (M.out.put hp (Nat.le_refl _) (by simp at hq' ⊢; omega)); clear hp hq' q0 q1 qf; clear k1 k2 k3 k4; have k1 := (M.out.nth 1 rfl).two.1; have k2 := (M.out.nth 1 rfl).two.2; have k3 := (M.out.nth 3 rfl).two.1; have k4 := (M.out.nth 3 rfl).two.2; have q0 := (M.out.nth 5 rfl).two.1; have q1 := (M.out.nth 5 rfl).two.2; have qf := (M.out.nth 5 rfl).2.2)
              | (go_at_call 56; have _t := T0; (with_reducible refine (CG.out _ _ (M.out.nth 0 rfl).pc (M.out.nth 0 rfl).pf).mono ?_); rintro rr w5 ⟨rfl, hp⟩; replace M := Lib.hid (M.out.put hp (Nat.le_refl _) (by simp; omega)); clear hp; clear k1 k2 k3 k4; have k1 := (M.out.nth 1 rfl).two.1; have k2 := (M.out.nth 1 rfl).two.2; have k3 := (M.out.nth 3 rfl).two.1; have k4 := (M.out.nth 3 rfl).two.2)
              | (go_at_call 56; have _t := T0; (with_reducible refine (CG.out _ _ ((M.out.made _ _).nth 1 rfl).pc ((M.out.made _ _).nth 1 rfl).pf).mono ?_); rintro rr w5 ⟨rfl, hp⟩; have n0 := farN (show _ < _ from (M.out).size 1 rfl); have n1 := farN (show _ < _ from (M.out).size 3 rfl); have hq := Lib.hid (M.out.size 4 rfl); have hq0 := M.out.size 0 rfl; replace M := Lib.hid ((M.out.made _ _).putMade hp (Nat.le_refl _) (by simp at hq0; omega) (by simp; omega)); clear hp T0 _t hq0; have T1 : Hid True := trivial; clear k1 k2 k3 k4; have k1 := (M.out.nth 1 rfl).two.1; have k2 := (M.out.nth 1 rfl).two.2; have k3 := (M.out.nth 3 rfl).two.1; have k4 := (M.out.nth 3 rfl).two.2; have q0 := (M.out.nth 5 rfl).two.1; have q1 := (M.out.nth 5 rfl).two.2; have qf := (M.out.nth 5 rfl).2.2)
              | (go_at_call 56; have _t := T1; (with_reducible refine (CG.out _ _ (M.out.nth 0 rfl).pc (M.out.nth 0 rfl).pf).mono ?_); rintro rr w5 ⟨rfl, hp⟩; have hq' := hq.out; replace M := Lib.hid (M.out.put hp (Nat.le_refl _) (by simp at hq' ⊢; omega)); clear hp hq' q0 q1 qf; clear k1 k2 k3 k4; have k1 := (M.out.nth 1 rfl).two.1; have k2 := (M.out.nth 1 rfl).two.2; have k3 := (M.out.nth 3 rfl).two.1; have k4 := (M.out.nth 3 rfl).two.2; have q0 := (M.out.nth 5 rfl).two.1; have q1 := (M.out.nth 5 rfl).two.2; have qf := (M.out.nth 5 rfl).2.2))
          all_goals (go_wp2_with fail; go_meet)
          all_goals first | exact ⟨_, rfl, M.out.size 4 rfl, (M.out.made _ _).sub (by simp)⟩ | exact ⟨_, rfl, hq.out, M.out.sets (M.out.nth 5 rfl) _ _ (by have hh : q9 < _ := hq.out; omega) _ (by have hh : q9 < _ := hq.out; simp; omega)⟩
        case rest =>
          clear M
          obtain ⟨w7, rfl⟩ : ∃ x : World, x = wc := ⟨_, rfl⟩
          obtain ⟨q10, rfl, hq10, hM⟩ := hcut
          have M : Hid (Mem w [(w.heap.size, #[.int .i64 0]), (q9, #[.float .f64 d1, .float .f64 d2]), (q10, #[.float .f64 h1, .float .f64 h2])] w7) := Lib.hid (hM.sub (by simp))
          clear hM
          have c1 := (M.out.nth 1 rfl).2.1
          have c2 := (M.out.nth 2 rfl).2.1
          go_wp2_with fail
          refine (CH.out _ _ (M.out.nth 0 rfl).pc (M.out.nth 0 rfl).pf).mono ?_
          rintro rr w8 ⟨rfl, hp⟩
          replace M := Lib.hid (M.out.put hp (Nat.le_refl _) (by simp; omega))
          have z8 : q10 < w8.heap.size := M.out.size 2 rfl
          clear hp c1 c2
          replace M : Hid (Mem w [(w.heap.size, #[.int .i64 0]), (q9, #[.float .f64 d1, .float .f64 d2]), (w8.heap.size, #[.float .f64 i1, .float .f64 i2])] (w8.alloc (.cells #[.float .f64 i1, .float .f64 i2] 41))) := Lib.hid ((M.out.made _ _).sub (by simp))
          go_wp2_with fail
          refine (pi_any _).mono ?_
          rintro rr w9 ⟨rfl, hb⟩
          replace M := Lib.hid (M.out.below hb)
          have z9 : w8.heap.size < w9.heap.size := M.out.size 2 rfl
          clear hb
          replace M : Hid (Mem w [(w.heap.size, #[.int .i64 0]), (q9, #[.float .f64 d1, .float .f64 d2]), (w8.heap.size, #[.float .f64 i1, .float .f64 i2]), (w9.heap.size, #[.float .f64 4614256656552045848, .float .f64 4614256656552045849])] (w9.alloc (.cells #[.float .f64 4614256656552045848, .float .f64 4614256656552045849] 41))) := Lib.hid ((M.out.made _ _).sub (by simp))
          go_wp2_with fail
          refine (next_pi _).mono ?_
          rintro rr w10 ⟨rfl, hb⟩
          replace M := Lib.hid (M.out.below hb)
          clear hb
          have x1 := (M.out.nth 1 rfl).2.1
          have x2 := (M.out.nth 2 rfl).2.1
          have x3 := (M.out.nth 3 rfl).2.1
          have o0 : (FloatKind.f64.format.order 4614256656552045849 4614256656552045849 == some Ordering.eq) = true := by decide +kernel
          have o1 := O1.out
          have o2 := O2.out
          by_cases h12 : k < 12
          · have h12' : decide ((k : Int) < 12) = true := by simp; omega
            go_wp2_with fail
            refine (err_any 0 w.heap.size 0 _ (M.out.nth 0 rfl).pc).mono ?_
            rintro rr w11 ⟨rfl, rfl⟩
            go_wp2_with fail
            refine (awake2_any _).mono ?_
            rintro rr w12 ⟨rfl, hb⟩
            replace M := Lib.hid (M.out.below hb)
            clear hb x1 x2 x3
            go_wp2
            go_ret
            exact ⟨rfl, M.out.base⟩
          · have h12' : decide ((k : Int) < 12) = false := by simp; omega
            obtain ⟨r, hr, o3⟩ : ∃ r, floatBits .sub .f64 i2 d1 = some r ∧ (FloatKind.f64.format.order r 4517329193108106637 == some Ordering.lt) = true := by
              rcases O3.out with h | h
              · exact absurd h h12
              · exact h
            have hsub := fun t w => run_float_arith (P := Try.prog) (w := w) .sub t .f64 i2 d1 _ hr
            clear hr
            go_wp2_with fail
            refine (err_any 0 w.heap.size 0 _ (M.out.nth 0 rfl).pc).mono ?_
            rintro rr w11 ⟨rfl, rfl⟩
            go_wp2_with fail
            refine (awake2_any _).mono ?_
            rintro rr w12 ⟨rfl, hb⟩
            replace M := Lib.hid (M.out.below hb)
            clear hb x1 x2 x3
            go_wp2
            go_ret
            exact ⟨rfl, M.out.base⟩

end Go.Proofs.Ytecgialgahcabaa
