
/- Sums and differences of words: the nearest one; what a sum lacks, worked out of words. No program is named here. -/
import Derived.Test.YtmcecchcbfhfcaaRefD
namespace Go.Proofs.Ytmcecchcbfhfcaa
open Go.RowKit

/-- The nearest word to T. -/
structure NearW (T : Int) (r : Nat) : Prop where
  lt : r < 18446744073709551616
  le : rung r ≤ 9218868437227405312
  fin : rung r < 9218868437227405312 → Best T (val r)
  big : rung r = 9218868437227405312 → (sgnB r = false ∧ (steps 9218868437227405311 : Int) < T) ∨ (sgnB r = true ∧ T < -(steps 9218868437227405311 : Int))

theorem word_top (neg : Bool) (R : Nat) (h : 9218868437227405312 ≤ R) : Ieee.double.word neg (min R 9218868437227405312) < 18446744073709551616 ∧ rung (Ieee.double.word neg (min R 9218868437227405312)) = 9218868437227405312 ∧ sgnB (Ieee.double.word neg (min R 9218868437227405312)) = neg := by
  rw [Nat.min_eq_right h]
  cases neg <;> decide +kernel

theorem nearest_w (neg : Bool) (mag : Nat) (place : Int) (Tm : Nat) (hp : -6000 ≤ place) (h : real mag place = Tm * 2 ^ sc) : NearW (sg neg Tm) (Ieee.double.nearest neg mag place) := by
  have hP : 0 < 2 ^ sc := Nat.two_pow_pos _
  obtain ⟨R, e, h2, h3⟩ : ∃ R, Ieee.double.nearest neg mag place = Ieee.double.word neg (min R 9218868437227405312) ∧ (∀ r, Tm ≤ steps r → R ≤ r) ∧ ∀ r, ((Tm : Int) - (steps R : Int)).natAbs ≤ ((Tm : Int) - (steps r : Int)).natAbs := by
    by_cases h0 : mag = 0
    · subst h0
      have hz : Tm = 0 := by
        have : real 0 place = 0 := Nat.zero_mul _
        rw [this] at h
        rcases Nat.mul_eq_zero.1 h.symm with g | g
        · exact g
        · omega
      subst hz
      refine ⟨0, ?_, fun r _ => Nat.zero_le _, fun r => ?_⟩
      · unfold Ieee.Format.nearest; rw [if_pos rfl]; rfl
      · rw [steps_nil]; simp
    · obtain ⟨R, e, h1, h2, h3⟩ := near_best neg mag place h0 hp
      refine ⟨R, e, fun r hr => h2 r (by rw [h]; exact Nat.mul_le_mul_right _ hr), fun r => ?_⟩
      have k := h3 r
      rw [h] at k
      have m : ∀ x : Nat, (((Tm * 2 ^ sc : Nat) : Int) - ((x * 2 ^ sc : Nat) : Int)).natAbs = ((Tm : Int) - (x : Int)).natAbs * 2 ^ sc := fun x => by
        rw [Int.natCast_mul, Int.natCast_mul, ← Int.sub_mul, Int.natAbs_mul, Int.natAbs_natCast]
      rw [m, m] at k
      exact Nat.le_of_mul_le_mul_right k hP
  rw [e]
  rcases Nat.lt_or_ge R 9218868437227405312 with g | g
  · obtain ⟨w1, w2, w3⟩ := word_sw neg R g
    refine ⟨w1, by omega, fun _ => by rw [w3]; exact best_of neg Tm R h3, fun hb => by omega⟩
  · obtain ⟨w1, w2, w3⟩ := word_top neg R g
    refine ⟨w1, by omega, fun hb => by omega, fun _ => ?_⟩
    have ht : steps 9218868437227405311 < Tm := by
      rcases Nat.lt_or_ge (steps 9218868437227405311) Tm with q | q
      · exact q
      · have := h2 _ q; omega
    rw [w3]
    cases neg
    · exact Or.inl ⟨rfl, by show _ < (Tm : Int); omega⟩
    · exact Or.inr ⟨rfl, by show -(Tm : Int) < _; omega⟩

theorem sum_w (s t : Bool) (a b : Nat) (xa : -1074 ≤ expo a) (xb : -1074 ≤ expo b) :
    ∃ r, ((Ieee.Datum.number s (mant a) (expo a)).sum (.number t (mant b) (expo b))).map Ieee.double.write = some r ∧ NearW (sg s (steps (rung a)) + sg t (steps (rung b))) r := by
  have hs := sc_eq
  obtain ⟨base, hbase⟩ : ∃ base : Int, base = min (expo a) (expo b) := ⟨_, rfl⟩
  obtain ⟨total, htot⟩ : ∃ total : Int, total = Ieee.signed s (mant a) (expo a - base).toNat + Ieee.signed t (mant b) (expo b - base).toNat := ⟨_, rfl⟩
  have e1 : sg s (steps (rung a)) = Ieee.signed s (mant a) (expo a - base).toNat * ((2 ^ (base + 1074).toNat : Nat) : Int) := by
    rw [← signed_mul, show (expo a - base).toNat + (base + 1074).toNat = (expo a + 1074).toNat by omega]
    unfold Ieee.signed sg; rw [steps_parts, Nat.shiftLeft_eq]
  have e2 : sg t (steps (rung b)) = Ieee.signed t (mant b) (expo b - base).toNat * ((2 ^ (base + 1074).toNat : Nat) : Int) := by
    rw [← signed_mul, show (expo b - base).toNat + (base + 1074).toNat = (expo b + 1074).toNat by omega]
    unfold Ieee.signed sg; rw [steps_parts, Nat.shiftLeft_eq]
  have eT : sg s (steps (rung a)) + sg t (steps (rung b)) = total * ((2 ^ (base + 1074).toNat : Nat) : Int) := by
    rw [e1, e2, htot, Int.add_mul]
  refine ⟨Ieee.double.nearest (if total = 0 then s && t else decide (total < 0)) total.natAbs base, ?_, ?_⟩
  · unfold Ieee.Datum.sum
    simp only [← hbase, ← htot]
    rfl
  · have eS : sg s (steps (rung a)) + sg t (steps (rung b)) = sg (if total = 0 then s && t else decide (total < 0)) (total.natAbs * 2 ^ (base + 1074).toNat) := by
      rw [eT]
      by_cases h0 : total = 0
      · rw [h0, if_pos rfl, Int.zero_mul]
        cases (s && t) <;> simp [sg]
      · rw [if_neg h0]
        by_cases h1 : total < 0
        · rw [decide_eq_true h1]
          show _ = -((total.natAbs * 2 ^ (base + 1074).toNat : Nat) : Int)
          rw [Int.natCast_mul, ← Int.neg_mul]; congr 1; omega
        · rw [decide_eq_false h1]
          show _ = ((total.natAbs * 2 ^ (base + 1074).toNat : Nat) : Int)
          rw [Int.natCast_mul]; congr 1; omega
    rw [eS]
    exact nearest_w _ _ _ _ (by omega) (by unfold real; rw [Nat.mul_assoc, ← Nat.pow_add]; congr 2; omega)

theorem add_w (a b : Nat) (ha : a < 18446744073709551616) (hb : b < 18446744073709551616) (ra : rung a < 9218868437227405312) (rb : rung b < 9218868437227405312) :
    ∃ r, floatBits .add .f64 a b = some r ∧ NearW (val a + val b) r := by
  obtain ⟨r, h1, h2⟩ := sum_w (sgnB a) (sgnB b) a b (expo_ge a) (expo_ge b)
  refine ⟨r, ?_, h2⟩
  show ((Ieee.double.read a).sum (Ieee.double.read b)).map Ieee.double.write = _
  rw [read_num a ha ra, read_num b hb rb]
  exact h1
theorem sub_w (a b : Nat) (ha : a < 18446744073709551616) (hb : b < 18446744073709551616) (ra : rung a < 9218868437227405312) (rb : rung b < 9218868437227405312) :
    ∃ r, floatBits .sub .f64 a b = some r ∧ NearW (val a - val b) r := by
  obtain ⟨r, h1, h2⟩ := sum_w (sgnB a) (!sgnB b) a b (expo_ge a) (expo_ge b)
  refine ⟨r, ?_, ?_⟩
  · show ((Ieee.double.read a).sum (Ieee.double.read b).opposite).map Ieee.double.write = _
    rw [read_num a ha ra, read_num b hb rb]
    exact h1
  · rw [neg_sg, ← Int.sub_eq_add_neg] at h2
    exact h2

theorem rep_val (d : Nat) : Rep (val d) := ⟨rung d, by unfold val; split <;> omega⟩
theorem NearW.faith {T : Int} {r : Nat} (N : NearW T r) : Faith 1 T r where
  lt := N.lt
  le := N.le
  low := fun h d _ _ hle => by
    have := (N.fin h).best _ (rep_val d)
    omega
  high := fun h d _ _ hle => by
    have := (N.fin h).best _ (rep_val d)
    omega
  pinf := fun h hs d _ rd => by
    have h1 := val_in d (right_rung d rd)
    rcases N.big h with ⟨_, g⟩ | ⟨g, _⟩
    · omega
    · rw [hs] at g; cases g
  ninf := fun h hs d _ rd => by
    have h1 := val_in d (right_rung d rd)
    rcases N.big h with ⟨g, _⟩ | ⟨_, g⟩
    · rw [hs] at g; cases g
    · omega
theorem NearW.small {T : Int} {r : Nat} (N : NearW T r) (h : T.natAbs ≤ steps 9218868437227405311) : rung r < 9218868437227405312 := by
  have h1 := N.le
  rcases Nat.lt_or_ge (rung r) 9218868437227405312 with g | g
  · exact g
  · rcases N.big (by omega) with ⟨_, k⟩ | ⟨_, k⟩ <;> omega

/-- Two to the 1000, in least steps. -/
def exZ : Nat := 2045
def ZZ : Nat := 536870912 * 2 ^ exZ
theorem top_km (e t : Nat) (h : e * 4503599627370496 + 9007199254740991 = t) : steps t = 9007199254740991 * 2 ^ e := by
  rw [← h]
  exact steps_km e 9007199254740991 (by decide) (Or.inr (by decide))
theorem top_is : steps 9218868437227405311 = 9007199254740991 * 2 ^ exZ := top_km exZ _ (by unfold exZ; decide)
theorem top_big : 64 * ZZ ≤ steps 9218868437227405311 := by
  rw [top_is]
  unfold ZZ
  rw [← Nat.mul_assoc]
  exact Nat.mul_le_mul_right _ (by decide)
theorem rep_Z (k : Nat) (hk : k ≤ 64) : Rep ((k * ZZ : Nat) : Int) := by
  have := rep_mk ((k * 536870912 : Nat) : Int) exZ (by rw [Int.natAbs_natCast]; omega)
  rw [← Int.natCast_mul, Nat.mul_assoc] at this
  exact this

/-- Where a sum is no number, and less than so much, so are both parts, or not twice as much. -/
theorem parts_small {A B S : Int} {Z : Nat} (hA : Rep A) (hB : Rep B) (h : Best (A + B) S) (hZ : Rep ((Z : Nat) : Int)) (hS : S.natAbs < Z) (hT : ¬ Rep (A + B)) : A.natAbs ≤ 2 * Z ∧ B.natAbs ≤ 2 * Z := by
  have hTZ : (A + B).natAbs < Z := by
    rcases Nat.lt_or_ge (A + B).natAbs Z with g | g
    · exact g
    · have := h.ge hZ (by rw [Int.natAbs_natCast]; exact g)
      rw [Int.natAbs_natCast] at this; omega
  obtain ⟨j, g, es, hj, _⟩ := rep_parts h.rep
  obtain ⟨m, k, ea, hm, _⟩ := rep_parts hA
  obtain ⟨n, l, eb, hn, _⟩ := rep_parts hB
  rcases Nat.le_total k l with o | o
  · have eT : A + B = (m + n * ((2 ^ (l - k) : Nat) : Int)) * ((2 ^ k : Nat) : Int) := by rw [ea, eb, down_pow n o, ← Int.add_mul]
    have hg := (grid h _ k eT j g es hj hT).1
    have la : A.natAbs < 9007199254740992 * 2 ^ k := by rw [ea, abs_pow]; exact Nat.mul_lt_mul_of_pos_right hm (Nat.two_pow_pos _)
    clear ea eb es eT
    omega
  · have eT : A + B = (m * ((2 ^ (k - l) : Nat) : Int) + n) * ((2 ^ l : Nat) : Int) := by rw [ea, eb, down_pow m o, ← Int.add_mul]
    have hg := (grid h _ l eT j g es hj hT).1
    have lb : B.natAbs < 9007199254740992 * 2 ^ l := by rw [eb, abs_pow]; exact Nat.mul_lt_mul_of_pos_right hn (Nat.two_pow_pos _)
    clear ea eb es eT
    omega

/-- No step of two-sum is infinite; what comes of it is what the sum lacks. -/
theorem two_sum_w (a b s : Nat) (ha : a < 18446744073709551616) (hb : b < 18446744073709551616) (ra : rung a < 9218868437227405312) (rb : rung b < 9218868437227405312) (N : NearW (val a + val b) s) (rs : rung s < 9218868437227405312) (hS : (val s).natAbs < ZZ) :
    ∃ c p x y d, floatBits .sub .f64 s a = some c ∧ floatBits .sub .f64 s c = some p ∧ floatBits .sub .f64 a p = some x ∧ floatBits .sub .f64 b c = some y ∧ floatBits .add .f64 x y = some d ∧
      c < 18446744073709551616 ∧ d < 18446744073709551616 ∧ rung d < 9218868437227405312 ∧ val d = val a + val b - val s := by
  have ls := N.lt
  have hs := N.fin rs
  have tb := top_big
  have va := val_in a ra
  have vb := val_in b rb
  obtain ⟨c, ec, Nc⟩ := sub_w s a ls ha rs ra
  by_cases hT : Rep (val a + val b)
  · have s1 := hs.exact hT
    have fc := Nc.small (by rw [s1]; omega)
    have c1 : val c = val b := by
      have := (Nc.fin fc).exact (by rw [s1, show val a + val b - val a = val b by omega]; exact rep_val b)
      omega
    obtain ⟨p, ep, Np⟩ := sub_w s c ls Nc.lt rs fc
    have fp := Np.small (by rw [s1, c1]; omega)
    have p1 : val p = val a := by
      have := (Np.fin fp).exact (by rw [s1, c1, show val a + val b - val b = val a by omega]; exact rep_val a)
      omega
    obtain ⟨x, ex, Nx⟩ := sub_w a p ha Np.lt ra fp
    have fx := Nx.small (by rw [p1]; omega)
    have x1 : val x = 0 := by
      have := (Nx.fin fx).exact (by rw [p1, Int.sub_self]; exact rep_zero)
      omega
    obtain ⟨y, ey, Ny⟩ := sub_w b c hb Nc.lt rb fc
    have fy := Ny.small (by rw [c1]; omega)
    have y1 : val y = 0 := by
      have := (Ny.fin fy).exact (by rw [c1, Int.sub_self]; exact rep_zero)
      omega
    obtain ⟨d, ed, Nd⟩ := add_w x y Nx.lt Ny.lt fx fy
    have fd := Nd.small (by rw [x1, y1]; omega)
    have d1 : val d = 0 := by
      have := (Nd.fin fd).exact (by rw [x1, y1]; exact rep_zero)
      omega
    exact ⟨c, p, x, y, d, ec, ep, ex, ey, ed, Nc.lt, Nd.lt, fd, by omega⟩
  · obtain ⟨lA, lB⟩ := parts_small (rep_val a) (rep_val b) hs (by have := rep_Z 1 (by decide); rw [Nat.one_mul] at this; exact this) hS hT
    have fc := Nc.small (by omega)
    have bc := (Nc.fin fc).le (rep_Z 4 (by decide)) (by rw [Int.natAbs_natCast]; omega)
    rw [Int.natAbs_natCast] at bc
    obtain ⟨p, ep, Np⟩ := sub_w s c ls Nc.lt rs fc
    have fp := Np.small (by omega)
    have bp := (Np.fin fp).le (rep_Z 8 (by decide)) (by rw [Int.natAbs_natCast]; omega)
    rw [Int.natAbs_natCast] at bp
    obtain ⟨x, ex, Nx⟩ := sub_w a p ha Np.lt ra fp
    have fx := Nx.small (by omega)
    have bx := (Nx.fin fx).le (rep_Z 16 (by decide)) (by rw [Int.natAbs_natCast]; omega)
    rw [Int.natAbs_natCast] at bx
    obtain ⟨y, ey, Ny⟩ := sub_w b c hb Nc.lt rb fc
    have fy := Ny.small (by omega)
    have byy := (Ny.fin fy).le (rep_Z 8 (by decide)) (by rw [Int.natAbs_natCast]; omega)
    rw [Int.natAbs_natCast] at byy
    obtain ⟨d, ed, Nd⟩ := add_w x y Nx.lt Ny.lt fx fy
    have fd := Nd.small (by omega)
    exact ⟨c, p, x, y, d, ec, ep, ex, ey, ed, Nc.lt, Nd.lt, fd, two_sum (rep_val a) (rep_val b) hs (Nc.fin fc) (Np.fin fp) (Nx.fin fx) (Ny.fin fy) (Nd.fin fd)⟩

end Go.Proofs.Ytmcecchcbfhfcaa
