
/- The walk of the law IvalHolds. -/
import Derived.Test.YtpgbcdplicodmaaHoldsM
import Derived.LoopTactic
import Derived.Deep.QuietTactic
import Derived.BigQuiet
namespace Go.Proofs.Ytpgbcdplicodmaa
open Go.RowKit
attribute [local go_sem] run_store_float

/-- A statement that is the last of its sequence, for go_cut. -/
theorem wp_last {P : Program} {c : Code} {Q : Exit → Act → World → Prop} {a : Act} {w : World} (h : ∀ K : Act → World → Prop, (∀ a w, Q .normal a w → K a w) → c.wp P (Exit.then K Q) a w) : c.wp P Q a w := by
  refine Code.wp_mono (fun e a w hq => ?_) (h (Q .normal) (fun _ _ h => h))
  cases e <;> exact hq

def pick2 (x y k : Nat) : Nat := if k = 0 then x else y
theorem cells_two (x y k : Nat) (hk : k < 2) : (#[Value.float .f64 x, Value.float .f64 y])[k]? = some (.float .f64 (pick2 x y k)) := by
  rcases (show k = 0 ∨ k = 1 by omega) with rfl | rfl <;> rfl

/-- Two slots that hold numbers, and what lies in memory. -/
def HoldsS (w : World) (l : List (Nat × Array Value)) (x y : Nat) (p q : Value) (wx : World) : Prop := p = .float .f64 x ∧ q = .float .f64 y ∧ Mem w l wx
/-- The outer loop. -/
def HoldsO (w : World) (l : List (Nat × Array Value)) (D U : Nat → Bool) (p q v : Value) (wx : World) : Prop := ∃ k : Nat, k ≤ 2 ∧ v = .int .i64 k ∧ p = .bool (D (2 * k)) ∧ q = .bool (U (2 * k)) ∧ Mem w l wx
/-- The inner one. -/
def HoldsI (w : World) (l : List (Nat × Array Value)) (k : Nat) (D U : Nat → Bool) (p q v : Value) (wx : World) : Prop := ∃ j : Nat, j ≤ 2 ∧ v = .int .i64 j ∧ p = .bool (D (2 * k + j)) ∧ q = .bool (U (2 * k + j)) ∧ Mem w l wx

set_option maxRecDepth 100000 in
set_option maxHeartbeats 16000000 in
theorem holds_walk (n al ah h bl bh p q x y lo hi : Nat) (R : Res) (ten z6 z9 lA gA : Bool) (D U : Nat → Bool) (mD mU : Nat → Nat → Nat) (fD fU : Nat → Nat → Bool) (w : World)
    (cA : Hid (∀ w, Calls Try.prog 34 #[.agg #[.float .f64 al, .float .f64 ah]] w fun r w' => r = .returned (.bool true) ∧ Below w.heap.size w w'))
    (cB : Hid (∀ w, Calls Try.prog 34 #[.agg #[.float .f64 bl, .float .f64 bh]] w fun r w' => r = .returned (.bool true) ∧ Below w.heap.size w w'))
    (ht : ((n : Int) % 11 == 10) = ten) (t6 : ((n : Int) % 11 == 6) = z6) (t9 : ((n : Int) % 11 == 9) = z9) (g0 : (0 : Int) ≤ n) (g1 : (n : Int) ≤ 255) (hh : Hid (h = if ten then al else ah))
    (oA : (FloatKind.f64.format.order al 0 == some Ordering.lt) = lA) (oH : (FloatKind.f64.format.order h 0 == some Ordering.gt) = gA)
    (cR : Hid (∀ pb w, w.cell? ⟨pb, 0, none⟩ = some (.int .i64 0) → w.frozen? ⟨pb, 0, none⟩ = false → Calls Try.prog 36 #[.agg #[.int .u8 n, .float .f64 al, .float .f64 h, .float .f64 bl, .float .f64 bh], .pointer (some ⟨pb, 0, none⟩)] w (Told R pb 0 w)))
    (hN : Hid (R.e ≠ 0 → R.lo = 0 ∧ R.hi = 0))
    (cX : Hid (∀ w, Calls Try.prog 39 #[.agg #[.float .f64 al, .float .f64 h], .int .u16 p] w fun r w' => r = .returned (.float .f64 x) ∧ Below w.heap.size w w'))
    (cY : Hid (∀ w, Calls Try.prog 39 #[.agg #[.float .f64 bl, .float .f64 bh], .int .u16 q] w fun r w' => r = .returned (.float .f64 y) ∧ Below w.heap.size w w'))
    (cL : Hid (R.e = 0 → ∀ w, Calls Try.prog 40 #[.int .u8 n, .float .f64 x, .float .f64 y, .bool false] w fun r w' => r = .returned (.tuple #[.float .f64 lo, .bool true]) ∧ Below w.heap.size w w'))
    (cH : Hid (R.e = 0 → ∀ w, Calls Try.prog 40 #[.int .u8 n, .float .f64 x, .float .f64 y, .bool true] w fun r w' => r = .returned (.tuple #[.float .f64 hi, .bool true]) ∧ Below w.heap.size w w'))
    (cI : Hid (R.e = 0 → ∀ w, Calls Try.prog 34 #[.agg #[.float .f64 R.lo, .float .f64 R.hi]] w fun r w' => r = .returned (.bool true) ∧ Below w.heap.size w w'))
    (oL : Hid (R.e = 0 → (FloatKind.f64.format.order R.lo lo == some Ordering.gt) = false ∧ (FloatKind.f64.format.order R.hi hi == some Ordering.lt) = false))
    (cD : Hid (∀ i j, i < 2 → j < 2 → ∀ w, Calls Try.prog 40 #[.int .u8 n, .float .f64 (pick2 al h i), .float .f64 (pick2 bl bh j), .bool false] w fun r w' => r = .returned (.tuple #[.float .f64 (mD i j), .bool (fD i j)]) ∧ Below w.heap.size w w'))
    (cU : Hid (∀ i j, i < 2 → j < 2 → ∀ w, Calls Try.prog 40 #[.int .u8 n, .float .f64 (pick2 al h i), .float .f64 (pick2 bl bh j), .bool true] w fun r w' => r = .returned (.tuple #[.float .f64 (mU i j), .bool (fU i j)]) ∧ Below w.heap.size w w'))
    (d0 : Hid (D 0 = (z6 && lA && gA || z9 && lA && gA) ∧ U 0 = false))
    (dS : Hid (∀ i j, i < 2 → j < 2 → D (2 * i + (j + 1)) = (D (2 * i + j) || (fD i j && (FloatKind.f64.format.order (mD i j) R.lo == some Ordering.eq))) ∧ U (2 * i + (j + 1)) = (U (2 * i + j) || (fU i j && (FloatKind.f64.format.order (mU i j) R.hi == some Ordering.eq)))))
    (d4 : Hid (R.e = 0 → D 4 = true ∧ U 4 = true)) :
    Calls Try.prog 5 #[.agg #[.int .u8 n, .float .f64 al, .float .f64 ah, .float .f64 bl, .float .f64 bh], .int .u16 p, .int .u16 q] w fun r w' => r = .returned (.bool true) ∧ Below w.heap.size w w' := by
  have M := Lib.hid ((Mem.nil w).made #[.int .u8 n, .float .f64 al, .float .f64 ah, .float .f64 bl, .float .f64 bh] 41)
  have T6 := Lib.hid t6
  have T9 := Lib.hid t9
  have OA := Lib.hid oA
  have OH := Lib.hid oH
  clear t6 t9 oA oH
  go_enter Try.func5, Try.ntmps5
  go_wp2_with fail
  refine (cA.out _).mono ?_
  rintro r w1 ⟨rfl, hb⟩
  replace M := Lib.hid (M.out.below hb)
  have c1 := (M.out.nth 0 rfl).2.1
  clear hb
  go_wp2_with fail
  refine (cB.out _).mono ?_
  rintro r w2 ⟨rfl, hb⟩
  replace M := Lib.hid (M.out.below hb)
  clear hb c1
  have c1 := (M.out.nth 0 rfl).2.1
  have f1 := (M.out.nth 0 rfl).2.2
  go_upto_if 39 with (fail)
  go_cut [] (LessA w n al h bl bh)
  case first =>
    cases ten
    · have e : h = ah := hh.out
      subst e
      go_wp2_with fail
      go_meet
      exact M.out
    · have e : h = al := hh.out
      subst e
      go_wp2_with fail
      go_meet
      exact M.out.setIn (M.out.nth 0 rfl) (Nat.le_refl _) _ (by simp)
  case rest =>
    obtain ⟨w3, rfl⟩ : ∃ x : World, x = wc := ⟨_, rfl⟩
    have M' := hcut
    unfold LessA at M'
    have zn : w.heap.size < w3.heap.size := M'.size 0 rfl
    replace M := Lib.hid (M'.made #[.int .i64 0] 45)
    clear M' hcut c1 f1 cA cB hh ht
    obtain ⟨k0, k1, k2, k3, k4⟩ := (M.out.nth 1 rfl).five
    go_wp2_with fail
    refine (cR.out _ _ (M.out.nth 0 rfl).pc (M.out.nth 0 rfl).pf).mono ?_
    rintro rr w5 hT
    obtain ⟨rfl, hp⟩ := hT.open
    replace M := Lib.hid (M.out.put hp (Nat.le_of_lt zn) (by simp; omega))
    clear hp hT k0 k1 k2 k3 k4
    have M2 := Lib.hid (M.out.made #[.float .f64 R.lo, .float .f64 R.hi] 39)
    by_cases he : R.e = 0
    · have hR : Hid (∀ w', w'.cell? ⟨w3.heap.size, 0, none⟩ = some (.int .i64 R.e) → Calls Try.prog 37 #[.pointer (some ⟨w3.heap.size, 0, none⟩)] w' fun r w'' => r = .returned (.int .i64 0) ∧ w' = w'') := Lib.hid fun w' hc => by
        have := err_any R.e w3.heap.size 0 w' hc
        rw [he] at this
        exact this
      replace cL := Lib.hid (cL.out he)
      replace cH := Lib.hid (cH.out he)
      replace cI := Lib.hid (cI.out he)
      obtain ⟨o1, o2⟩ := oL.out he
      have O1 := Lib.hid o1
      have O2 := Lib.hid o2
      replace d4 := Lib.hid (d4.out he)
      have HE := Lib.hid he
      clear he o1 o2 oL hN
      go_wp2_with fail
      refine (hR.out _ (M2.out.nth 1 rfl).pc).mono ?_
      rintro r ww ⟨rfl, rfl⟩
      clear hR
      obtain ⟨k0, k1, k2, k3, k4⟩ := (M2.out.nth 2 rfl).five
      clear M
      have M := M2
      clear M2
      go_upto_region 9 with fail
      go_cut [9, 10] (HoldsS w [(w5.heap.size, #[.float .f64 R.lo, .float .f64 R.hi]), (w.heap.size, #[.int .u8 n, .float .f64 al, .float .f64 h, .float .f64 bl, .float .f64 bh])] x y)
      case first =>
        go_region_held3 (fun w' => w'.cell? ⟨w.heap.size, 0, none⟩ = some (.int .u8 n) ∧ w'.cell? ⟨w.heap.size, 1, none⟩ = some (.float .f64 al) ∧ w'.cell? ⟨w.heap.size, 2, none⟩ = some (.float .f64 h) ∧ w'.cell? ⟨w.heap.size, 3, none⟩ = some (.float .f64 bl) ∧ w'.cell? ⟨w.heap.size, 4, none⟩ = some (.float .f64 bh)) (first | (with_reducible exact keepD k0 k1 k2 k3 k4) | ((try dsimp only); (repeat' apply And.intro); all_goals (with_reducible assumption)) | go_keep)
          (first
            | (go_at_call 39; (with_reducible refine (cX.out _).mono ?_); rintro rr w7 ⟨rfl, hb⟩; (first | (with_reducible have M' := Lib.hid (M.out.below hb)) | (with_reducible have M' := Lib.hid (M.out.drew.below hb))); clear M hb; have M := M'; clear M'; clear k0 k1 k2 k3 k4; obtain ⟨k0, k1, k2, k3, k4⟩ := (M.out.nth 2 rfl).five)
            | (go_at_call 39; (with_reducible refine (cY.out _).mono ?_); rintro rr w7 ⟨rfl, hb⟩; (first | (with_reducible have M' := Lib.hid (M.out.below hb)) | (with_reducible have M' := Lib.hid (M.out.drew.below hb))); clear M hb; have M := M'; clear M'; clear k0 k1 k2 k3 k4; obtain ⟨k0, k1, k2, k3, k4⟩ := (M.out.nth 2 rfl).five))
        all_goals (go_wp2_with fail; go_meet)
        all_goals exact ⟨rfl, rfl, M.out.sub (by simp)⟩
      case rest =>
        obtain ⟨w8, rfl⟩ : ∃ x : World, x = wc := ⟨_, rfl⟩
        obtain ⟨rfl, rfl, hM⟩ := hcut
        clear k0 k1 k2 k3 k4 M cX cY cR
        have M := Lib.hid hM
        clear hM
        obtain ⟨k0, k1, k2, k3, k4⟩ := (M.out.nth 1 rfl).five
        go_wp2_with fail
        refine (cL.out _).mono ?_
        rintro r w9 ⟨rfl, hb⟩
        replace M := Lib.hid (M.out.below hb)
        clear hb k0 k1 k2 k3 k4 cL
        obtain ⟨k0, k1, k2, k3, k4⟩ := (M.out.nth 1 rfl).five
        go_wp2_with fail
        refine (cH.out _).mono ?_
        rintro r w10 ⟨rfl, hb⟩
        replace M := Lib.hid (M.out.below hb)
        clear hb k0 k1 k2 k3 k4 cH
        obtain ⟨q0, q1⟩ := (M.out.nth 0 rfl).two
        go_wp2_with fail
        refine (cI.out _).mono ?_
        rintro r w11 ⟨rfl, hb⟩
        replace M := Lib.hid (M.out.below hb)
        clear hb q0 q1 cI
        obtain ⟨q0, q1⟩ := (M.out.nth 0 rfl).two
        have o1 := O1.out
        have o2 := O2.out
        go_upto_region 14 with fail
        clear q0 q1 o1 o2 O1 O2
        obtain ⟨k0, k1, k2, k3, k4⟩ := (M.out.nth 1 rfl).five
        go_cut [15, 16] (HoldsF w [(w5.heap.size, #[.float .f64 R.lo, .float .f64 R.hi]), (w.heap.size, #[.int .u8 n, .float .f64 al, .float .f64 h, .float .f64 bl, .float .f64 bh])] (D 0) (U 0))
        case first =>
          exact holds_r14 T6.out T9.out g0 g1 OA.out OH.out (Lib.hid d0.out.1) (Lib.hid d0.out.2) (M.out.nth 1 rfl) M (by kernel_rfl) (by assumption) (by assumption)
        case rest =>
          obtain ⟨w12, rfl⟩ : ∃ x : World, x = wc := ⟨_, rfl⟩
          obtain ⟨rfl, rfl, hM⟩ := hcut
          clear M k0 k1 k2 k3 k4 T6 T9 OA OH d0
          have M := Lib.hid hM
          clear hM
          obtain ⟨k0, k1, k2, k3, k4⟩ := (M.out.nth 1 rfl).five
          go_upto_region 16 with fail
          have M2 := Lib.hid (M.out.made #[.float .f64 al, .float .f64 h] 22)
          clear M k0 k1 k2 k3 k4
          have M := M2
          clear M2
          go_loopw [15, 16, 144] (HoldsO w [(w12.heap.size, #[.float .f64 al, .float .f64 h]), (w5.heap.size, #[.float .f64 R.lo, .float .f64 R.hi]), (w.heap.size, #[.int .u8 n, .float .f64 al, .float .f64 h, .float .f64 bl, .float .f64 bh])] D U) (fun _ _ v _ => 2 - (intOf v).toNat)
          case atStart => exact ⟨0, by decide, rfl, rfl, rfl, M.out⟩
          case round =>
            clear M
            obtain ⟨k, hk, rfl, rfl, rfl, hM⟩ := hrel
            have M := Lib.hid hM
            clear hM
            by_cases hlt : k < 2
            · have c0 := ((M.out.nth 0 rfl).2.1 k).trans (cells_two al h k hlt)
              obtain ⟨k0, k1, k2, k3, k4⟩ := (M.out.nth 2 rfl).five
              go_upto_region 19 with fail
              clear c0 k0 k1 k2 k3 k4
              replace M := Lib.hid (M.out.made #[.float .f64 bl, .float .f64 bh] 22)
              obtain ⟨wo, rfl⟩ : ∃ x : World, x = wr := ⟨_, rfl⟩
              go_loopw [15, 16, 156] (HoldsI w [(wo.heap.size, #[.float .f64 bl, .float .f64 bh]), (w12.heap.size, #[.float .f64 al, .float .f64 h]), (w5.heap.size, #[.float .f64 R.lo, .float .f64 R.hi]), (w.heap.size, #[.int .u8 n, .float .f64 al, .float .f64 h, .float .f64 bl, .float .f64 bh])] k D U) (fun _ _ v _ => 2 - (intOf v).toNat)
              case atStart => exact ⟨0, by decide, rfl, rfl, rfl, M.out⟩
              case round =>
                clear M
                obtain ⟨j, hj, rfl, rfl, rfl, hM⟩ := hrel
                have M := Lib.hid hM
                clear hM
                by_cases hlj : j < 2
                · have CD := Lib.hid (cD.out k j hlt hlj)
                  have CU := Lib.hid (cU.out k j hlt hlj)
                  obtain ⟨s1, s2⟩ := dS.out k j hlt hlj
                  have S1 := Lib.hid s1
                  have S2 := Lib.hid s2
                  clear s1 s2
                  have c0 := ((M.out.nth 0 rfl).2.1 j).trans (cells_two bl bh j hlj)
                  obtain ⟨k0, k1, k2, k3, k4⟩ := (M.out.nth 3 rfl).five
                  have e9 : wrap64 ((j : Int) + 1) = (j : Int) + 1 := wrap64_in _ (by omega) (by omega)
                  go_wp2_with fail
                  refine (CD.out _).mono ?_
                  rintro r w13 ⟨rfl, hb⟩
                  replace M := Lib.hid (M.out.below hb)
                  clear hb c0 k0 k1 k2 k3 k4
                  obtain ⟨k0, k1, k2, k3, k4⟩ := (M.out.nth 3 rfl).five
                  go_wp2_with fail
                  refine (CU.out _).mono ?_
                  rintro r w14 ⟨rfl, hb⟩
                  replace M := Lib.hid (M.out.below hb)
                  clear hb k0 k1 k2 k3 k4 CD CU
                  obtain ⟨q0, q1⟩ := (M.out.nth 2 rfl).two
                  go_upto_region 23 with fail
                  refine wp_last (fun K23 hK23 => ?_)
                  go_cut [15, 16, 22, 24] from 157 to 195 (HoldsG w [(wo.heap.size, #[.float .f64 bl, .float .f64 bh]), (w12.heap.size, #[.float .f64 al, .float .f64 h]), (w5.heap.size, #[.float .f64 R.lo, .float .f64 R.hi]), (w.heap.size, #[.int .u8 n, .float .f64 al, .float .f64 h, .float .f64 bl, .float .f64 bh])] (D (2 * k + (j + 1))) (U (2 * k + (j + 1))))
                  case first =>
                    clear hK23
                    cases hb : D (2 * k + j)
                    · cases hf : fD k j
                      · have HL : Hid (D (2 * k + (j + 1)) = false) := Lib.hid (by rw [S1.out, hb, hf]; rfl)
                        clear hb hf S1
                        cases hb : U (2 * k + j)
                        · cases hf : fU k j
                          · have HR : Hid (U (2 * k + (j + 1)) = false) := Lib.hid (by rw [S2.out, hb, hf]; rfl)
                            clear hb hf S2
                            go_quiet (fail)
                            go_wp2_with fail
                            go_meet
                            exact ⟨by rw [HL.out], by rw [HR.out], M.out.drewN _⟩
                          · have HR : Hid (U (2 * k + (j + 1)) = (FloatKind.f64.format.order (mU k j) R.hi == some Ordering.eq)) := Lib.hid (by rw [S2.out, hb, hf]; rfl)
                            clear hb hf S2
                            go_quiet (fail)
                            go_wp2_with fail
                            go_meet
                            exact ⟨by rw [HL.out], by rw [HR.out], M.out.drewN _⟩
                        · have HR : Hid (U (2 * k + (j + 1)) = true) := Lib.hid (by rw [S2.out, hb]; rfl)
                          clear hb S2
                          go_quiet (fail)
                          go_wp2_with fail
                          go_meet
                          exact ⟨by rw [HL.out], by rw [HR.out], M.out.drewN _⟩
                      · have HL : Hid (D (2 * k + (j + 1)) = (FloatKind.f64.format.order (mD k j) R.lo == some Ordering.eq)) := Lib.hid (by rw [S1.out, hb, hf]; rfl)
                        clear hb hf S1
                        cases hb : U (2 * k + j)
                        · cases hf : fU k j
                          · have HR : Hid (U (2 * k + (j + 1)) = false) := Lib.hid (by rw [S2.out, hb, hf]; rfl)
                            clear hb hf S2
                            go_quiet (fail)
                            go_wp2_with fail
                            go_meet
                            exact ⟨by rw [HL.out], by rw [HR.out], M.out.drewN _⟩
                          · have HR : Hid (U (2 * k + (j + 1)) = (FloatKind.f64.format.order (mU k j) R.hi == some Ordering.eq)) := Lib.hid (by rw [S2.out, hb, hf]; rfl)
                            clear hb hf S2
                            go_quiet (fail)
                            go_wp2_with fail
                            go_meet
                            exact ⟨by rw [HL.out], by rw [HR.out], M.out.drewN _⟩
                        · have HR : Hid (U (2 * k + (j + 1)) = true) := Lib.hid (by rw [S2.out, hb]; rfl)
                          clear hb S2
                          go_quiet (fail)
                          go_wp2_with fail
                          go_meet
                          exact ⟨by rw [HL.out], by rw [HR.out], M.out.drewN _⟩
                    · have HL : Hid (D (2 * k + (j + 1)) = true) := Lib.hid (by rw [S1.out, hb]; rfl)
                      clear hb S1
                      cases hb : U (2 * k + j)
                      · cases hf : fU k j
                        · have HR : Hid (U (2 * k + (j + 1)) = false) := Lib.hid (by rw [S2.out, hb, hf]; rfl)
                          clear hb hf S2
                          go_quiet (fail)
                          go_wp2_with fail
                          go_meet
                          exact ⟨by rw [HL.out], by rw [HR.out], M.out.drewN _⟩
                        · have HR : Hid (U (2 * k + (j + 1)) = (FloatKind.f64.format.order (mU k j) R.hi == some Ordering.eq)) := Lib.hid (by rw [S2.out, hb, hf]; rfl)
                          clear hb hf S2
                          go_quiet (fail)
                          go_wp2_with fail
                          go_meet
                          exact ⟨by rw [HL.out], by rw [HR.out], M.out.drewN _⟩
                      · have HR : Hid (U (2 * k + (j + 1)) = true) := Lib.hid (by rw [S2.out, hb]; rfl)
                        clear hb S2
                        go_quiet (fail)
                        go_wp2_with fail
                        go_meet
                        exact ⟨by rw [HL.out], by rw [HR.out], M.out.drewN _⟩
                  case rest =>
                    obtain ⟨w15, rfl⟩ : ∃ x : World, x = wc := ⟨_, rfl⟩
                    obtain ⟨rfl, rfl, hM⟩ := hcut
                    clear M q0 q1
                    have M := Lib.hid hM
                    clear hM S1 S2
                    refine hK23 _ _ ?_
                    clear hK23
                    go_wp2
                    go_roundw
                    case rel => exact ⟨j + 1, by omega, by go_num, rfl, rfl, M.out⟩
                    case measure => simp [intOf]; omega
                · obtain rfl : j = 2 := by omega
                  have e9 : wrap64 ((k : Int) + 1) = (k : Int) + 1 := wrap64_in _ (by omega) (by omega)
                  go_wp2
                  go_roundw
                  case rel => exact ⟨k + 1, by omega, by go_num, rfl, rfl, M.out.sub (by simp)⟩
                  case measure => simp [intOf]; omega
            · obtain rfl : k = 2 := by omega
              obtain ⟨x1, x2⟩ := d4.out
              have y1 : D (2 * 2) = true := x1
              have y2 : U (2 * 2) = true := x2
              clear x1 x2
              go_wp2_with fail
              refine (awake2_any _).mono ?_
              rintro r w16 ⟨rfl, hb⟩
              replace M := Lib.hid (M.out.below hb)
              clear hb
              go_wp2
              go_ret
              exact ⟨rfl, M.out.base⟩
    · obtain ⟨n1, n2⟩ := hN.out he
      have N1 := Lib.hid n1
      have N2 := Lib.hid n2
      have cZ : Hid (∀ w', Calls Try.prog 38 #[.agg #[.float .f64 R.lo, .float .f64 R.hi], .agg #[.float .f64 0, .float .f64 0]] w' fun r w'' => r = .returned (.bool true) ∧ Below w'.heap.size w' w'') := Lib.hid fun w' => by rw [N1.out, N2.out]; exact l_same 0 0 w'
      have he' : (R.e != 0) = true := by simpa using he
      clear he n1 n2 hN N1 N2
      obtain ⟨q0, q1⟩ := (M2.out.nth 0 rfl).two
      go_wp2_with fail
      refine (err_any R.e _ 0 _ (M2.out.nth 1 rfl).pc).mono ?_
      rintro r ww ⟨rfl, rfl⟩
      go_wp2_with fail
      refine (cZ.out _).mono ?_
      rintro r w9 ⟨rfl, hb⟩
      replace M2 := Lib.hid (M2.out.below hb)
      clear hb q0 q1
      go_wp2_with fail
      refine (awake2_any _).mono ?_
      rintro r w10 ⟨rfl, hb⟩
      replace M2 := Lib.hid (M2.out.below hb)
      clear hb
      go_wp2
      go_ret
      exact ⟨rfl, M2.out.base⟩

end Go.Proofs.Ytpgbcdplicodmaa
