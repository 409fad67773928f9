/- The law IvalMeets: its walk. -/
import Derived.Test.YtecgialgahcabaaMeetsD
namespace Go.Proofs.Ytecgialgahcabaa
open Go.RowKit
attribute [local go_sem] run_store_float

set_option maxRecDepth 100000 in
set_option maxHeartbeats 16000000 in
theorem meets_T (al ah bl bh x ml mh hl hh wa wh : Nat) (ea eh : Int) (xa xb : Bool) (w : World)
    (cRa : Hid (∀ w, Calls Try.prog 40 #[.agg #[.float .f64 al, .float .f64 ah]] w fun r w' => r = .returned (.bool true) ∧ Below w.heap.size w w'))
    (cRb : Hid (∀ w, Calls Try.prog 40 #[.agg #[.float .f64 bl, .float .f64 bh]] w fun r w' => r = .returned (.bool true) ∧ Below w.heap.size w w'))
    (cM1 : Hid (∀ w, Calls Try.prog 49 #[.agg #[.float .f64 al, .float .f64 ah], .agg #[.float .f64 bl, .float .f64 bh]] w fun r w' => r = .returned (.tuple #[.agg #[.float .f64 ml, .float .f64 mh], .bool true]) ∧ Below w.heap.size w w'))
    (cM2 : Hid (∀ w, Calls Try.prog 49 #[.agg #[.float .f64 bl, .float .f64 bh], .agg #[.float .f64 al, .float .f64 ah]] w fun r w' => r = .returned (.tuple #[.agg #[.float .f64 ml, .float .f64 mh], .bool true]) ∧ Below w.heap.size w w'))
    (cH1 : Hid (∀ w, Calls Try.prog 50 #[.agg #[.float .f64 al, .float .f64 ah], .agg #[.float .f64 bl, .float .f64 bh]] w fun r w' => r = .returned (.agg #[.float .f64 hl, .float .f64 hh]) ∧ Below w.heap.size w w'))
    (cH2 : Hid (∀ w, Calls Try.prog 50 #[.agg #[.float .f64 bl, .float .f64 bh], .agg #[.float .f64 al, .float .f64 ah]] w fun r w' => r = .returned (.agg #[.float .f64 hl, .float .f64 hh]) ∧ Below w.heap.size w w'))
    (cRh : Hid (∀ w, Calls Try.prog 40 #[.agg #[.float .f64 hl, .float .f64 hh]] w fun r w' => r = .returned (.bool true) ∧ Below w.heap.size w w'))
    (cRm : Hid (∀ w, Calls Try.prog 40 #[.agg #[.float .f64 ml, .float .f64 mh]] w fun r w' => r = .returned (.bool true) ∧ Below w.heap.size w w'))
    (cXm : Hid (∀ w, Calls Try.prog 51 #[.agg #[.float .f64 ml, .float .f64 mh], .float .f64 x] w fun r w' => r = .returned (.bool (xa && xb)) ∧ Below w.heap.size w w'))
    (cXa : Hid (∀ w, Calls Try.prog 51 #[.agg #[.float .f64 al, .float .f64 ah], .float .f64 x] w fun r w' => r = .returned (.bool xa) ∧ Below w.heap.size w w'))
    (cXb : Hid (∀ w, Calls Try.prog 51 #[.agg #[.float .f64 bl, .float .f64 bh], .float .f64 x] w fun r w' => r = .returned (.bool xb) ∧ Below w.heap.size w w'))
    (cXh : Hid ((xa || xb) = true → ∀ w, Calls Try.prog 51 #[.agg #[.float .f64 hl, .float .f64 hh], .float .f64 x] w fun r w' => r = .returned (.bool true) ∧ Below w.heap.size w w'))
    (cWa : Hid (∀ w, Calls Try.prog 52 #[.agg #[.float .f64 al, .float .f64 ah]] w fun r w' => r = .returned (.tuple #[.float .f64 wa, .int .i64 ea]) ∧ Below w.heap.size w w'))
    (cWh : Hid (∀ w, Calls Try.prog 52 #[.agg #[.float .f64 hl, .float .f64 hh]] w fun r w' => r = .returned (.tuple #[.float .f64 wh, .int .i64 eh]) ∧ Below w.heap.size w w'))
    (o1 : (FloatKind.f64.format.order ah bl == some Ordering.lt) = false) (o2 : (FloatKind.f64.format.order bh al == some Ordering.lt) = false)
    (hw : eh ≠ 0 ∨ ea = 0 ∧ ((FloatKind.f64.format.order wa wh == some Ordering.lt) || (FloatKind.f64.format.order wa wh == some Ordering.eq)) = true)
    (hv : ea ≠ 0 ∨ (FloatKind.f64.format.order wa 0 == some Ordering.eq) = (FloatKind.f64.format.order al ah == some Ordering.eq)) :
    Calls Try.prog 12 #[.agg #[.float .f64 al, .float .f64 ah], .agg #[.float .f64 bl, .float .f64 bh], .float .f64 x] w fun r w' => r = .returned (.bool true) ∧ Below w.heap.size w w' := by
  have M := Lib.hid (Mem.two w #[.float .f64 al, .float .f64 ah] #[.float .f64 bl, .float .f64 bh] 41 41)
  have HW := Lib.hid hw
  have HV := Lib.hid hv
  have O1 := Lib.hid o1
  have O2 := Lib.hid o2
  
  clear hw hv o1 o2
  go_enter Try.func12, Try.ntmps12
  have c0 := (M.out.nth 0 rfl).2.1
  have c1 := (M.out.nth 1 rfl).2.1
  go_wp2_with fail
  refine (cRa.out _).mono ?_
  rintro r w1 ⟨rfl, hb⟩
  replace M := Lib.hid (M.out.below hb)
  clear hb c0 c1
  have c0 := (M.out.nth 0 rfl).2.1
  have c1 := (M.out.nth 1 rfl).2.1
  go_wp2_with fail
  refine (cRb.out _).mono ?_
  rintro r w2 ⟨rfl, hb⟩
  replace M := Lib.hid (M.out.below hb)
  clear hb c0 c1
  have c0 := (M.out.nth 0 rfl).2.1
  have c1 := (M.out.nth 1 rfl).2.1
  go_wp2_with fail
  refine (cM1.out _).mono ?_
  rintro r w3 ⟨rfl, hb⟩
  replace M := Lib.hid (M.out.below hb)
  clear hb c0 c1
  have c0 := (M.out.nth 0 rfl).2.1
  have c1 := (M.out.nth 1 rfl).2.1
  have z3 : w.heap.size + 1 < w3.heap.size := M.out.size 1 rfl
  replace M : Hid (Mem w ([(w.heap.size, #[.float .f64 al, .float .f64 ah]), (w.heap.size + 1, #[.float .f64 bl, .float .f64 bh]), (w3.heap.size, #[.float .f64 ml, .float .f64 mh])]) (w3.alloc (.cells #[.float .f64 ml, .float .f64 mh] 41))) := Lib.hid ((M.out.made _ _).sub (by simp))
  clear c0 c1
  have c0 := (M.out.nth 0 rfl).2.1
  have c1 := (M.out.nth 1 rfl).2.1
  go_wp2_with fail
  refine (cM2.out _).mono ?_
  rintro r w4 ⟨rfl, hb⟩
  replace M := Lib.hid (M.out.below hb)
  clear hb c0 c1
  have c0 := (M.out.nth 0 rfl).2.1
  have c1 := (M.out.nth 1 rfl).2.1
  have z4 : w3.heap.size < w4.heap.size := M.out.size 2 rfl
  replace M : Hid (Mem w ([(w.heap.size, #[.float .f64 al, .float .f64 ah]), (w.heap.size + 1, #[.float .f64 bl, .float .f64 bh]), (w3.heap.size, #[.float .f64 ml, .float .f64 mh]), (w4.heap.size, #[.float .f64 ml, .float .f64 mh])]) (w4.alloc (.cells #[.float .f64 ml, .float .f64 mh] 41))) := Lib.hid ((M.out.made _ _).sub (by simp))
  clear c0 c1
  have c0 := (M.out.nth 0 rfl).2.1
  have c1 := (M.out.nth 1 rfl).2.1
  go_wp2_with fail
  refine (cH1.out _).mono ?_
  rintro r w5 ⟨rfl, hb⟩
  replace M := Lib.hid (M.out.below hb)
  clear hb c0 c1
  have c0 := (M.out.nth 0 rfl).2.1
  have c1 := (M.out.nth 1 rfl).2.1
  have z5 : w4.heap.size < w5.heap.size := M.out.size 3 rfl
  replace M : Hid (MeetsMem w al ah bl bh ml mh hl hh w3.heap.size w4.heap.size w5.heap.size (w5.alloc (.cells #[.float .f64 hl, .float .f64 hh] 41))) := Lib.hid ((M.out.made _ _).sub (by simp))
  clear c0 c1
  go_upto_region 6 with fail
  obtain ⟨p, hp⟩ : ∃ p, p = w3.heap.size := ⟨_, rfl⟩
  obtain ⟨q, hq⟩ : ∃ q, q = w4.heap.size := ⟨_, rfl⟩
  obtain ⟨s, hs⟩ : ∃ s, s = w5.heap.size := ⟨_, rfl⟩
  rw [← hp, ← hq, ← hs]
  rw [← hp, ← hq, ← hs] at M
  go_cut [77] (fun v wx => v = .bool false ∧ MeetsMem w al ah bl bh ml mh hl hh p q s wx)
  case first =>
    clear hp hq hs z3 z4 z5
    have k0 := (M.out.nth 0 rfl).two.1
    have k1 := (M.out.nth 0 rfl).two.2
    have k2 := (M.out.nth 1 rfl).two.1
    have k3 := (M.out.nth 1 rfl).two.2
    have k4 := (M.out.nth 2 rfl).two.1
    have k5 := (M.out.nth 2 rfl).two.2
    have k6 := (M.out.nth 3 rfl).two.1
    have k7 := (M.out.nth 3 rfl).two.2
    have k8 := (M.out.nth 4 rfl).two.1
    have k9 := (M.out.nth 4 rfl).two.2
    have M : Hid (Mem w _ _) := Lib.hid (Mem.drew M.out)
    have o1 := O1.out
    have o2 := O2.out
    go_region_held3 (fun w' => w'.cell? ⟨w.heap.size, 0, none⟩ = some (.float .f64 al) ∧ w'.cell? ⟨w.heap.size, 1, none⟩ = some (.float .f64 ah) ∧ w'.cell? ⟨w.heap.size + 1, 0, none⟩ = some (.float .f64 bl) ∧ w'.cell? ⟨w.heap.size + 1, 1, none⟩ = some (.float .f64 bh) ∧ w'.cell? ⟨p, 0, none⟩ = some (.float .f64 ml) ∧ w'.cell? ⟨p, 1, none⟩ = some (.float .f64 mh) ∧ w'.cell? ⟨q, 0, none⟩ = some (.float .f64 ml) ∧ w'.cell? ⟨q, 1, none⟩ = some (.float .f64 mh) ∧ w'.cell? ⟨s, 0, none⟩ = some (.float .f64 hl) ∧ w'.cell? ⟨s, 1, none⟩ = some (.float .f64 hh)) (go_keep)
      (first
        | (go_at_call 44; (with_reducible refine (l_same _ _ _).mono ?_); rintro rr w9 ⟨rfl, hb⟩; replace M := Lib.hid (M.out.below hb); clear hb; clear k0 k1 k2 k3 k4 k5 k6 k7 k8 k9; have k0 := (M.out.nth 0 rfl).two.1; have k1 := (M.out.nth 0 rfl).two.2; have k2 := (M.out.nth 1 rfl).two.1; have k3 := (M.out.nth 1 rfl).two.2; have k4 := (M.out.nth 2 rfl).two.1; have k5 := (M.out.nth 2 rfl).two.2; have k6 := (M.out.nth 3 rfl).two.1; have k7 := (M.out.nth 3 rfl).two.2; have k8 := (M.out.nth 4 rfl).two.1; have k9 := (M.out.nth 4 rfl).two.2)
        | (go_at_call 50; (with_reducible refine (cH2.out _).mono ?_); rintro rr w9 ⟨rfl, hb⟩; replace M := Lib.hid (M.out.below hb); clear hb; clear k0 k1 k2 k3 k4 k5 k6 k7 k8 k9; have k0 := (M.out.nth 0 rfl).two.1; have k1 := (M.out.nth 0 rfl).two.2; have k2 := (M.out.nth 1 rfl).two.1; have k3 := (M.out.nth 1 rfl).two.2; have k4 := (M.out.nth 2 rfl).two.1; have k5 := (M.out.nth 2 rfl).two.2; have k6 := (M.out.nth 3 rfl).two.1; have k7 := (M.out.nth 3 rfl).two.2; have k8 := (M.out.nth 4 rfl).two.1; have k9 := (M.out.nth 4 rfl).two.2)
        | (go_at_call 40; (with_reducible refine (cRh.out _).mono ?_); rintro rr w9 ⟨rfl, hb⟩; replace M := Lib.hid (M.out.below hb); clear hb; clear k0 k1 k2 k3 k4 k5 k6 k7 k8 k9; have k0 := (M.out.nth 0 rfl).two.1; have k1 := (M.out.nth 0 rfl).two.2; have k2 := (M.out.nth 1 rfl).two.1; have k3 := (M.out.nth 1 rfl).two.2; have k4 := (M.out.nth 2 rfl).two.1; have k5 := (M.out.nth 2 rfl).two.2; have k6 := (M.out.nth 3 rfl).two.1; have k7 := (M.out.nth 3 rfl).two.2; have k8 := (M.out.nth 4 rfl).two.1; have k9 := (M.out.nth 4 rfl).two.2))
    all_goals (go_wp2_with fail; go_meet)
    all_goals exact ⟨rfl, M.out⟩
  case rest =>
    clear hp hq hs z3 z4 z5 M O1 O2
    obtain ⟨w6, rfl⟩ : ∃ x : World, x = wc := ⟨_, rfl⟩
    obtain ⟨rfl, hM⟩ := hcut
    have M := Lib.hid hM
    clear hM
    go_upto_region 8 with fail
    go_cut [123] (fun v wx => v = .bool false ∧ MeetsMem w al ah bl bh ml mh hl hh p q s wx)
    case first =>
      have k0 := (M.out.nth 0 rfl).two.1
      have k1 := (M.out.nth 0 rfl).two.2
      have k2 := (M.out.nth 1 rfl).two.1
      have k3 := (M.out.nth 1 rfl).two.2
      have k4 := (M.out.nth 2 rfl).two.1
      have k5 := (M.out.nth 2 rfl).two.2
      have k6 := (M.out.nth 3 rfl).two.1
      have k7 := (M.out.nth 3 rfl).two.2
      have k8 := (M.out.nth 4 rfl).two.1
      have k9 := (M.out.nth 4 rfl).two.2
      have M : Hid (Mem w _ _) := Lib.hid (Mem.drew M.out)
      cases xa <;> cases xb
      · skip
        refine wp_region_noPanic ?_
        refine wp_region_held_drew (S := fun w' => w'.cell? ⟨w.heap.size, 0, none⟩ = some (.float .f64 al) ∧ w'.cell? ⟨w.heap.size, 1, none⟩ = some (.float .f64 ah) ∧ w'.cell? ⟨w.heap.size + 1, 0, none⟩ = some (.float .f64 bl) ∧ w'.cell? ⟨w.heap.size + 1, 1, none⟩ = some (.float .f64 bh) ∧ w'.cell? ⟨p, 0, none⟩ = some (.float .f64 ml) ∧ w'.cell? ⟨p, 1, none⟩ = some (.float .f64 mh) ∧ w'.cell? ⟨q, 0, none⟩ = some (.float .f64 ml) ∧ w'.cell? ⟨q, 1, none⟩ = some (.float .f64 mh) ∧ w'.cell? ⟨s, 0, none⟩ = some (.float .f64 hl) ∧ w'.cell? ⟨s, 1, none⟩ = some (.float .f64 hh)) (by kernel_rfl) ?_ (fun hHeld => ?_)
        · (first | (go_keep; done) | (dsimp only; go_keep))
        refine wpAnyH_take (i := 0) (oi := { dst := some 78, op := Op.move (Operand.tmp 8), type := 4, pos := "outright.go:144", after := #[], guard := none }) (v := ?_) rfl (by kernel_rfl) (by kernel_rfl) (by kernel_rfl) (fun _ _ _ h => h) (Or.inl ⟨by rfl, ?_⟩) (by assumption) ?_
        rotate_left; focus (intro w hSw; (try dsimp only at hSw); go_simp; first | done | with_reducible rfl)
        try simp only [Act.put, List.setIfInBounds_toArray, List.set_cons_zero, List.set_cons_succ]
        refine wpAnyH_take (i := 1) (oi := { dst := some 79, op := Op.move (Operand.tmp 78), type := 4, pos := "outright.go:144", after := #[{ on := 0, ground := Ground.data }], guard := none }) (v := ?_) rfl (by kernel_rfl) (by kernel_rfl) (by kernel_rfl) (fun _ _ _ h => h) (Or.inl ⟨by rfl, ?_⟩) (by assumption) ?_
        rotate_left; focus (intro w hSw; (try dsimp only at hSw); go_simp; first | done | with_reducible rfl)
        try simp only [Act.put, List.setIfInBounds_toArray, List.set_cons_zero, List.set_cons_succ]
        refine wpAnyH_take (i := 2) (oi := { dst := some 80, op := Op.load 41 (Operand.tmp 7), type := 41, pos := "outright.go:144", after := #[{ on := 1, ground := Ground.guard }], guard := some (1, true) }) (v := ?_) rfl (by kernel_rfl) (by kernel_rfl) (by kernel_rfl) (fun _ _ _ h => h) (Or.inl ⟨by rfl, ?_⟩) (by assumption) ?_
        rotate_left; focus (intro w hSw; (try dsimp only at hSw); go_simp; first | done | with_reducible rfl)
        try simp only [Act.put, List.setIfInBounds_toArray, List.set_cons_zero, List.set_cons_succ]
        refine wpAnyH_ready (rs := [3]) (by kernel_rfl) (by simp) ?_
        refine AllReadyH.cons (o := { dst := some 81, op := Op.call { callee := Callee.value (Operand.func 40), args := #[Operand.tmp 80], argTypes := #[41] }, type := 4, pos := "outright.go:144", after := #[{ on := 2, ground := Ground.data }, { on := 1, ground := Ground.chain }, { on := 1, ground := Ground.guard }], guard := some (1, true) }) rfl (fun K hK => ?_) AllReadyH.nil
        go_simp
        ((with_reducible refine (cRm.out _).mono ?_); rintro rr w9 ⟨rfl, hb⟩; replace M := Lib.hid (M.out.below hb); clear hb; clear k0 k1 k2 k3 k4 k5 k6 k7 k8 k9; have k0 := (M.out.nth 0 rfl).two.1; have k1 := (M.out.nth 0 rfl).two.2; have k2 := (M.out.nth 1 rfl).two.1; have k3 := (M.out.nth 1 rfl).two.2; have k4 := (M.out.nth 2 rfl).two.1; have k5 := (M.out.nth 2 rfl).two.2; have k6 := (M.out.nth 3 rfl).two.1; have k7 := (M.out.nth 3 rfl).two.2; have k8 := (M.out.nth 4 rfl).two.1; have k9 := (M.out.nth 4 rfl).two.2)
        try go_wp2_with fail
        refine hK.out _ _ ?_ (fun hHeld => ?_)
        · ((try dsimp only); go_keep)
        clear hK K
        try simp only [Act.put, List.setIfInBounds_toArray, List.set_cons_zero, List.set_cons_succ]
        refine wpAnyH_take (i := 4) (oi := { dst := some 82, op := Op.unOp UnOp.not 4 (Operand.tmp 81), type := 4, pos := "outright.go:144", after := #[{ on := 3, ground := Ground.data }, { on := 1, ground := Ground.guard }], guard := some (1, true) }) (v := ?_) rfl (by kernel_rfl) (by kernel_rfl) (by kernel_rfl) (fun _ _ _ h => h) (Or.inl ⟨by rfl, ?_⟩) (by assumption) ?_
        rotate_left; focus (intro w hSw; (try dsimp only at hSw); go_simp; first | done | with_reducible rfl)
        try simp only [Act.put, List.setIfInBounds_toArray, List.set_cons_zero, List.set_cons_succ]
        refine wpAnyH_take (i := 5) (oi := { dst := some 83, op := Op.move (Operand.tmp 82), type := 4, pos := "outright.go:144", after := #[{ on := 4, ground := Ground.data }, { on := 3, ground := Ground.chain }, { on := 1, ground := Ground.guard }], guard := some (1, true) }) (v := ?_) rfl (by kernel_rfl) (by kernel_rfl) (by kernel_rfl) (fun _ _ _ h => h) (Or.inl ⟨by rfl, ?_⟩) (by assumption) ?_
        rotate_left; focus (intro w hSw; (try dsimp only at hSw); go_simp; first | done | with_reducible rfl)
        try simp only [Act.put, List.setIfInBounds_toArray, List.set_cons_zero, List.set_cons_succ]
        refine wpAnyH_take (i := 6) (oi := { dst := some 84, op := Op.load 41 (Operand.tmp 7), type := 41, pos := "outright.go:144", after := #[{ on := 5, ground := Ground.guard }], guard := some (5, false) }) (v := ?_) rfl (by kernel_rfl) (by kernel_rfl) (by kernel_rfl) (fun _ _ _ h => h) (Or.inl ⟨by rfl, ?_⟩) (by assumption) ?_
        rotate_left; focus (intro w hSw; (try dsimp only at hSw); go_simp; first | done | with_reducible rfl)
        try simp only [Act.put, List.setIfInBounds_toArray, List.set_cons_zero, List.set_cons_succ]
        refine wpAnyH_take (i := 7) (oi := { dst := some 85, op := Op.move (Operand.tmp 2), type := 22, pos := "outright.go:144", after := #[{ on := 5, ground := Ground.guard }], guard := some (5, false) }) (v := ?_) rfl (by kernel_rfl) (by kernel_rfl) (by kernel_rfl) (fun _ _ _ h => h) (Or.inl ⟨by rfl, ?_⟩) (by assumption) ?_
        rotate_left; focus (intro w hSw; (try dsimp only at hSw); go_simp; first | done | with_reducible rfl)
        try simp only [Act.put, List.setIfInBounds_toArray, List.set_cons_zero, List.set_cons_succ]
        refine wpAnyH_take (i := 9) (oi := { dst := some 87, op := Op.load 41 (Operand.tmp 3), type := 41, pos := "outright.go:144", after := #[{ on := 5, ground := Ground.guard }], guard := some (5, false) }) (v := ?_) rfl (by kernel_rfl) (by kernel_rfl) (by kernel_rfl) (fun _ _ _ h => h) (Or.inl ⟨by rfl, ?_⟩) (by assumption) ?_
        rotate_left; focus (intro w hSw; (try dsimp only at hSw); go_simp; first | done | with_reducible rfl)
        try simp only [Act.put, List.setIfInBounds_toArray, List.set_cons_zero, List.set_cons_succ]
        refine wpAnyH_take (i := 10) (oi := { dst := some 88, op := Op.move (Operand.tmp 2), type := 22, pos := "outright.go:144", after := #[{ on := 5, ground := Ground.guard }], guard := some (5, false) }) (v := ?_) rfl (by kernel_rfl) (by kernel_rfl) (by kernel_rfl) (fun _ _ _ h => h) (Or.inl ⟨by rfl, ?_⟩) (by assumption) ?_
        rotate_left; focus (intro w hSw; (try dsimp only at hSw); go_simp; first | done | with_reducible rfl)
        try simp only [Act.put, List.setIfInBounds_toArray, List.set_cons_zero, List.set_cons_succ]
        refine wpAnyH_ready (rs := [8]) (by kernel_rfl) (by simp) ?_
        refine AllReadyH.cons (o := { dst := some 86, op := Op.call { callee := Callee.value (Operand.func 51), args := #[Operand.tmp 84, Operand.tmp 85], argTypes := #[41, 22] }, type := 4, pos := "outright.go:144", after := #[{ on := 6, ground := Ground.data }, { on := 7, ground := Ground.data }, { on := 5, ground := Ground.chain }, { on := 5, ground := Ground.guard }], guard := some (5, false) }) rfl (fun K hK => ?_) AllReadyH.nil
        go_simp
        ((with_reducible refine (cXm.out _).mono ?_); rintro rr w9 ⟨rfl, hb⟩; replace M := Lib.hid (M.out.below hb); clear hb; clear k0 k1 k2 k3 k4 k5 k6 k7 k8 k9; have k0 := (M.out.nth 0 rfl).two.1; have k1 := (M.out.nth 0 rfl).two.2; have k2 := (M.out.nth 1 rfl).two.1; have k3 := (M.out.nth 1 rfl).two.2; have k4 := (M.out.nth 2 rfl).two.1; have k5 := (M.out.nth 2 rfl).two.2; have k6 := (M.out.nth 3 rfl).two.1; have k7 := (M.out.nth 3 rfl).two.2; have k8 := (M.out.nth 4 rfl).two.1; have k9 := (M.out.nth 4 rfl).two.2)
        try go_wp2_with fail
        refine hK.out _ _ ?_ (fun hHeld => ?_)
        · ((try dsimp only); go_keep)
        clear hK K
        try simp only [Act.put, List.setIfInBounds_toArray, List.set_cons_zero, List.set_cons_succ]
        refine wpAnyH_ready (rs := [11]) (by kernel_rfl) (by simp) ?_
        refine AllReadyH.cons (o := { dst := some 89, op := Op.call { callee := Callee.value (Operand.func 51), args := #[Operand.tmp 87, Operand.tmp 88], argTypes := #[41, 22] }, type := 4, pos := "outright.go:144", after := #[{ on := 9, ground := Ground.data }, { on := 10, ground := Ground.data }, { on := 8, ground := Ground.chain }, { on := 5, ground := Ground.guard }], guard := some (5, false) }) rfl (fun K hK => ?_) AllReadyH.nil
        go_simp
        ((with_reducible refine (cXa.out _).mono ?_); rintro rr w9 ⟨rfl, hb⟩; replace M := Lib.hid (M.out.below hb); clear hb; clear k0 k1 k2 k3 k4 k5 k6 k7 k8 k9; have k0 := (M.out.nth 0 rfl).two.1; have k1 := (M.out.nth 0 rfl).two.2; have k2 := (M.out.nth 1 rfl).two.1; have k3 := (M.out.nth 1 rfl).two.2; have k4 := (M.out.nth 2 rfl).two.1; have k5 := (M.out.nth 2 rfl).two.2; have k6 := (M.out.nth 3 rfl).two.1; have k7 := (M.out.nth 3 rfl).two.2; have k8 := (M.out.nth 4 rfl).two.1; have k9 := (M.out.nth 4 rfl).two.2)
        try go_wp2_with fail
        refine hK.out _ _ ?_ (fun hHeld => ?_)
        · ((try dsimp only); go_keep)
        clear hK K
        try simp only [Act.put, List.setIfInBounds_toArray, List.set_cons_zero, List.set_cons_succ]
        refine wpAnyH_take (i := 12) (oi := { dst := some 90, op := Op.move (Operand.tmp 89), type := 4, pos := "outright.go:144", after := #[{ on := 11, ground := Ground.data }, { on := 11, ground := Ground.chain }, { on := 5, ground := Ground.guard }], guard := some (5, false) }) (v := ?_) rfl (by kernel_rfl) (by kernel_rfl) (by kernel_rfl) (fun _ _ _ h => h) (Or.inl ⟨by rfl, ?_⟩) (by assumption) ?_
        rotate_left; focus (intro w hSw; (try dsimp only at hSw); go_simp; first | done | with_reducible rfl)
        try simp only [Act.put, List.setIfInBounds_toArray, List.set_cons_zero, List.set_cons_succ]
        refine wpAnyH_take (i := 13) (oi := { dst := some 91, op := Op.load 41 (Operand.tmp 4), type := 41, pos := "outright.go:144", after := #[{ on := 12, ground := Ground.guard }], guard := some (12, true) }) (v := undef) rfl (by kernel_rfl) (by kernel_rfl) (by kernel_rfl) (fun _ _ _ h => h) (Or.inr ⟨by rfl, rfl⟩) (by assumption) ?_
        try simp only [Act.put, List.setIfInBounds_toArray, List.set_cons_zero, List.set_cons_succ]
        refine wpAnyH_take (i := 14) (oi := { dst := some 92, op := Op.move (Operand.tmp 2), type := 22, pos := "outright.go:144", after := #[{ on := 12, ground := Ground.guard }], guard := some (12, true) }) (v := undef) rfl (by kernel_rfl) (by kernel_rfl) (by kernel_rfl) (fun _ _ _ h => h) (Or.inr ⟨by rfl, rfl⟩) (by assumption) ?_
        try simp only [Act.put, List.setIfInBounds_toArray, List.set_cons_zero, List.set_cons_succ]
        refine wpAnyH_ready (rs := [15]) (by kernel_rfl) (by simp) ?_
        refine AllReadyH.cons (o := { dst := some 93, op := Op.call { callee := Callee.value (Operand.func 51), args := #[Operand.tmp 91, Operand.tmp 92], argTypes := #[41, 22] }, type := 4, pos := "outright.go:144", after := #[{ on := 13, ground := Ground.data }, { on := 14, ground := Ground.data }, { on := 12, ground := Ground.chain }, { on := 12, ground := Ground.guard }], guard := some (12, true) }) rfl (fun K hK => ?_) AllReadyH.nil
        go_simp
        refine hK.out _ _ ?_ (fun hHeld => ?_)
        · ((try dsimp only); go_keep)
        clear hK K
        try simp only [Act.put, List.setIfInBounds_toArray, List.set_cons_zero, List.set_cons_succ]
        refine wpAnyH_take (i := 16) (oi := { dst := some 94, op := Op.pick (Operand.tmp 90) (Operand.tmp 93) (Operand.const (Value.bool false)), type := 4, pos := "outright.go:144", after := #[{ on := 12, ground := Ground.data }, { on := 15, ground := Ground.data }, { on := 5, ground := Ground.guard }], guard := some (5, false) }) (v := ?_) rfl (by kernel_rfl) (by kernel_rfl) (by kernel_rfl) (fun _ _ _ h => h) (Or.inl ⟨by rfl, ?_⟩) (by assumption) ?_
        rotate_left; focus (intro w hSw; (try dsimp only at hSw); go_simp; first | done | with_reducible rfl)
        try simp only [Act.put, List.setIfInBounds_toArray, List.set_cons_zero, List.set_cons_succ]
        refine wpAnyH_take (i := 17) (oi := { dst := some 95, op := Op.binOp BinOp.neq 4 (Operand.tmp 86) (Operand.tmp 94) 4, type := 4, pos := "outright.go:144", after := #[{ on := 8, ground := Ground.data }, { on := 16, ground := Ground.data }, { on := 5, ground := Ground.guard }], guard := some (5, false) }) (v := ?_) rfl (by kernel_rfl) (by kernel_rfl) (by kernel_rfl) (fun _ _ _ h => h) (Or.inl ⟨by rfl, ?_⟩) (by assumption) ?_
        rotate_left; focus (intro w hSw; (try dsimp only at hSw); go_simp; first | done | with_reducible rfl)
        try simp only [Act.put, List.setIfInBounds_toArray, List.set_cons_zero, List.set_cons_succ]
        refine wpAnyH_take (i := 18) (oi := { dst := some 96, op := Op.pick (Operand.tmp 83) (Operand.const (Value.bool true)) (Operand.tmp 95), type := 4, pos := "outright.go:144", after := #[{ on := 5, ground := Ground.data }, { on := 17, ground := Ground.data }, { on := 1, ground := Ground.guard }], guard := some (1, true) }) (v := ?_) rfl (by kernel_rfl) (by kernel_rfl) (by kernel_rfl) (fun _ _ _ h => h) (Or.inl ⟨by rfl, ?_⟩) (by assumption) ?_
        rotate_left; focus (intro w hSw; (try dsimp only at hSw); go_simp; first | done | with_reducible rfl)
        try simp only [Act.put, List.setIfInBounds_toArray, List.set_cons_zero, List.set_cons_succ]
        refine wpAnyH_take (i := 19) (oi := { dst := some 97, op := Op.pick (Operand.tmp 79) (Operand.tmp 96) (Operand.const (Value.bool false)), type := 4, pos := "outright.go:144", after := #[{ on := 1, ground := Ground.data }, { on := 18, ground := Ground.data }], guard := none }) (v := ?_) rfl (by kernel_rfl) (by kernel_rfl) (by kernel_rfl) (fun _ _ _ h => h) (Or.inl ⟨by rfl, ?_⟩) (by assumption) ?_
        rotate_left; focus (intro w hSw; (try dsimp only at hSw); go_simp; first | done | with_reducible rfl)
        try simp only [Act.put, List.setIfInBounds_toArray, List.set_cons_zero, List.set_cons_succ]
        refine wpAnyH_take (i := 20) (oi := { dst := some 98, op := Op.move (Operand.tmp 97), type := 4, pos := "outright.go:144", after := #[{ on := 19, ground := Ground.data }, { on := 15, ground := Ground.chain }], guard := none }) (v := ?_) rfl (by kernel_rfl) (by kernel_rfl) (by kernel_rfl) (fun _ _ _ h => h) (Or.inl ⟨by rfl, ?_⟩) (by assumption) ?_
        rotate_left; focus (intro w hSw; (try dsimp only at hSw); go_simp; first | done | with_reducible rfl)
        try simp only [Act.put, List.setIfInBounds_toArray, List.set_cons_zero, List.set_cons_succ]
        refine wpAnyH_take (i := 21) (oi := { dst := some 99, op := Op.move (Operand.tmp 8), type := 4, pos := "outright.go:144", after := #[{ on := 20, ground := Ground.guard }], guard := some (20, false) }) (v := ?_) rfl (by kernel_rfl) (by kernel_rfl) (by kernel_rfl) (fun _ _ _ h => h) (Or.inl ⟨by rfl, ?_⟩) (by assumption) ?_
        rotate_left; focus (intro w hSw; (try dsimp only at hSw); go_simp; first | done | with_reducible rfl)
        try simp only [Act.put, List.setIfInBounds_toArray, List.set_cons_zero, List.set_cons_succ]
        refine wpAnyH_take (i := 22) (oi := { dst := some 100, op := Op.unOp UnOp.not 4 (Operand.tmp 99), type := 4, pos := "outright.go:144", after := #[{ on := 21, ground := Ground.data }, { on := 20, ground := Ground.guard }], guard := some (20, false) }) (v := ?_) rfl (by kernel_rfl) (by kernel_rfl) (by kernel_rfl) (fun _ _ _ h => h) (Or.inl ⟨by rfl, ?_⟩) (by assumption) ?_
        rotate_left; focus (intro w hSw; (try dsimp only at hSw); go_simp; first | done | with_reducible rfl)
        try simp only [Act.put, List.setIfInBounds_toArray, List.set_cons_zero, List.set_cons_succ]
        refine wpAnyH_take (i := 23) (oi := { dst := some 101, op := Op.move (Operand.tmp 100), type := 4, pos := "outright.go:144", after := #[{ on := 22, ground := Ground.data }, { on := 20, ground := Ground.chain }, { on := 20, ground := Ground.guard }], guard := some (20, false) }) (v := ?_) rfl (by kernel_rfl) (by kernel_rfl) (by kernel_rfl) (fun _ _ _ h => h) (Or.inl ⟨by rfl, ?_⟩) (by assumption) ?_
        rotate_left; focus (intro w hSw; (try dsimp only at hSw); go_simp; first | done | with_reducible rfl)
        try simp only [Act.put, List.setIfInBounds_toArray, List.set_cons_zero, List.set_cons_succ]
        refine wpAnyH_take (i := 24) (oi := { dst := some 102, op := Op.load 41 (Operand.tmp 7), type := 41, pos := "outright.go:144", after := #[{ on := 23, ground := Ground.guard }], guard := some (23, true) }) (v := undef) rfl (by kernel_rfl) (by kernel_rfl) (by kernel_rfl) (fun _ _ _ h => h) (Or.inr ⟨by rfl, rfl⟩) (by assumption) ?_
        try simp only [Act.put, List.setIfInBounds_toArray, List.set_cons_zero, List.set_cons_succ]
        refine wpAnyH_take (i := 25) (oi := { dst := some 103, op := Op.build 41 #[], type := 41, pos := "outright.go:144", after := #[{ on := 23, ground := Ground.guard }], guard := some (23, true) }) (v := undef) rfl (by kernel_rfl) (by kernel_rfl) (by kernel_rfl) (fun _ _ _ h => h) (Or.inr ⟨by rfl, rfl⟩) (by assumption) ?_
        try simp only [Act.put, List.setIfInBounds_toArray, List.set_cons_zero, List.set_cons_succ]
        refine wpAnyH_ready (rs := [26]) (by kernel_rfl) (by simp) ?_
        refine AllReadyH.cons (o := { dst := some 104, op := Op.call { callee := Callee.value (Operand.func 44), args := #[Operand.tmp 102, Operand.tmp 103], argTypes := #[41, 41] }, type := 4, pos := "outright.go:144", after := #[{ on := 24, ground := Ground.data }, { on := 25, ground := Ground.data }, { on := 23, ground := Ground.chain }, { on := 23, ground := Ground.guard }], guard := some (23, true) }) rfl (fun K hK => ?_) AllReadyH.nil
        go_simp
        refine hK.out _ _ ?_ (fun hHeld => ?_)
        · ((try dsimp only); go_keep)
        clear hK K
        try simp only [Act.put, List.setIfInBounds_toArray, List.set_cons_zero, List.set_cons_succ]
        refine wpAnyH_take (i := 27) (oi := { dst := some 105, op := Op.unOp UnOp.not 4 (Operand.tmp 104), type := 4, pos := "outright.go:144", after := #[{ on := 26, ground := Ground.data }, { on := 23, ground := Ground.guard }], guard := some (23, true) }) (v := undef) rfl (by kernel_rfl) (by kernel_rfl) (by kernel_rfl) (fun _ _ _ h => h) (Or.inr ⟨by rfl, rfl⟩) (by assumption) ?_
        try simp only [Act.put, List.setIfInBounds_toArray, List.set_cons_zero, List.set_cons_succ]
        refine wpAnyH_take (i := 28) (oi := { dst := some 106, op := Op.pick (Operand.tmp 101) (Operand.tmp 105) (Operand.const (Value.bool false)), type := 4, pos := "outright.go:144", after := #[{ on := 23, ground := Ground.data }, { on := 27, ground := Ground.data }, { on := 20, ground := Ground.guard }], guard := some (20, false) }) (v := ?_) rfl (by kernel_rfl) (by kernel_rfl) (by kernel_rfl) (fun _ _ _ h => h) (Or.inl ⟨by rfl, ?_⟩) (by assumption) ?_
        rotate_left; focus (intro w hSw; (try dsimp only at hSw); go_simp; first | done | with_reducible rfl)
        try simp only [Act.put, List.setIfInBounds_toArray, List.set_cons_zero, List.set_cons_succ]
        refine wpAnyH_take (i := 29) (oi := { dst := some 107, op := Op.pick (Operand.tmp 98) (Operand.const (Value.bool true)) (Operand.tmp 106), type := 4, pos := "outright.go:144", after := #[{ on := 20, ground := Ground.data }, { on := 28, ground := Ground.data }], guard := none }) (v := ?_) rfl (by kernel_rfl) (by kernel_rfl) (by kernel_rfl) (fun _ _ _ h => h) (Or.inl ⟨by rfl, ?_⟩) (by assumption) ?_
        rotate_left; focus (intro w hSw; (try dsimp only at hSw); go_simp; first | done | with_reducible rfl)
        try simp only [Act.put, List.setIfInBounds_toArray, List.set_cons_zero, List.set_cons_succ]
        refine wpAnyH_take (i := 30) (oi := { dst := some 108, op := Op.move (Operand.tmp 107), type := 4, pos := "outright.go:144", after := #[{ on := 29, ground := Ground.data }, { on := 26, ground := Ground.chain }], guard := none }) (v := ?_) rfl (by kernel_rfl) (by kernel_rfl) (by kernel_rfl) (fun _ _ _ h => h) (Or.inl ⟨by rfl, ?_⟩) (by assumption) ?_
        rotate_left; focus (intro w hSw; (try dsimp only at hSw); go_simp; first | done | with_reducible rfl)
        try simp only [Act.put, List.setIfInBounds_toArray, List.set_cons_zero, List.set_cons_succ]
        refine wpAnyH_take (i := 31) (oi := { dst := some 109, op := Op.load 41 (Operand.tmp 3), type := 41, pos := "outright.go:144", after := #[{ on := 30, ground := Ground.guard }], guard := some (30, false) }) (v := ?_) rfl (by kernel_rfl) (by kernel_rfl) (by kernel_rfl) (fun _ _ _ h => h) (Or.inl ⟨by rfl, ?_⟩) (by assumption) ?_
        rotate_left; focus (intro w hSw; (try dsimp only at hSw); go_simp; first | done | with_reducible rfl)
        try simp only [Act.put, List.setIfInBounds_toArray, List.set_cons_zero, List.set_cons_succ]
        refine wpAnyH_take (i := 32) (oi := { dst := some 110, op := Op.move (Operand.tmp 2), type := 22, pos := "outright.go:144", after := #[{ on := 30, ground := Ground.guard }], guard := some (30, false) }) (v := ?_) rfl (by kernel_rfl) (by kernel_rfl) (by kernel_rfl) (fun _ _ _ h => h) (Or.inl ⟨by rfl, ?_⟩) (by assumption) ?_
        rotate_left; focus (intro w hSw; (try dsimp only at hSw); go_simp; first | done | with_reducible rfl)
        try simp only [Act.put, List.setIfInBounds_toArray, List.set_cons_zero, List.set_cons_succ]
        refine wpAnyH_ready (rs := [33]) (by kernel_rfl) (by simp) ?_
        refine AllReadyH.cons (o := { dst := some 111, op := Op.call { callee := Callee.value (Operand.func 51), args := #[Operand.tmp 109, Operand.tmp 110], argTypes := #[41, 22] }, type := 4, pos := "outright.go:144", after := #[{ on := 31, ground := Ground.data }, { on := 32, ground := Ground.data }, { on := 30, ground := Ground.chain }, { on := 30, ground := Ground.guard }], guard := some (30, false) }) rfl (fun K hK => ?_) AllReadyH.nil
        go_simp
        ((with_reducible refine (cXa.out _).mono ?_); rintro rr w9 ⟨rfl, hb⟩; replace M := Lib.hid (M.out.below hb); clear hb; clear k0 k1 k2 k3 k4 k5 k6 k7 k8 k9; have k0 := (M.out.nth 0 rfl).two.1; have k1 := (M.out.nth 0 rfl).two.2; have k2 := (M.out.nth 1 rfl).two.1; have k3 := (M.out.nth 1 rfl).two.2; have k4 := (M.out.nth 2 rfl).two.1; have k5 := (M.out.nth 2 rfl).two.2; have k6 := (M.out.nth 3 rfl).two.1; have k7 := (M.out.nth 3 rfl).two.2; have k8 := (M.out.nth 4 rfl).two.1; have k9 := (M.out.nth 4 rfl).two.2)
        try go_wp2_with fail
        refine hK.out _ _ ?_ (fun hHeld => ?_)
        · ((try dsimp only); go_keep)
        clear hK K
        try simp only [Act.put, List.setIfInBounds_toArray, List.set_cons_zero, List.set_cons_succ]
        refine wpAnyH_take (i := 34) (oi := { dst := some 112, op := Op.move (Operand.tmp 111), type := 4, pos := "outright.go:144", after := #[{ on := 33, ground := Ground.data }, { on := 33, ground := Ground.chain }, { on := 30, ground := Ground.guard }], guard := some (30, false) }) (v := ?_) rfl (by kernel_rfl) (by kernel_rfl) (by kernel_rfl) (fun _ _ _ h => h) (Or.inl ⟨by rfl, ?_⟩) (by assumption) ?_
        rotate_left; focus (intro w hSw; (try dsimp only at hSw); go_simp; first | done | with_reducible rfl)
        try simp only [Act.put, List.setIfInBounds_toArray, List.set_cons_zero, List.set_cons_succ]
        refine wpAnyH_take (i := 35) (oi := { dst := some 113, op := Op.load 41 (Operand.tmp 4), type := 41, pos := "outright.go:144", after := #[{ on := 34, ground := Ground.guard }], guard := some (34, false) }) (v := ?_) rfl (by kernel_rfl) (by kernel_rfl) (by kernel_rfl) (fun _ _ _ h => h) (Or.inl ⟨by rfl, ?_⟩) (by assumption) ?_
        rotate_left; focus (intro w hSw; (try dsimp only at hSw); go_simp; first | done | with_reducible rfl)
        try simp only [Act.put, List.setIfInBounds_toArray, List.set_cons_zero, List.set_cons_succ]
        refine wpAnyH_take (i := 36) (oi := { dst := some 114, op := Op.move (Operand.tmp 2), type := 22, pos := "outright.go:144", after := #[{ on := 34, ground := Ground.guard }], guard := some (34, false) }) (v := ?_) rfl (by kernel_rfl) (by kernel_rfl) (by kernel_rfl) (fun _ _ _ h => h) (Or.inl ⟨by rfl, ?_⟩) (by assumption) ?_
        rotate_left; focus (intro w hSw; (try dsimp only at hSw); go_simp; first | done | with_reducible rfl)
        try simp only [Act.put, List.setIfInBounds_toArray, List.set_cons_zero, List.set_cons_succ]
        refine wpAnyH_ready (rs := [37]) (by kernel_rfl) (by simp) ?_
        refine AllReadyH.cons (o := { dst := some 115, op := Op.call { callee := Callee.value (Operand.func 51), args := #[Operand.tmp 113, Operand.tmp 114], argTypes := #[41, 22] }, type := 4, pos := "outright.go:144", after := #[{ on := 35, ground := Ground.data }, { on := 36, ground := Ground.data }, { on := 34, ground := Ground.chain }, { on := 34, ground := Ground.guard }], guard := some (34, false) }) rfl (fun K hK => ?_) AllReadyH.nil
        go_simp
        ((with_reducible refine (cXb.out _).mono ?_); rintro rr w9 ⟨rfl, hb⟩; replace M := Lib.hid (M.out.below hb); clear hb; clear k0 k1 k2 k3 k4 k5 k6 k7 k8 k9; have k0 := (M.out.nth 0 rfl).two.1; have k1 := (M.out.nth 0 rfl).two.2; have k2 := (M.out.nth 1 rfl).two.1; have k3 := (M.out.nth 1 rfl).two.2; have k4 := (M.out.nth 2 rfl).two.1; have k5 := (M.out.nth 2 rfl).two.2; have k6 := (M.out.nth 3 rfl).two.1; have k7 := (M.out.nth 3 rfl).two.2; have k8 := (M.out.nth 4 rfl).two.1; have k9 := (M.out.nth 4 rfl).two.2)
        try go_wp2_with fail
        refine hK.out _ _ ?_ (fun hHeld => ?_)
        · ((try dsimp only); go_keep)
        clear hK K
        try simp only [Act.put, List.setIfInBounds_toArray, List.set_cons_zero, List.set_cons_succ]
        refine wpAnyH_take (i := 38) (oi := { dst := some 116, op := Op.pick (Operand.tmp 112) (Operand.const (Value.bool true)) (Operand.tmp 115), type := 4, pos := "outright.go:144", after := #[{ on := 34, ground := Ground.data }, { on := 37, ground := Ground.data }, { on := 30, ground := Ground.guard }], guard := some (30, false) }) (v := ?_) rfl (by kernel_rfl) (by kernel_rfl) (by kernel_rfl) (fun _ _ _ h => h) (Or.inl ⟨by rfl, ?_⟩) (by assumption) ?_
        rotate_left; focus (intro w hSw; (try dsimp only at hSw); go_simp; first | done | with_reducible rfl)
        try simp only [Act.put, List.setIfInBounds_toArray, List.set_cons_zero, List.set_cons_succ]
        refine wpAnyH_take (i := 39) (oi := { dst := some 117, op := Op.move (Operand.tmp 116), type := 4, pos := "outright.go:144", after := #[{ on := 38, ground := Ground.data }, { on := 37, ground := Ground.chain }, { on := 30, ground := Ground.guard }], guard := some (30, false) }) (v := ?_) rfl (by kernel_rfl) (by kernel_rfl) (by kernel_rfl) (fun _ _ _ h => h) (Or.inl ⟨by rfl, ?_⟩) (by assumption) ?_
        rotate_left; focus (intro w hSw; (try dsimp only at hSw); go_simp; first | done | with_reducible rfl)
        try simp only [Act.put, List.setIfInBounds_toArray, List.set_cons_zero, List.set_cons_succ]
        refine wpAnyH_take (i := 40) (oi := { dst := some 118, op := Op.load 41 (Operand.tmp 11), type := 41, pos := "outright.go:144", after := #[{ on := 39, ground := Ground.guard }], guard := some (39, true) }) (v := undef) rfl (by kernel_rfl) (by kernel_rfl) (by kernel_rfl) (fun _ _ _ h => h) (Or.inr ⟨by rfl, rfl⟩) (by assumption) ?_
        try simp only [Act.put, List.setIfInBounds_toArray, List.set_cons_zero, List.set_cons_succ]
        refine wpAnyH_take (i := 41) (oi := { dst := some 119, op := Op.move (Operand.tmp 2), type := 22, pos := "outright.go:144", after := #[{ on := 39, ground := Ground.guard }], guard := some (39, true) }) (v := undef) rfl (by kernel_rfl) (by kernel_rfl) (by kernel_rfl) (fun _ _ _ h => h) (Or.inr ⟨by rfl, rfl⟩) (by assumption) ?_
        try simp only [Act.put, List.setIfInBounds_toArray, List.set_cons_zero, List.set_cons_succ]
        refine wpAnyH_ready (rs := [42]) (by kernel_rfl) (by simp) ?_
        refine AllReadyH.cons (o := { dst := some 120, op := Op.call { callee := Callee.value (Operand.func 51), args := #[Operand.tmp 118, Operand.tmp 119], argTypes := #[41, 22] }, type := 4, pos := "outright.go:144", after := #[{ on := 40, ground := Ground.data }, { on := 41, ground := Ground.data }, { on := 39, ground := Ground.chain }, { on := 39, ground := Ground.guard }], guard := some (39, true) }) rfl (fun K hK => ?_) AllReadyH.nil
        go_simp
        refine hK.out _ _ ?_ (fun hHeld => ?_)
        · ((try dsimp only); go_keep)
        clear hK K
        try simp only [Act.put, List.setIfInBounds_toArray, List.set_cons_zero, List.set_cons_succ]
        refine wpAnyH_take (i := 43) (oi := { dst := some 121, op := Op.unOp UnOp.not 4 (Operand.tmp 120), type := 4, pos := "outright.go:144", after := #[{ on := 42, ground := Ground.data }, { on := 39, ground := Ground.guard }], guard := some (39, true) }) (v := undef) rfl (by kernel_rfl) (by kernel_rfl) (by kernel_rfl) (fun _ _ _ h => h) (Or.inr ⟨by rfl, rfl⟩) (by assumption) ?_
        try simp only [Act.put, List.setIfInBounds_toArray, List.set_cons_zero, List.set_cons_succ]
        refine wpAnyH_take (i := 44) (oi := { dst := some 122, op := Op.pick (Operand.tmp 117) (Operand.tmp 121) (Operand.const (Value.bool false)), type := 4, pos := "outright.go:144", after := #[{ on := 39, ground := Ground.data }, { on := 43, ground := Ground.data }, { on := 30, ground := Ground.guard }], guard := some (30, false) }) (v := ?_) rfl (by kernel_rfl) (by kernel_rfl) (by kernel_rfl) (fun _ _ _ h => h) (Or.inl ⟨by rfl, ?_⟩) (by assumption) ?_
        rotate_left; focus (intro w hSw; (try dsimp only at hSw); go_simp; first | done | with_reducible rfl)
        try simp only [Act.put, List.setIfInBounds_toArray, List.set_cons_zero, List.set_cons_succ]
        refine wpAnyH_take (i := 45) (oi := { dst := some 123, op := Op.pick (Operand.tmp 108) (Operand.const (Value.bool true)) (Operand.tmp 122), type := 4, pos := "outright.go:144", after := #[{ on := 30, ground := Ground.data }, { on := 44, ground := Ground.data }], guard := none }) (v := ?_) rfl (by kernel_rfl) (by kernel_rfl) (by kernel_rfl) (fun _ _ _ h => h) (Or.inl ⟨by rfl, ?_⟩) (by assumption) ?_
        rotate_left; focus (intro w hSw; (try dsimp only at hSw); go_simp; first | done | with_reducible rfl)
        try simp only [Act.put, List.setIfInBounds_toArray, List.set_cons_zero, List.set_cons_succ]
        refine wpAnyH_done (by kernel_rfl) ?_ _
        refine NoPanic.normal ?_
        go_wp2_with fail
        go_meet
        exact ⟨rfl, M.out⟩
      · skip
        refine wp_region_noPanic ?_
        refine wp_region_held_drew (S := fun w' => w'.cell? ⟨w.heap.size, 0, none⟩ = some (.float .f64 al) ∧ w'.cell? ⟨w.heap.size, 1, none⟩ = some (.float .f64 ah) ∧ w'.cell? ⟨w.heap.size + 1, 0, none⟩ = some (.float .f64 bl) ∧ w'.cell? ⟨w.heap.size + 1, 1, none⟩ = some (.float .f64 bh) ∧ w'.cell? ⟨p, 0, none⟩ = some (.float .f64 ml) ∧ w'.cell? ⟨p, 1, none⟩ = some (.float .f64 mh) ∧ w'.cell? ⟨q, 0, none⟩ = some (.float .f64 ml) ∧ w'.cell? ⟨q, 1, none⟩ = some (.float .f64 mh) ∧ w'.cell? ⟨s, 0, none⟩ = some (.float .f64 hl) ∧ w'.cell? ⟨s, 1, none⟩ = some (.float .f64 hh)) (by kernel_rfl) ?_ (fun hHeld => ?_)
        · (first | (go_keep; done) | (dsimp only; go_keep))
        refine wpAnyH_take (i := 0) (oi := { dst := some 78, op := Op.move (Operand.tmp 8), type := 4, pos := "outright.go:144", after := #[], guard := none }) (v := ?_) rfl (by kernel_rfl) (by kernel_rfl) (by kernel_rfl) (fun _ _ _ h => h) (Or.inl ⟨by rfl, ?_⟩) (by assumption) ?_
        rotate_left; focus (intro w hSw; (try dsimp only at hSw); go_simp; first | done | with_reducible rfl)
        try simp only [Act.put, List.setIfInBounds_toArray, List.set_cons_zero, List.set_cons_succ]
        refine wpAnyH_take (i := 1) (oi := { dst := some 79, op := Op.move (Operand.tmp 78), type := 4, pos := "outright.go:144", after := #[{ on := 0, ground := Ground.data }], guard := none }) (v := ?_) rfl (by kernel_rfl) (by kernel_rfl) (by kernel_rfl) (fun _ _ _ h => h) (Or.inl ⟨by rfl, ?_⟩) (by assumption) ?_
        rotate_left; focus (intro w hSw; (try dsimp only at hSw); go_simp; first | done | with_reducible rfl)
        try simp only [Act.put, List.setIfInBounds_toArray, List.set_cons_zero, List.set_cons_succ]
        refine wpAnyH_take (i := 2) (oi := { dst := some 80, op := Op.load 41 (Operand.tmp 7), type := 41, pos := "outright.go:144", after := #[{ on := 1, ground := Ground.guard }], guard := some (1, true) }) (v := ?_) rfl (by kernel_rfl) (by kernel_rfl) (by kernel_rfl) (fun _ _ _ h => h) (Or.inl ⟨by rfl, ?_⟩) (by assumption) ?_
        rotate_left; focus (intro w hSw; (try dsimp only at hSw); go_simp; first | done | with_reducible rfl)
        try simp only [Act.put, List.setIfInBounds_toArray, List.set_cons_zero, List.set_cons_succ]
        refine wpAnyH_ready (rs := [3]) (by kernel_rfl) (by simp) ?_
        refine AllReadyH.cons (o := { dst := some 81, op := Op.call { callee := Callee.value (Operand.func 40), args := #[Operand.tmp 80], argTypes := #[41] }, type := 4, pos := "outright.go:144", after := #[{ on := 2, ground := Ground.data }, { on := 1, ground := Ground.chain }, { on := 1, ground := Ground.guard }], guard := some (1, true) }) rfl (fun K hK => ?_) AllReadyH.nil
        go_simp
        ((with_reducible refine (cRm.out _).mono ?_); rintro rr w9 ⟨rfl, hb⟩; replace M := Lib.hid (M.out.below hb); clear hb; clear k0 k1 k2 k3 k4 k5 k6 k7 k8 k9; have k0 := (M.out.nth 0 rfl).two.1; have k1 := (M.out.nth 0 rfl).two.2; have k2 := (M.out.nth 1 rfl).two.1; have k3 := (M.out.nth 1 rfl).two.2; have k4 := (M.out.nth 2 rfl).two.1; have k5 := (M.out.nth 2 rfl).two.2; have k6 := (M.out.nth 3 rfl).two.1; have k7 := (M.out.nth 3 rfl).two.2; have k8 := (M.out.nth 4 rfl).two.1; have k9 := (M.out.nth 4 rfl).two.2)
        try go_wp2_with fail
        refine hK.out _ _ ?_ (fun hHeld => ?_)
        · ((try dsimp only); go_keep)
        clear hK K
        try simp only [Act.put, List.setIfInBounds_toArray, List.set_cons_zero, List.set_cons_succ]
        refine wpAnyH_take (i := 4) (oi := { dst := some 82, op := Op.unOp UnOp.not 4 (Operand.tmp 81), type := 4, pos := "outright.go:144", after := #[{ on := 3, ground := Ground.data }, { on := 1, ground := Ground.guard }], guard := some (1, true) }) (v := ?_) rfl (by kernel_rfl) (by kernel_rfl) (by kernel_rfl) (fun _ _ _ h => h) (Or.inl ⟨by rfl, ?_⟩) (by assumption) ?_
        rotate_left; focus (intro w hSw; (try dsimp only at hSw); go_simp; first | done | with_reducible rfl)
        try simp only [Act.put, List.setIfInBounds_toArray, List.set_cons_zero, List.set_cons_succ]
        refine wpAnyH_take (i := 5) (oi := { dst := some 83, op := Op.move (Operand.tmp 82), type := 4, pos := "outright.go:144", after := #[{ on := 4, ground := Ground.data }, { on := 3, ground := Ground.chain }, { on := 1, ground := Ground.guard }], guard := some (1, true) }) (v := ?_) rfl (by kernel_rfl) (by kernel_rfl) (by kernel_rfl) (fun _ _ _ h => h) (Or.inl ⟨by rfl, ?_⟩) (by assumption) ?_
        rotate_left; focus (intro w hSw; (try dsimp only at hSw); go_simp; first | done | with_reducible rfl)
        try simp only [Act.put, List.setIfInBounds_toArray, List.set_cons_zero, List.set_cons_succ]
        refine wpAnyH_take (i := 6) (oi := { dst := some 84, op := Op.load 41 (Operand.tmp 7), type := 41, pos := "outright.go:144", after := #[{ on := 5, ground := Ground.guard }], guard := some (5, false) }) (v := ?_) rfl (by kernel_rfl) (by kernel_rfl) (by kernel_rfl) (fun _ _ _ h => h) (Or.inl ⟨by rfl, ?_⟩) (by assumption) ?_
        rotate_left; focus (intro w hSw; (try dsimp only at hSw); go_simp; first | done | with_reducible rfl)
        try simp only [Act.put, List.setIfInBounds_toArray, List.set_cons_zero, List.set_cons_succ]
        refine wpAnyH_take (i := 7) (oi := { dst := some 85, op := Op.move (Operand.tmp 2), type := 22, pos := "outright.go:144", after := #[{ on := 5, ground := Ground.guard }], guard := some (5, false) }) (v := ?_) rfl (by kernel_rfl) (by kernel_rfl) (by kernel_rfl) (fun _ _ _ h => h) (Or.inl ⟨by rfl, ?_⟩) (by assumption) ?_
        rotate_left; focus (intro w hSw; (try dsimp only at hSw); go_simp; first | done | with_reducible rfl)
        try simp only [Act.put, List.setIfInBounds_toArray, List.set_cons_zero, List.set_cons_succ]
        refine wpAnyH_take (i := 9) (oi := { dst := some 87, op := Op.load 41 (Operand.tmp 3), type := 41, pos := "outright.go:144", after := #[{ on := 5, ground := Ground.guard }], guard := some (5, false) }) (v := ?_) rfl (by kernel_rfl) (by kernel_rfl) (by kernel_rfl) (fun _ _ _ h => h) (Or.inl ⟨by rfl, ?_⟩) (by assumption) ?_
        rotate_left; focus (intro w hSw; (try dsimp only at hSw); go_simp; first | done | with_reducible rfl)
        try simp only [Act.put, List.setIfInBounds_toArray, List.set_cons_zero, List.set_cons_succ]
        refine wpAnyH_take (i := 10) (oi := { dst := some 88, op := Op.move (Operand.tmp 2), type := 22, pos := "outright.go:144", after := #[{ on := 5, ground := Ground.guard }], guard := some (5, false) }) (v := ?_) rfl (by kernel_rfl) (by kernel_rfl) (by kernel_rfl) (fun _ _ _ h => h) (Or.inl ⟨by rfl, ?_⟩) (by assumption) ?_
        rotate_left; focus (intro w hSw; (try dsimp only at hSw); go_simp; first | done | with_reducible rfl)
        try simp only [Act.put, List.setIfInBounds_toArray, List.set_cons_zero, List.set_cons_succ]
        refine wpAnyH_ready (rs := [8]) (by kernel_rfl) (by simp) ?_
        refine AllReadyH.cons (o := { dst := some 86, op := Op.call { callee := Callee.value (Operand.func 51), args := #[Operand.tmp 84, Operand.tmp 85], argTypes := #[41, 22] }, type := 4, pos := "outright.go:144", after := #[{ on := 6, ground := Ground.data }, { on := 7, ground := Ground.data }, { on := 5, ground := Ground.chain }, { on := 5, ground := Ground.guard }], guard := some (5, false) }) rfl (fun K hK => ?_) AllReadyH.nil
        go_simp
        ((with_reducible refine (cXm.out _).mono ?_); rintro rr w9 ⟨rfl, hb⟩; replace M := Lib.hid (M.out.below hb); clear hb; clear k0 k1 k2 k3 k4 k5 k6 k7 k8 k9; have k0 := (M.out.nth 0 rfl).two.1; have k1 := (M.out.nth 0 rfl).two.2; have k2 := (M.out.nth 1 rfl).two.1; have k3 := (M.out.nth 1 rfl).two.2; have k4 := (M.out.nth 2 rfl).two.1; have k5 := (M.out.nth 2 rfl).two.2; have k6 := (M.out.nth 3 rfl).two.1; have k7 := (M.out.nth 3 rfl).two.2; have k8 := (M.out.nth 4 rfl).two.1; have k9 := (M.out.nth 4 rfl).two.2)
        try go_wp2_with fail
        refine hK.out _ _ ?_ (fun hHeld => ?_)
        · ((try dsimp only); go_keep)
        clear hK K
        try simp only [Act.put, List.setIfInBounds_toArray, List.set_cons_zero, List.set_cons_succ]
        refine wpAnyH_ready (rs := [11]) (by kernel_rfl) (by simp) ?_
        refine AllReadyH.cons (o := { dst := some 89, op := Op.call { callee := Callee.value (Operand.func 51), args := #[Operand.tmp 87, Operand.tmp 88], argTypes := #[41, 22] }, type := 4, pos := "outright.go:144", after := #[{ on := 9, ground := Ground.data }, { on := 10, ground := Ground.data }, { on := 8, ground := Ground.chain }, { on := 5, ground := Ground.guard }], guard := some (5, false) }) rfl (fun K hK => ?_) AllReadyH.nil
        go_simp
        ((with_reducible refine (cXa.out _).mono ?_); rintro rr w9 ⟨rfl, hb⟩; replace M := Lib.hid (M.out.below hb); clear hb; clear k0 k1 k2 k3 k4 k5 k6 k7 k8 k9; have k0 := (M.out.nth 0 rfl).two.1; have k1 := (M.out.nth 0 rfl).two.2; have k2 := (M.out.nth 1 rfl).two.1; have k3 := (M.out.nth 1 rfl).two.2; have k4 := (M.out.nth 2 rfl).two.1; have k5 := (M.out.nth 2 rfl).two.2; have k6 := (M.out.nth 3 rfl).two.1; have k7 := (M.out.nth 3 rfl).two.2; have k8 := (M.out.nth 4 rfl).two.1; have k9 := (M.out.nth 4 rfl).two.2)
        try go_wp2_with fail
        refine hK.out _ _ ?_ (fun hHeld => ?_)
        · ((try dsimp only); go_keep)
        clear hK K
        try simp only [Act.put, List.setIfInBounds_toArray, List.set_cons_zero, List.set_cons_succ]
        refine wpAnyH_take (i := 12) (oi := { dst := some 90, op := Op.move (Operand.tmp 89), type := 4, pos := "outright.go:144", after := #[{ on := 11, ground := Ground.data }, { on := 11, ground := Ground.chain }, { on := 5, ground := Ground.guard }], guard := some (5, false) }) (v := ?_) rfl (by kernel_rfl) (by kernel_rfl) (by kernel_rfl) (fun _ _ _ h => h) (Or.inl ⟨by rfl, ?_⟩) (by assumption) ?_
        rotate_left; focus (intro w hSw; (try dsimp only at hSw); go_simp; first | done | with_reducible rfl)
        try simp only [Act.put, List.setIfInBounds_toArray, List.set_cons_zero, List.set_cons_succ]
        refine wpAnyH_take (i := 13) (oi := { dst := some 91, op := Op.load 41 (Operand.tmp 4), type := 41, pos := "outright.go:144", after := #[{ on := 12, ground := Ground.guard }], guard := some (12, true) }) (v := undef) rfl (by kernel_rfl) (by kernel_rfl) (by kernel_rfl) (fun _ _ _ h => h) (Or.inr ⟨by rfl, rfl⟩) (by assumption) ?_
        try simp only [Act.put, List.setIfInBounds_toArray, List.set_cons_zero, List.set_cons_succ]
        refine wpAnyH_take (i := 14) (oi := { dst := some 92, op := Op.move (Operand.tmp 2), type := 22, pos := "outright.go:144", after := #[{ on := 12, ground := Ground.guard }], guard := some (12, true) }) (v := undef) rfl (by kernel_rfl) (by kernel_rfl) (by kernel_rfl) (fun _ _ _ h => h) (Or.inr ⟨by rfl, rfl⟩) (by assumption) ?_
        try simp only [Act.put, List.setIfInBounds_toArray, List.set_cons_zero, List.set_cons_succ]
        refine wpAnyH_ready (rs := [15]) (by kernel_rfl) (by simp) ?_
        refine AllReadyH.cons (o := { dst := some 93, op := Op.call { callee := Callee.value (Operand.func 51), args := #[Operand.tmp 91, Operand.tmp 92], argTypes := #[41, 22] }, type := 4, pos := "outright.go:144", after := #[{ on := 13, ground := Ground.data }, { on := 14, ground := Ground.data }, { on := 12, ground := Ground.chain }, { on := 12, ground := Ground.guard }], guard := some (12, true) }) rfl (fun K hK => ?_) AllReadyH.nil
        go_simp
        refine hK.out _ _ ?_ (fun hHeld => ?_)
        · ((try dsimp only); go_keep)
        clear hK K
        try simp only [Act.put, List.setIfInBounds_toArray, List.set_cons_zero, List.set_cons_succ]
        refine wpAnyH_take (i := 16) (oi := { dst := some 94, op := Op.pick (Operand.tmp 90) (Operand.tmp 93) (Operand.const (Value.bool false)), type := 4, pos := "outright.go:144", after := #[{ on := 12, ground := Ground.data }, { on := 15, ground := Ground.data }, { on := 5, ground := Ground.guard }], guard := some (5, false) }) (v := ?_) rfl (by kernel_rfl) (by kernel_rfl) (by kernel_rfl) (fun _ _ _ h => h) (Or.inl ⟨by rfl, ?_⟩) (by assumption) ?_
        rotate_left; focus (intro w hSw; (try dsimp only at hSw); go_simp; first | done | with_reducible rfl)
        try simp only [Act.put, List.setIfInBounds_toArray, List.set_cons_zero, List.set_cons_succ]
        refine wpAnyH_take (i := 17) (oi := { dst := some 95, op := Op.binOp BinOp.neq 4 (Operand.tmp 86) (Operand.tmp 94) 4, type := 4, pos := "outright.go:144", after := #[{ on := 8, ground := Ground.data }, { on := 16, ground := Ground.data }, { on := 5, ground := Ground.guard }], guard := some (5, false) }) (v := ?_) rfl (by kernel_rfl) (by kernel_rfl) (by kernel_rfl) (fun _ _ _ h => h) (Or.inl ⟨by rfl, ?_⟩) (by assumption) ?_
        rotate_left; focus (intro w hSw; (try dsimp only at hSw); go_simp; first | done | with_reducible rfl)
        try simp only [Act.put, List.setIfInBounds_toArray, List.set_cons_zero, List.set_cons_succ]
        refine wpAnyH_take (i := 18) (oi := { dst := some 96, op := Op.pick (Operand.tmp 83) (Operand.const (Value.bool true)) (Operand.tmp 95), type := 4, pos := "outright.go:144", after := #[{ on := 5, ground := Ground.data }, { on := 17, ground := Ground.data }, { on := 1, ground := Ground.guard }], guard := some (1, true) }) (v := ?_) rfl (by kernel_rfl) (by kernel_rfl) (by kernel_rfl) (fun _ _ _ h => h) (Or.inl ⟨by rfl, ?_⟩) (by assumption) ?_
        rotate_left; focus (intro w hSw; (try dsimp only at hSw); go_simp; first | done | with_reducible rfl)
        try simp only [Act.put, List.setIfInBounds_toArray, List.set_cons_zero, List.set_cons_succ]
        refine wpAnyH_take (i := 19) (oi := { dst := some 97, op := Op.pick (Operand.tmp 79) (Operand.tmp 96) (Operand.const (Value.bool false)), type := 4, pos := "outright.go:144", after := #[{ on := 1, ground := Ground.data }, { on := 18, ground := Ground.data }], guard := none }) (v := ?_) rfl (by kernel_rfl) (by kernel_rfl) (by kernel_rfl) (fun _ _ _ h => h) (Or.inl ⟨by rfl, ?_⟩) (by assumption) ?_
        rotate_left; focus (intro w hSw; (try dsimp only at hSw); go_simp; first | done | with_reducible rfl)
        try simp only [Act.put, List.setIfInBounds_toArray, List.set_cons_zero, List.set_cons_succ]
        refine wpAnyH_take (i := 20) (oi := { dst := some 98, op := Op.move (Operand.tmp 97), type := 4, pos := "outright.go:144", after := #[{ on := 19, ground := Ground.data }, { on := 15, ground := Ground.chain }], guard := none }) (v := ?_) rfl (by kernel_rfl) (by kernel_rfl) (by kernel_rfl) (fun _ _ _ h => h) (Or.inl ⟨by rfl, ?_⟩) (by assumption) ?_
        rotate_left; focus (intro w hSw; (try dsimp only at hSw); go_simp; first | done | with_reducible rfl)
        try simp only [Act.put, List.setIfInBounds_toArray, List.set_cons_zero, List.set_cons_succ]
        refine wpAnyH_take (i := 21) (oi := { dst := some 99, op := Op.move (Operand.tmp 8), type := 4, pos := "outright.go:144", after := #[{ on := 20, ground := Ground.guard }], guard := some (20, false) }) (v := ?_) rfl (by kernel_rfl) (by kernel_rfl) (by kernel_rfl) (fun _ _ _ h => h) (Or.inl ⟨by rfl, ?_⟩) (by assumption) ?_
        rotate_left; focus (intro w hSw; (try dsimp only at hSw); go_simp; first | done | with_reducible rfl)
        try simp only [Act.put, List.setIfInBounds_toArray, List.set_cons_zero, List.set_cons_succ]
        refine wpAnyH_take (i := 22) (oi := { dst := some 100, op := Op.unOp UnOp.not 4 (Operand.tmp 99), type := 4, pos := "outright.go:144", after := #[{ on := 21, ground := Ground.data }, { on := 20, ground := Ground.guard }], guard := some (20, false) }) (v := ?_) rfl (by kernel_rfl) (by kernel_rfl) (by kernel_rfl) (fun _ _ _ h => h) (Or.inl ⟨by rfl, ?_⟩) (by assumption) ?_
        rotate_left; focus (intro w hSw; (try dsimp only at hSw); go_simp; first | done | with_reducible rfl)
        try simp only [Act.put, List.setIfInBounds_toArray, List.set_cons_zero, List.set_cons_succ]
        refine wpAnyH_take (i := 23) (oi := { dst := some 101, op := Op.move (Operand.tmp 100), type := 4, pos := "outright.go:144", after := #[{ on := 22, ground := Ground.data }, { on := 20, ground := Ground.chain }, { on := 20, ground := Ground.guard }], guard := some (20, false) }) (v := ?_) rfl (by kernel_rfl) (by kernel_rfl) (by kernel_rfl) (fun _ _ _ h => h) (Or.inl ⟨by rfl, ?_⟩) (by assumption) ?_
        rotate_left; focus (intro w hSw; (try dsimp only at hSw); go_simp; first | done | with_reducible rfl)
        try simp only [Act.put, List.setIfInBounds_toArray, List.set_cons_zero, List.set_cons_succ]
        refine wpAnyH_take (i := 24) (oi := { dst := some 102, op := Op.load 41 (Operand.tmp 7), type := 41, pos := "outright.go:144", after := #[{ on := 23, ground := Ground.guard }], guard := some (23, true) }) (v := undef) rfl (by kernel_rfl) (by kernel_rfl) (by kernel_rfl) (fun _ _ _ h => h) (Or.inr ⟨by rfl, rfl⟩) (by assumption) ?_
        try simp only [Act.put, List.setIfInBounds_toArray, List.set_cons_zero, List.set_cons_succ]
        refine wpAnyH_take (i := 25) (oi := { dst := some 103, op := Op.build 41 #[], type := 41, pos := "outright.go:144", after := #[{ on := 23, ground := Ground.guard }], guard := some (23, true) }) (v := undef) rfl (by kernel_rfl) (by kernel_rfl) (by kernel_rfl) (fun _ _ _ h => h) (Or.inr ⟨by rfl, rfl⟩) (by assumption) ?_
        try simp only [Act.put, List.setIfInBounds_toArray, List.set_cons_zero, List.set_cons_succ]
        refine wpAnyH_ready (rs := [26]) (by kernel_rfl) (by simp) ?_
        refine AllReadyH.cons (o := { dst := some 104, op := Op.call { callee := Callee.value (Operand.func 44), args := #[Operand.tmp 102, Operand.tmp 103], argTypes := #[41, 41] }, type := 4, pos := "outright.go:144", after := #[{ on := 24, ground := Ground.data }, { on := 25, ground := Ground.data }, { on := 23, ground := Ground.chain }, { on := 23, ground := Ground.guard }], guard := some (23, true) }) rfl (fun K hK => ?_) AllReadyH.nil
        go_simp
        refine hK.out _ _ ?_ (fun hHeld => ?_)
        · ((try dsimp only); go_keep)
        clear hK K
        try simp only [Act.put, List.setIfInBounds_toArray, List.set_cons_zero, List.set_cons_succ]
        refine wpAnyH_take (i := 27) (oi := { dst := some 105, op := Op.unOp UnOp.not 4 (Operand.tmp 104), type := 4, pos := "outright.go:144", after := #[{ on := 26, ground := Ground.data }, { on := 23, ground := Ground.guard }], guard := some (23, true) }) (v := undef) rfl (by kernel_rfl) (by kernel_rfl) (by kernel_rfl) (fun _ _ _ h => h) (Or.inr ⟨by rfl, rfl⟩) (by assumption) ?_
        try simp only [Act.put, List.setIfInBounds_toArray, List.set_cons_zero, List.set_cons_succ]
        refine wpAnyH_take (i := 28) (oi := { dst := some 106, op := Op.pick (Operand.tmp 101) (Operand.tmp 105) (Operand.const (Value.bool false)), type := 4, pos := "outright.go:144", after := #[{ on := 23, ground := Ground.data }, { on := 27, ground := Ground.data }, { on := 20, ground := Ground.guard }], guard := some (20, false) }) (v := ?_) rfl (by kernel_rfl) (by kernel_rfl) (by kernel_rfl) (fun _ _ _ h => h) (Or.inl ⟨by rfl, ?_⟩) (by assumption) ?_
        rotate_left; focus (intro w hSw; (try dsimp only at hSw); go_simp; first | done | with_reducible rfl)
        try simp only [Act.put, List.setIfInBounds_toArray, List.set_cons_zero, List.set_cons_succ]
        refine wpAnyH_take (i := 29) (oi := { dst := some 107, op := Op.pick (Operand.tmp 98) (Operand.const (Value.bool true)) (Operand.tmp 106), type := 4, pos := "outright.go:144", after := #[{ on := 20, ground := Ground.data }, { on := 28, ground := Ground.data }], guard := none }) (v := ?_) rfl (by kernel_rfl) (by kernel_rfl) (by kernel_rfl) (fun _ _ _ h => h) (Or.inl ⟨by rfl, ?_⟩) (by assumption) ?_
        rotate_left; focus (intro w hSw; (try dsimp only at hSw); go_simp; first | done | with_reducible rfl)
        try simp only [Act.put, List.setIfInBounds_toArray, List.set_cons_zero, List.set_cons_succ]
        refine wpAnyH_take (i := 30) (oi := { dst := some 108, op := Op.move (Operand.tmp 107), type := 4, pos := "outright.go:144", after := #[{ on := 29, ground := Ground.data }, { on := 26, ground := Ground.chain }], guard := none }) (v := ?_) rfl (by kernel_rfl) (by kernel_rfl) (by kernel_rfl) (fun _ _ _ h => h) (Or.inl ⟨by rfl, ?_⟩) (by assumption) ?_
        rotate_left; focus (intro w hSw; (try dsimp only at hSw); go_simp; first | done | with_reducible rfl)
        try simp only [Act.put, List.setIfInBounds_toArray, List.set_cons_zero, List.set_cons_succ]
        refine wpAnyH_take (i := 31) (oi := { dst := some 109, op := Op.load 41 (Operand.tmp 3), type := 41, pos := "outright.go:144", after := #[{ on := 30, ground := Ground.guard }], guard := some (30, false) }) (v := ?_) rfl (by kernel_rfl) (by kernel_rfl) (by kernel_rfl) (fun _ _ _ h => h) (Or.inl ⟨by rfl, ?_⟩) (by assumption) ?_
        rotate_left; focus (intro w hSw; (try dsimp only at hSw); go_simp; first | done | with_reducible rfl)
        try simp only [Act.put, List.setIfInBounds_toArray, List.set_cons_zero, List.set_cons_succ]
        refine wpAnyH_take (i := 32) (oi := { dst := some 110, op := Op.move (Operand.tmp 2), type := 22, pos := "outright.go:144", after := #[{ on := 30, ground := Ground.guard }], guard := some (30, false) }) (v := ?_) rfl (by kernel_rfl) (by kernel_rfl) (by kernel_rfl) (fun _ _ _ h => h) (Or.inl ⟨by rfl, ?_⟩) (by assumption) ?_
        rotate_left; focus (intro w hSw; (try dsimp only at hSw); go_simp; first | done | with_reducible rfl)
        try simp only [Act.put, List.setIfInBounds_toArray, List.set_cons_zero, List.set_cons_succ]
        refine wpAnyH_ready (rs := [33]) (by kernel_rfl) (by simp) ?_
        refine AllReadyH.cons (o := { dst := some 111, op := Op.call { callee := Callee.value (Operand.func 51), args := #[Operand.tmp 109, Operand.tmp 110], argTypes := #[41, 22] }, type := 4, pos := "outright.go:144", after := #[{ on := 31, ground := Ground.data }, { on := 32, ground := Ground.data }, { on := 30, ground := Ground.chain }, { on := 30, ground := Ground.guard }], guard := some (30, false) }) rfl (fun K hK => ?_) AllReadyH.nil
        go_simp
        ((with_reducible refine (cXa.out _).mono ?_); rintro rr w9 ⟨rfl, hb⟩; replace M := Lib.hid (M.out.below hb); clear hb; clear k0 k1 k2 k3 k4 k5 k6 k7 k8 k9; have k0 := (M.out.nth 0 rfl).two.1; have k1 := (M.out.nth 0 rfl).two.2; have k2 := (M.out.nth 1 rfl).two.1; have k3 := (M.out.nth 1 rfl).two.2; have k4 := (M.out.nth 2 rfl).two.1; have k5 := (M.out.nth 2 rfl).two.2; have k6 := (M.out.nth 3 rfl).two.1; have k7 := (M.out.nth 3 rfl).two.2; have k8 := (M.out.nth 4 rfl).two.1; have k9 := (M.out.nth 4 rfl).two.2)
        try go_wp2_with fail
        refine hK.out _ _ ?_ (fun hHeld => ?_)
        · ((try dsimp only); go_keep)
        clear hK K
        try simp only [Act.put, List.setIfInBounds_toArray, List.set_cons_zero, List.set_cons_succ]
        refine wpAnyH_take (i := 34) (oi := { dst := some 112, op := Op.move (Operand.tmp 111), type := 4, pos := "outright.go:144", after := #[{ on := 33, ground := Ground.data }, { on := 33, ground := Ground.chain }, { on := 30, ground := Ground.guard }], guard := some (30, false) }) (v := ?_) rfl (by kernel_rfl) (by kernel_rfl) (by kernel_rfl) (fun _ _ _ h => h) (Or.inl ⟨by rfl, ?_⟩) (by assumption) ?_
        rotate_left; focus (intro w hSw; (try dsimp only at hSw); go_simp; first | done | with_reducible rfl)
        try simp only [Act.put, List.setIfInBounds_toArray, List.set_cons_zero, List.set_cons_succ]
        refine wpAnyH_take (i := 35) (oi := { dst := some 113, op := Op.load 41 (Operand.tmp 4), type := 41, pos := "outright.go:144", after := #[{ on := 34, ground := Ground.guard }], guard := some (34, false) }) (v := ?_) rfl (by kernel_rfl) (by kernel_rfl) (by kernel_rfl) (fun _ _ _ h => h) (Or.inl ⟨by rfl, ?_⟩) (by assumption) ?_
        rotate_left; focus (intro w hSw; (try dsimp only at hSw); go_simp; first | done | with_reducible rfl)
        try simp only [Act.put, List.setIfInBounds_toArray, List.set_cons_zero, List.set_cons_succ]
        refine wpAnyH_take (i := 36) (oi := { dst := some 114, op := Op.move (Operand.tmp 2), type := 22, pos := "outright.go:144", after := #[{ on := 34, ground := Ground.guard }], guard := some (34, false) }) (v := ?_) rfl (by kernel_rfl) (by kernel_rfl) (by kernel_rfl) (fun _ _ _ h => h) (Or.inl ⟨by rfl, ?_⟩) (by assumption) ?_
        rotate_left; focus (intro w hSw; (try dsimp only at hSw); go_simp; first | done | with_reducible rfl)
        try simp only [Act.put, List.setIfInBounds_toArray, List.set_cons_zero, List.set_cons_succ]
        refine wpAnyH_ready (rs := [37]) (by kernel_rfl) (by simp) ?_
        refine AllReadyH.cons (o := { dst := some 115, op := Op.call { callee := Callee.value (Operand.func 51), args := #[Operand.tmp 113, Operand.tmp 114], argTypes := #[41, 22] }, type := 4, pos := "outright.go:144", after := #[{ on := 35, ground := Ground.data }, { on := 36, ground := Ground.data }, { on := 34, ground := Ground.chain }, { on := 34, ground := Ground.guard }], guard := some (34, false) }) rfl (fun K hK => ?_) AllReadyH.nil
        go_simp
        ((with_reducible refine (cXb.out _).mono ?_); rintro rr w9 ⟨rfl, hb⟩; replace M := Lib.hid (M.out.below hb); clear hb; clear k0 k1 k2 k3 k4 k5 k6 k7 k8 k9; have k0 := (M.out.nth 0 rfl).two.1; have k1 := (M.out.nth 0 rfl).two.2; have k2 := (M.out.nth 1 rfl).two.1; have k3 := (M.out.nth 1 rfl).two.2; have k4 := (M.out.nth 2 rfl).two.1; have k5 := (M.out.nth 2 rfl).two.2; have k6 := (M.out.nth 3 rfl).two.1; have k7 := (M.out.nth 3 rfl).two.2; have k8 := (M.out.nth 4 rfl).two.1; have k9 := (M.out.nth 4 rfl).two.2)
        try go_wp2_with fail
        refine hK.out _ _ ?_ (fun hHeld => ?_)
        · ((try dsimp only); go_keep)
        clear hK K
        try simp only [Act.put, List.setIfInBounds_toArray, List.set_cons_zero, List.set_cons_succ]
        refine wpAnyH_take (i := 38) (oi := { dst := some 116, op := Op.pick (Operand.tmp 112) (Operand.const (Value.bool true)) (Operand.tmp 115), type := 4, pos := "outright.go:144", after := #[{ on := 34, ground := Ground.data }, { on := 37, ground := Ground.data }, { on := 30, ground := Ground.guard }], guard := some (30, false) }) (v := ?_) rfl (by kernel_rfl) (by kernel_rfl) (by kernel_rfl) (fun _ _ _ h => h) (Or.inl ⟨by rfl, ?_⟩) (by assumption) ?_
        rotate_left; focus (intro w hSw; (try dsimp only at hSw); go_simp; first | done | with_reducible rfl)
        try simp only [Act.put, List.setIfInBounds_toArray, List.set_cons_zero, List.set_cons_succ]
        refine wpAnyH_take (i := 39) (oi := { dst := some 117, op := Op.move (Operand.tmp 116), type := 4, pos := "outright.go:144", after := #[{ on := 38, ground := Ground.data }, { on := 37, ground := Ground.chain }, { on := 30, ground := Ground.guard }], guard := some (30, false) }) (v := ?_) rfl (by kernel_rfl) (by kernel_rfl) (by kernel_rfl) (fun _ _ _ h => h) (Or.inl ⟨by rfl, ?_⟩) (by assumption) ?_
        rotate_left; focus (intro w hSw; (try dsimp only at hSw); go_simp; first | done | with_reducible rfl)
        try simp only [Act.put, List.setIfInBounds_toArray, List.set_cons_zero, List.set_cons_succ]
        refine wpAnyH_take (i := 40) (oi := { dst := some 118, op := Op.load 41 (Operand.tmp 11), type := 41, pos := "outright.go:144", after := #[{ on := 39, ground := Ground.guard }], guard := some (39, true) }) (v := ?_) rfl (by kernel_rfl) (by kernel_rfl) (by kernel_rfl) (fun _ _ _ h => h) (Or.inl ⟨by rfl, ?_⟩) (by assumption) ?_
        rotate_left; focus (intro w hSw; (try dsimp only at hSw); go_simp; first | done | with_reducible rfl)
        try simp only [Act.put, List.setIfInBounds_toArray, List.set_cons_zero, List.set_cons_succ]
        refine wpAnyH_take (i := 41) (oi := { dst := some 119, op := Op.move (Operand.tmp 2), type := 22, pos := "outright.go:144", after := #[{ on := 39, ground := Ground.guard }], guard := some (39, true) }) (v := ?_) rfl (by kernel_rfl) (by kernel_rfl) (by kernel_rfl) (fun _ _ _ h => h) (Or.inl ⟨by rfl, ?_⟩) (by assumption) ?_
        rotate_left; focus (intro w hSw; (try dsimp only at hSw); go_simp; first | done | with_reducible rfl)
        try simp only [Act.put, List.setIfInBounds_toArray, List.set_cons_zero, List.set_cons_succ]
        refine wpAnyH_ready (rs := [42]) (by kernel_rfl) (by simp) ?_
        refine AllReadyH.cons (o := { dst := some 120, op := Op.call { callee := Callee.value (Operand.func 51), args := #[Operand.tmp 118, Operand.tmp 119], argTypes := #[41, 22] }, type := 4, pos := "outright.go:144", after := #[{ on := 40, ground := Ground.data }, { on := 41, ground := Ground.data }, { on := 39, ground := Ground.chain }, { on := 39, ground := Ground.guard }], guard := some (39, true) }) rfl (fun K hK => ?_) AllReadyH.nil
        go_simp
        ((with_reducible refine (cXh.out rfl _).mono ?_); rintro rr w9 ⟨rfl, hb⟩; replace M := Lib.hid (M.out.below hb); clear hb; clear k0 k1 k2 k3 k4 k5 k6 k7 k8 k9; have k0 := (M.out.nth 0 rfl).two.1; have k1 := (M.out.nth 0 rfl).two.2; have k2 := (M.out.nth 1 rfl).two.1; have k3 := (M.out.nth 1 rfl).two.2; have k4 := (M.out.nth 2 rfl).two.1; have k5 := (M.out.nth 2 rfl).two.2; have k6 := (M.out.nth 3 rfl).two.1; have k7 := (M.out.nth 3 rfl).two.2; have k8 := (M.out.nth 4 rfl).two.1; have k9 := (M.out.nth 4 rfl).two.2)
        try go_wp2_with fail
        refine hK.out _ _ ?_ (fun hHeld => ?_)
        · ((try dsimp only); go_keep)
        clear hK K
        try simp only [Act.put, List.setIfInBounds_toArray, List.set_cons_zero, List.set_cons_succ]
        refine wpAnyH_take (i := 43) (oi := { dst := some 121, op := Op.unOp UnOp.not 4 (Operand.tmp 120), type := 4, pos := "outright.go:144", after := #[{ on := 42, ground := Ground.data }, { on := 39, ground := Ground.guard }], guard := some (39, true) }) (v := ?_) rfl (by kernel_rfl) (by kernel_rfl) (by kernel_rfl) (fun _ _ _ h => h) (Or.inl ⟨by rfl, ?_⟩) (by assumption) ?_
        rotate_left; focus (intro w hSw; (try dsimp only at hSw); go_simp; first | done | with_reducible rfl)
        try simp only [Act.put, List.setIfInBounds_toArray, List.set_cons_zero, List.set_cons_succ]
        refine wpAnyH_take (i := 44) (oi := { dst := some 122, op := Op.pick (Operand.tmp 117) (Operand.tmp 121) (Operand.const (Value.bool false)), type := 4, pos := "outright.go:144", after := #[{ on := 39, ground := Ground.data }, { on := 43, ground := Ground.data }, { on := 30, ground := Ground.guard }], guard := some (30, false) }) (v := ?_) rfl (by kernel_rfl) (by kernel_rfl) (by kernel_rfl) (fun _ _ _ h => h) (Or.inl ⟨by rfl, ?_⟩) (by assumption) ?_
        rotate_left; focus (intro w hSw; (try dsimp only at hSw); go_simp; first | done | with_reducible rfl)
        try simp only [Act.put, List.setIfInBounds_toArray, List.set_cons_zero, List.set_cons_succ]
        refine wpAnyH_take (i := 45) (oi := { dst := some 123, op := Op.pick (Operand.tmp 108) (Operand.const (Value.bool true)) (Operand.tmp 122), type := 4, pos := "outright.go:144", after := #[{ on := 30, ground := Ground.data }, { on := 44, ground := Ground.data }], guard := none }) (v := ?_) rfl (by kernel_rfl) (by kernel_rfl) (by kernel_rfl) (fun _ _ _ h => h) (Or.inl ⟨by rfl, ?_⟩) (by assumption) ?_
        rotate_left; focus (intro w hSw; (try dsimp only at hSw); go_simp; first | done | with_reducible rfl)
        try simp only [Act.put, List.setIfInBounds_toArray, List.set_cons_zero, List.set_cons_succ]
        refine wpAnyH_done (by kernel_rfl) ?_ _
        refine NoPanic.normal ?_
        go_wp2_with fail
        go_meet
        exact ⟨rfl, M.out⟩
      · skip
        refine wp_region_noPanic ?_
        refine wp_region_held_drew (S := fun w' => w'.cell? ⟨w.heap.size, 0, none⟩ = some (.float .f64 al) ∧ w'.cell? ⟨w.heap.size, 1, none⟩ = some (.float .f64 ah) ∧ w'.cell? ⟨w.heap.size + 1, 0, none⟩ = some (.float .f64 bl) ∧ w'.cell? ⟨w.heap.size + 1, 1, none⟩ = some (.float .f64 bh) ∧ w'.cell? ⟨p, 0, none⟩ = some (.float .f64 ml) ∧ w'.cell? ⟨p, 1, none⟩ = some (.float .f64 mh) ∧ w'.cell? ⟨q, 0, none⟩ = some (.float .f64 ml) ∧ w'.cell? ⟨q, 1, none⟩ = some (.float .f64 mh) ∧ w'.cell? ⟨s, 0, none⟩ = some (.float .f64 hl) ∧ w'.cell? ⟨s, 1, none⟩ = some (.float .f64 hh)) (by kernel_rfl) ?_ (fun hHeld => ?_)
        · (first | (go_keep; done) | (dsimp only; go_keep))
        refine wpAnyH_take (i := 0) (oi := { dst := some 78, op := Op.move (Operand.tmp 8), type := 4, pos := "outright.go:144", after := #[], guard := none }) (v := ?_) rfl (by kernel_rfl) (by kernel_rfl) (by kernel_rfl) (fun _ _ _ h => h) (Or.inl ⟨by rfl, ?_⟩) (by assumption) ?_
        rotate_left; focus (intro w hSw; (try dsimp only at hSw); go_simp; first | done | with_reducible rfl)
        try simp only [Act.put, List.setIfInBounds_toArray, List.set_cons_zero, List.set_cons_succ]
        refine wpAnyH_take (i := 1) (oi := { dst := some 79, op := Op.move (Operand.tmp 78), type := 4, pos := "outright.go:144", after := #[{ on := 0, ground := Ground.data }], guard := none }) (v := ?_) rfl (by kernel_rfl) (by kernel_rfl) (by kernel_rfl) (fun _ _ _ h => h) (Or.inl ⟨by rfl, ?_⟩) (by assumption) ?_
        rotate_left; focus (intro w hSw; (try dsimp only at hSw); go_simp; first | done | with_reducible rfl)
        try simp only [Act.put, List.setIfInBounds_toArray, List.set_cons_zero, List.set_cons_succ]
        refine wpAnyH_take (i := 2) (oi := { dst := some 80, op := Op.load 41 (Operand.tmp 7), type := 41, pos := "outright.go:144", after := #[{ on := 1, ground := Ground.guard }], guard := some (1, true) }) (v := ?_) rfl (by kernel_rfl) (by kernel_rfl) (by kernel_rfl) (fun _ _ _ h => h) (Or.inl ⟨by rfl, ?_⟩) (by assumption) ?_
        rotate_left; focus (intro w hSw; (try dsimp only at hSw); go_simp; first | done | with_reducible rfl)
        try simp only [Act.put, List.setIfInBounds_toArray, List.set_cons_zero, List.set_cons_succ]
        refine wpAnyH_ready (rs := [3]) (by kernel_rfl) (by simp) ?_
        refine AllReadyH.cons (o := { dst := some 81, op := Op.call { callee := Callee.value (Operand.func 40), args := #[Operand.tmp 80], argTypes := #[41] }, type := 4, pos := "outright.go:144", after := #[{ on := 2, ground := Ground.data }, { on := 1, ground := Ground.chain }, { on := 1, ground := Ground.guard }], guard := some (1, true) }) rfl (fun K hK => ?_) AllReadyH.nil
        go_simp
        ((with_reducible refine (cRm.out _).mono ?_); rintro rr w9 ⟨rfl, hb⟩; replace M := Lib.hid (M.out.below hb); clear hb; clear k0 k1 k2 k3 k4 k5 k6 k7 k8 k9; have k0 := (M.out.nth 0 rfl).two.1; have k1 := (M.out.nth 0 rfl).two.2; have k2 := (M.out.nth 1 rfl).two.1; have k3 := (M.out.nth 1 rfl).two.2; have k4 := (M.out.nth 2 rfl).two.1; have k5 := (M.out.nth 2 rfl).two.2; have k6 := (M.out.nth 3 rfl).two.1; have k7 := (M.out.nth 3 rfl).two.2; have k8 := (M.out.nth 4 rfl).two.1; have k9 := (M.out.nth 4 rfl).two.2)
        try go_wp2_with fail
        refine hK.out _ _ ?_ (fun hHeld => ?_)
        · ((try dsimp only); go_keep)
        clear hK K
        try simp only [Act.put, List.setIfInBounds_toArray, List.set_cons_zero, List.set_cons_succ]
        refine wpAnyH_take (i := 4) (oi := { dst := some 82, op := Op.unOp UnOp.not 4 (Operand.tmp 81), type := 4, pos := "outright.go:144", after := #[{ on := 3, ground := Ground.data }, { on := 1, ground := Ground.guard }], guard := some (1, true) }) (v := ?_) rfl (by kernel_rfl) (by kernel_rfl) (by kernel_rfl) (fun _ _ _ h => h) (Or.inl ⟨by rfl, ?_⟩) (by assumption) ?_
        rotate_left; focus (intro w hSw; (try dsimp only at hSw); go_simp; first | done | with_reducible rfl)
        try simp only [Act.put, List.setIfInBounds_toArray, List.set_cons_zero, List.set_cons_succ]
        refine wpAnyH_take (i := 5) (oi := { dst := some 83, op := Op.move (Operand.tmp 82), type := 4, pos := "outright.go:144", after := #[{ on := 4, ground := Ground.data }, { on := 3, ground := Ground.chain }, { on := 1, ground := Ground.guard }], guard := some (1, true) }) (v := ?_) rfl (by kernel_rfl) (by kernel_rfl) (by kernel_rfl) (fun _ _ _ h => h) (Or.inl ⟨by rfl, ?_⟩) (by assumption) ?_
        rotate_left; focus (intro w hSw; (try dsimp only at hSw); go_simp; first | done | with_reducible rfl)
        try simp only [Act.put, List.setIfInBounds_toArray, List.set_cons_zero, List.set_cons_succ]
        refine wpAnyH_take (i := 6) (oi := { dst := some 84, op := Op.load 41 (Operand.tmp 7), type := 41, pos := "outright.go:144", after := #[{ on := 5, ground := Ground.guard }], guard := some (5, false) }) (v := ?_) rfl (by kernel_rfl) (by kernel_rfl) (by kernel_rfl) (fun _ _ _ h => h) (Or.inl ⟨by rfl, ?_⟩) (by assumption) ?_
        rotate_left; focus (intro w hSw; (try dsimp only at hSw); go_simp; first | done | with_reducible rfl)
        try simp only [Act.put, List.setIfInBounds_toArray, List.set_cons_zero, List.set_cons_succ]
        refine wpAnyH_take (i := 7) (oi := { dst := some 85, op := Op.move (Operand.tmp 2), type := 22, pos := "outright.go:144", after := #[{ on := 5, ground := Ground.guard }], guard := some (5, false) }) (v := ?_) rfl (by kernel_rfl) (by kernel_rfl) (by kernel_rfl) (fun _ _ _ h => h) (Or.inl ⟨by rfl, ?_⟩) (by assumption) ?_
        rotate_left; focus (intro w hSw; (try dsimp only at hSw); go_simp; first | done | with_reducible rfl)
        try simp only [Act.put, List.setIfInBounds_toArray, List.set_cons_zero, List.set_cons_succ]
        refine wpAnyH_take (i := 9) (oi := { dst := some 87, op := Op.load 41 (Operand.tmp 3), type := 41, pos := "outright.go:144", after := #[{ on := 5, ground := Ground.guard }], guard := some (5, false) }) (v := ?_) rfl (by kernel_rfl) (by kernel_rfl) (by kernel_rfl) (fun _ _ _ h => h) (Or.inl ⟨by rfl, ?_⟩) (by assumption) ?_
        rotate_left; focus (intro w hSw; (try dsimp only at hSw); go_simp; first | done | with_reducible rfl)
        try simp only [Act.put, List.setIfInBounds_toArray, List.set_cons_zero, List.set_cons_succ]
        refine wpAnyH_take (i := 10) (oi := { dst := some 88, op := Op.move (Operand.tmp 2), type := 22, pos := "outright.go:144", after := #[{ on := 5, ground := Ground.guard }], guard := some (5, false) }) (v := ?_) rfl (by kernel_rfl) (by kernel_rfl) (by kernel_rfl) (fun _ _ _ h => h) (Or.inl ⟨by rfl, ?_⟩) (by assumption) ?_
        rotate_left; focus (intro w hSw; (try dsimp only at hSw); go_simp; first | done | with_reducible rfl)
        try simp only [Act.put, List.setIfInBounds_toArray, List.set_cons_zero, List.set_cons_succ]
        refine wpAnyH_ready (rs := [8]) (by kernel_rfl) (by simp) ?_
        refine AllReadyH.cons (o := { dst := some 86, op := Op.call { callee := Callee.value (Operand.func 51), args := #[Operand.tmp 84, Operand.tmp 85], argTypes := #[41, 22] }, type := 4, pos := "outright.go:144", after := #[{ on := 6, ground := Ground.data }, { on := 7, ground := Ground.data }, { on := 5, ground := Ground.chain }, { on := 5, ground := Ground.guard }], guard := some (5, false) }) rfl (fun K hK => ?_) AllReadyH.nil
        go_simp
        ((with_reducible refine (cXm.out _).mono ?_); rintro rr w9 ⟨rfl, hb⟩; replace M := Lib.hid (M.out.below hb); clear hb; clear k0 k1 k2 k3 k4 k5 k6 k7 k8 k9; have k0 := (M.out.nth 0 rfl).two.1; have k1 := (M.out.nth 0 rfl).two.2; have k2 := (M.out.nth 1 rfl).two.1; have k3 := (M.out.nth 1 rfl).two.2; have k4 := (M.out.nth 2 rfl).two.1; have k5 := (M.out.nth 2 rfl).two.2; have k6 := (M.out.nth 3 rfl).two.1; have k7 := (M.out.nth 3 rfl).two.2; have k8 := (M.out.nth 4 rfl).two.1; have k9 := (M.out.nth 4 rfl).two.2)
        try go_wp2_with fail
        refine hK.out _ _ ?_ (fun hHeld => ?_)
        · ((try dsimp only); go_keep)
        clear hK K
        try simp only [Act.put, List.setIfInBounds_toArray, List.set_cons_zero, List.set_cons_succ]
        refine wpAnyH_ready (rs := [11]) (by kernel_rfl) (by simp) ?_
        refine AllReadyH.cons (o := { dst := some 89, op := Op.call { callee := Callee.value (Operand.func 51), args := #[Operand.tmp 87, Operand.tmp 88], argTypes := #[41, 22] }, type := 4, pos := "outright.go:144", after := #[{ on := 9, ground := Ground.data }, { on := 10, ground := Ground.data }, { on := 8, ground := Ground.chain }, { on := 5, ground := Ground.guard }], guard := some (5, false) }) rfl (fun K hK => ?_) AllReadyH.nil
        go_simp
        ((with_reducible refine (cXa.out _).mono ?_); rintro rr w9 ⟨rfl, hb⟩; replace M := Lib.hid (M.out.below hb); clear hb; clear k0 k1 k2 k3 k4 k5 k6 k7 k8 k9; have k0 := (M.out.nth 0 rfl).two.1; have k1 := (M.out.nth 0 rfl).two.2; have k2 := (M.out.nth 1 rfl).two.1; have k3 := (M.out.nth 1 rfl).two.2; have k4 := (M.out.nth 2 rfl).two.1; have k5 := (M.out.nth 2 rfl).two.2; have k6 := (M.out.nth 3 rfl).two.1; have k7 := (M.out.nth 3 rfl).two.2; have k8 := (M.out.nth 4 rfl).two.1; have k9 := (M.out.nth 4 rfl).two.2)
        try go_wp2_with fail
        refine hK.out _ _ ?_ (fun hHeld => ?_)
        · ((try dsimp only); go_keep)
        clear hK K
        try simp only [Act.put, List.setIfInBounds_toArray, List.set_cons_zero, List.set_cons_succ]
        refine wpAnyH_take (i := 12) (oi := { dst := some 90, op := Op.move (Operand.tmp 89), type := 4, pos := "outright.go:144", after := #[{ on := 11, ground := Ground.data }, { on := 11, ground := Ground.chain }, { on := 5, ground := Ground.guard }], guard := some (5, false) }) (v := ?_) rfl (by kernel_rfl) (by kernel_rfl) (by kernel_rfl) (fun _ _ _ h => h) (Or.inl ⟨by rfl, ?_⟩) (by assumption) ?_
        rotate_left; focus (intro w hSw; (try dsimp only at hSw); go_simp; first | done | with_reducible rfl)
        try simp only [Act.put, List.setIfInBounds_toArray, List.set_cons_zero, List.set_cons_succ]
        refine wpAnyH_take (i := 13) (oi := { dst := some 91, op := Op.load 41 (Operand.tmp 4), type := 41, pos := "outright.go:144", after := #[{ on := 12, ground := Ground.guard }], guard := some (12, true) }) (v := ?_) rfl (by kernel_rfl) (by kernel_rfl) (by kernel_rfl) (fun _ _ _ h => h) (Or.inl ⟨by rfl, ?_⟩) (by assumption) ?_
        rotate_left; focus (intro w hSw; (try dsimp only at hSw); go_simp; first | done | with_reducible rfl)
        try simp only [Act.put, List.setIfInBounds_toArray, List.set_cons_zero, List.set_cons_succ]
        refine wpAnyH_take (i := 14) (oi := { dst := some 92, op := Op.move (Operand.tmp 2), type := 22, pos := "outright.go:144", after := #[{ on := 12, ground := Ground.guard }], guard := some (12, true) }) (v := ?_) rfl (by kernel_rfl) (by kernel_rfl) (by kernel_rfl) (fun _ _ _ h => h) (Or.inl ⟨by rfl, ?_⟩) (by assumption) ?_
        rotate_left; focus (intro w hSw; (try dsimp only at hSw); go_simp; first | done | with_reducible rfl)
        try simp only [Act.put, List.setIfInBounds_toArray, List.set_cons_zero, List.set_cons_succ]
        refine wpAnyH_ready (rs := [15]) (by kernel_rfl) (by simp) ?_
        refine AllReadyH.cons (o := { dst := some 93, op := Op.call { callee := Callee.value (Operand.func 51), args := #[Operand.tmp 91, Operand.tmp 92], argTypes := #[41, 22] }, type := 4, pos := "outright.go:144", after := #[{ on := 13, ground := Ground.data }, { on := 14, ground := Ground.data }, { on := 12, ground := Ground.chain }, { on := 12, ground := Ground.guard }], guard := some (12, true) }) rfl (fun K hK => ?_) AllReadyH.nil
        go_simp
        ((with_reducible refine (cXb.out _).mono ?_); rintro rr w9 ⟨rfl, hb⟩; replace M := Lib.hid (M.out.below hb); clear hb; clear k0 k1 k2 k3 k4 k5 k6 k7 k8 k9; have k0 := (M.out.nth 0 rfl).two.1; have k1 := (M.out.nth 0 rfl).two.2; have k2 := (M.out.nth 1 rfl).two.1; have k3 := (M.out.nth 1 rfl).two.2; have k4 := (M.out.nth 2 rfl).two.1; have k5 := (M.out.nth 2 rfl).two.2; have k6 := (M.out.nth 3 rfl).two.1; have k7 := (M.out.nth 3 rfl).two.2; have k8 := (M.out.nth 4 rfl).two.1; have k9 := (M.out.nth 4 rfl).two.2)
        try go_wp2_with fail
        refine hK.out _ _ ?_ (fun hHeld => ?_)
        · ((try dsimp only); go_keep)
        clear hK K
        try simp only [Act.put, List.setIfInBounds_toArray, List.set_cons_zero, List.set_cons_succ]
        refine wpAnyH_take (i := 16) (oi := { dst := some 94, op := Op.pick (Operand.tmp 90) (Operand.tmp 93) (Operand.const (Value.bool false)), type := 4, pos := "outright.go:144", after := #[{ on := 12, ground := Ground.data }, { on := 15, ground := Ground.data }, { on := 5, ground := Ground.guard }], guard := some (5, false) }) (v := ?_) rfl (by kernel_rfl) (by kernel_rfl) (by kernel_rfl) (fun _ _ _ h => h) (Or.inl ⟨by rfl, ?_⟩) (by assumption) ?_
        rotate_left; focus (intro w hSw; (try dsimp only at hSw); go_simp; first | done | with_reducible rfl)
        try simp only [Act.put, List.setIfInBounds_toArray, List.set_cons_zero, List.set_cons_succ]
        refine wpAnyH_take (i := 17) (oi := { dst := some 95, op := Op.binOp BinOp.neq 4 (Operand.tmp 86) (Operand.tmp 94) 4, type := 4, pos := "outright.go:144", after := #[{ on := 8, ground := Ground.data }, { on := 16, ground := Ground.data }, { on := 5, ground := Ground.guard }], guard := some (5, false) }) (v := ?_) rfl (by kernel_rfl) (by kernel_rfl) (by kernel_rfl) (fun _ _ _ h => h) (Or.inl ⟨by rfl, ?_⟩) (by assumption) ?_
        rotate_left; focus (intro w hSw; (try dsimp only at hSw); go_simp; first | done | with_reducible rfl)
        try simp only [Act.put, List.setIfInBounds_toArray, List.set_cons_zero, List.set_cons_succ]
        refine wpAnyH_take (i := 18) (oi := { dst := some 96, op := Op.pick (Operand.tmp 83) (Operand.const (Value.bool true)) (Operand.tmp 95), type := 4, pos := "outright.go:144", after := #[{ on := 5, ground := Ground.data }, { on := 17, ground := Ground.data }, { on := 1, ground := Ground.guard }], guard := some (1, true) }) (v := ?_) rfl (by kernel_rfl) (by kernel_rfl) (by kernel_rfl) (fun _ _ _ h => h) (Or.inl ⟨by rfl, ?_⟩) (by assumption) ?_
        rotate_left; focus (intro w hSw; (try dsimp only at hSw); go_simp; first | done | with_reducible rfl)
        try simp only [Act.put, List.setIfInBounds_toArray, List.set_cons_zero, List.set_cons_succ]
        refine wpAnyH_take (i := 19) (oi := { dst := some 97, op := Op.pick (Operand.tmp 79) (Operand.tmp 96) (Operand.const (Value.bool false)), type := 4, pos := "outright.go:144", after := #[{ on := 1, ground := Ground.data }, { on := 18, ground := Ground.data }], guard := none }) (v := ?_) rfl (by kernel_rfl) (by kernel_rfl) (by kernel_rfl) (fun _ _ _ h => h) (Or.inl ⟨by rfl, ?_⟩) (by assumption) ?_
        rotate_left; focus (intro w hSw; (try dsimp only at hSw); go_simp; first | done | with_reducible rfl)
        try simp only [Act.put, List.setIfInBounds_toArray, List.set_cons_zero, List.set_cons_succ]
        refine wpAnyH_take (i := 20) (oi := { dst := some 98, op := Op.move (Operand.tmp 97), type := 4, pos := "outright.go:144", after := #[{ on := 19, ground := Ground.data }, { on := 15, ground := Ground.chain }], guard := none }) (v := ?_) rfl (by kernel_rfl) (by kernel_rfl) (by kernel_rfl) (fun _ _ _ h => h) (Or.inl ⟨by rfl, ?_⟩) (by assumption) ?_
        rotate_left; focus (intro w hSw; (try dsimp only at hSw); go_simp; first | done | with_reducible rfl)
        try simp only [Act.put, List.setIfInBounds_toArray, List.set_cons_zero, List.set_cons_succ]
        refine wpAnyH_take (i := 21) (oi := { dst := some 99, op := Op.move (Operand.tmp 8), type := 4, pos := "outright.go:144", after := #[{ on := 20, ground := Ground.guard }], guard := some (20, false) }) (v := ?_) rfl (by kernel_rfl) (by kernel_rfl) (by kernel_rfl) (fun _ _ _ h => h) (Or.inl ⟨by rfl, ?_⟩) (by assumption) ?_
        rotate_left; focus (intro w hSw; (try dsimp only at hSw); go_simp; first | done | with_reducible rfl)
        try simp only [Act.put, List.setIfInBounds_toArray, List.set_cons_zero, List.set_cons_succ]
        refine wpAnyH_take (i := 22) (oi := { dst := some 100, op := Op.unOp UnOp.not 4 (Operand.tmp 99), type := 4, pos := "outright.go:144", after := #[{ on := 21, ground := Ground.data }, { on := 20, ground := Ground.guard }], guard := some (20, false) }) (v := ?_) rfl (by kernel_rfl) (by kernel_rfl) (by kernel_rfl) (fun _ _ _ h => h) (Or.inl ⟨by rfl, ?_⟩) (by assumption) ?_
        rotate_left; focus (intro w hSw; (try dsimp only at hSw); go_simp; first | done | with_reducible rfl)
        try simp only [Act.put, List.setIfInBounds_toArray, List.set_cons_zero, List.set_cons_succ]
        refine wpAnyH_take (i := 23) (oi := { dst := some 101, op := Op.move (Operand.tmp 100), type := 4, pos := "outright.go:144", after := #[{ on := 22, ground := Ground.data }, { on := 20, ground := Ground.chain }, { on := 20, ground := Ground.guard }], guard := some (20, false) }) (v := ?_) rfl (by kernel_rfl) (by kernel_rfl) (by kernel_rfl) (fun _ _ _ h => h) (Or.inl ⟨by rfl, ?_⟩) (by assumption) ?_
        rotate_left; focus (intro w hSw; (try dsimp only at hSw); go_simp; first | done | with_reducible rfl)
        try simp only [Act.put, List.setIfInBounds_toArray, List.set_cons_zero, List.set_cons_succ]
        refine wpAnyH_take (i := 24) (oi := { dst := some 102, op := Op.load 41 (Operand.tmp 7), type := 41, pos := "outright.go:144", after := #[{ on := 23, ground := Ground.guard }], guard := some (23, true) }) (v := undef) rfl (by kernel_rfl) (by kernel_rfl) (by kernel_rfl) (fun _ _ _ h => h) (Or.inr ⟨by rfl, rfl⟩) (by assumption) ?_
        try simp only [Act.put, List.setIfInBounds_toArray, List.set_cons_zero, List.set_cons_succ]
        refine wpAnyH_take (i := 25) (oi := { dst := some 103, op := Op.build 41 #[], type := 41, pos := "outright.go:144", after := #[{ on := 23, ground := Ground.guard }], guard := some (23, true) }) (v := undef) rfl (by kernel_rfl) (by kernel_rfl) (by kernel_rfl) (fun _ _ _ h => h) (Or.inr ⟨by rfl, rfl⟩) (by assumption) ?_
        try simp only [Act.put, List.setIfInBounds_toArray, List.set_cons_zero, List.set_cons_succ]
        refine wpAnyH_ready (rs := [26]) (by kernel_rfl) (by simp) ?_
        refine AllReadyH.cons (o := { dst := some 104, op := Op.call { callee := Callee.value (Operand.func 44), args := #[Operand.tmp 102, Operand.tmp 103], argTypes := #[41, 41] }, type := 4, pos := "outright.go:144", after := #[{ on := 24, ground := Ground.data }, { on := 25, ground := Ground.data }, { on := 23, ground := Ground.chain }, { on := 23, ground := Ground.guard }], guard := some (23, true) }) rfl (fun K hK => ?_) AllReadyH.nil
        go_simp
        refine hK.out _ _ ?_ (fun hHeld => ?_)
        · ((try dsimp only); go_keep)
        clear hK K
        try simp only [Act.put, List.setIfInBounds_toArray, List.set_cons_zero, List.set_cons_succ]
        refine wpAnyH_take (i := 27) (oi := { dst := some 105, op := Op.unOp UnOp.not 4 (Operand.tmp 104), type := 4, pos := "outright.go:144", after := #[{ on := 26, ground := Ground.data }, { on := 23, ground := Ground.guard }], guard := some (23, true) }) (v := undef) rfl (by kernel_rfl) (by kernel_rfl) (by kernel_rfl) (fun _ _ _ h => h) (Or.inr ⟨by rfl, rfl⟩) (by assumption) ?_
        try simp only [Act.put, List.setIfInBounds_toArray, List.set_cons_zero, List.set_cons_succ]
        refine wpAnyH_take (i := 28) (oi := { dst := some 106, op := Op.pick (Operand.tmp 101) (Operand.tmp 105) (Operand.const (Value.bool false)), type := 4, pos := "outright.go:144", after := #[{ on := 23, ground := Ground.data }, { on := 27, ground := Ground.data }, { on := 20, ground := Ground.guard }], guard := some (20, false) }) (v := ?_) rfl (by kernel_rfl) (by kernel_rfl) (by kernel_rfl) (fun _ _ _ h => h) (Or.inl ⟨by rfl, ?_⟩) (by assumption) ?_
        rotate_left; focus (intro w hSw; (try dsimp only at hSw); go_simp; first | done | with_reducible rfl)
        try simp only [Act.put, List.setIfInBounds_toArray, List.set_cons_zero, List.set_cons_succ]
        refine wpAnyH_take (i := 29) (oi := { dst := some 107, op := Op.pick (Operand.tmp 98) (Operand.const (Value.bool true)) (Operand.tmp 106), type := 4, pos := "outright.go:144", after := #[{ on := 20, ground := Ground.data }, { on := 28, ground := Ground.data }], guard := none }) (v := ?_) rfl (by kernel_rfl) (by kernel_rfl) (by kernel_rfl) (fun _ _ _ h => h) (Or.inl ⟨by rfl, ?_⟩) (by assumption) ?_
        rotate_left; focus (intro w hSw; (try dsimp only at hSw); go_simp; first | done | with_reducible rfl)
        try simp only [Act.put, List.setIfInBounds_toArray, List.set_cons_zero, List.set_cons_succ]
        refine wpAnyH_take (i := 30) (oi := { dst := some 108, op := Op.move (Operand.tmp 107), type := 4, pos := "outright.go:144", after := #[{ on := 29, ground := Ground.data }, { on := 26, ground := Ground.chain }], guard := none }) (v := ?_) rfl (by kernel_rfl) (by kernel_rfl) (by kernel_rfl) (fun _ _ _ h => h) (Or.inl ⟨by rfl, ?_⟩) (by assumption) ?_
        rotate_left; focus (intro w hSw; (try dsimp only at hSw); go_simp; first | done | with_reducible rfl)
        try simp only [Act.put, List.setIfInBounds_toArray, List.set_cons_zero, List.set_cons_succ]
        refine wpAnyH_take (i := 31) (oi := { dst := some 109, op := Op.load 41 (Operand.tmp 3), type := 41, pos := "outright.go:144", after := #[{ on := 30, ground := Ground.guard }], guard := some (30, false) }) (v := ?_) rfl (by kernel_rfl) (by kernel_rfl) (by kernel_rfl) (fun _ _ _ h => h) (Or.inl ⟨by rfl, ?_⟩) (by assumption) ?_
        rotate_left; focus (intro w hSw; (try dsimp only at hSw); go_simp; first | done | with_reducible rfl)
        try simp only [Act.put, List.setIfInBounds_toArray, List.set_cons_zero, List.set_cons_succ]
        refine wpAnyH_take (i := 32) (oi := { dst := some 110, op := Op.move (Operand.tmp 2), type := 22, pos := "outright.go:144", after := #[{ on := 30, ground := Ground.guard }], guard := some (30, false) }) (v := ?_) rfl (by kernel_rfl) (by kernel_rfl) (by kernel_rfl) (fun _ _ _ h => h) (Or.inl ⟨by rfl, ?_⟩) (by assumption) ?_
        rotate_left; focus (intro w hSw; (try dsimp only at hSw); go_simp; first | done | with_reducible rfl)
        try simp only [Act.put, List.setIfInBounds_toArray, List.set_cons_zero, List.set_cons_succ]
        refine wpAnyH_ready (rs := [33]) (by kernel_rfl) (by simp) ?_
        refine AllReadyH.cons (o := { dst := some 111, op := Op.call { callee := Callee.value (Operand.func 51), args := #[Operand.tmp 109, Operand.tmp 110], argTypes := #[41, 22] }, type := 4, pos := "outright.go:144", after := #[{ on := 31, ground := Ground.data }, { on := 32, ground := Ground.data }, { on := 30, ground := Ground.chain }, { on := 30, ground := Ground.guard }], guard := some (30, false) }) rfl (fun K hK => ?_) AllReadyH.nil
        go_simp
        ((with_reducible refine (cXa.out _).mono ?_); rintro rr w9 ⟨rfl, hb⟩; replace M := Lib.hid (M.out.below hb); clear hb; clear k0 k1 k2 k3 k4 k5 k6 k7 k8 k9; have k0 := (M.out.nth 0 rfl).two.1; have k1 := (M.out.nth 0 rfl).two.2; have k2 := (M.out.nth 1 rfl).two.1; have k3 := (M.out.nth 1 rfl).two.2; have k4 := (M.out.nth 2 rfl).two.1; have k5 := (M.out.nth 2 rfl).two.2; have k6 := (M.out.nth 3 rfl).two.1; have k7 := (M.out.nth 3 rfl).two.2; have k8 := (M.out.nth 4 rfl).two.1; have k9 := (M.out.nth 4 rfl).two.2)
        try go_wp2_with fail
        refine hK.out _ _ ?_ (fun hHeld => ?_)
        · ((try dsimp only); go_keep)
        clear hK K
        try simp only [Act.put, List.setIfInBounds_toArray, List.set_cons_zero, List.set_cons_succ]
        refine wpAnyH_take (i := 34) (oi := { dst := some 112, op := Op.move (Operand.tmp 111), type := 4, pos := "outright.go:144", after := #[{ on := 33, ground := Ground.data }, { on := 33, ground := Ground.chain }, { on := 30, ground := Ground.guard }], guard := some (30, false) }) (v := ?_) rfl (by kernel_rfl) (by kernel_rfl) (by kernel_rfl) (fun _ _ _ h => h) (Or.inl ⟨by rfl, ?_⟩) (by assumption) ?_
        rotate_left; focus (intro w hSw; (try dsimp only at hSw); go_simp; first | done | with_reducible rfl)
        try simp only [Act.put, List.setIfInBounds_toArray, List.set_cons_zero, List.set_cons_succ]
        refine wpAnyH_take (i := 35) (oi := { dst := some 113, op := Op.load 41 (Operand.tmp 4), type := 41, pos := "outright.go:144", after := #[{ on := 34, ground := Ground.guard }], guard := some (34, false) }) (v := undef) rfl (by kernel_rfl) (by kernel_rfl) (by kernel_rfl) (fun _ _ _ h => h) (Or.inr ⟨by rfl, rfl⟩) (by assumption) ?_
        try simp only [Act.put, List.setIfInBounds_toArray, List.set_cons_zero, List.set_cons_succ]
        refine wpAnyH_take (i := 36) (oi := { dst := some 114, op := Op.move (Operand.tmp 2), type := 22, pos := "outright.go:144", after := #[{ on := 34, ground := Ground.guard }], guard := some (34, false) }) (v := undef) rfl (by kernel_rfl) (by kernel_rfl) (by kernel_rfl) (fun _ _ _ h => h) (Or.inr ⟨by rfl, rfl⟩) (by assumption) ?_
        try simp only [Act.put, List.setIfInBounds_toArray, List.set_cons_zero, List.set_cons_succ]
        refine wpAnyH_ready (rs := [37]) (by kernel_rfl) (by simp) ?_
        refine AllReadyH.cons (o := { dst := some 115, op := Op.call { callee := Callee.value (Operand.func 51), args := #[Operand.tmp 113, Operand.tmp 114], argTypes := #[41, 22] }, type := 4, pos := "outright.go:144", after := #[{ on := 35, ground := Ground.data }, { on := 36, ground := Ground.data }, { on := 34, ground := Ground.chain }, { on := 34, ground := Ground.guard }], guard := some (34, false) }) rfl (fun K hK => ?_) AllReadyH.nil
        go_simp
        refine hK.out _ _ ?_ (fun hHeld => ?_)
        · ((try dsimp only); go_keep)
        clear hK K
        try simp only [Act.put, List.setIfInBounds_toArray, List.set_cons_zero, List.set_cons_succ]
        refine wpAnyH_take (i := 38) (oi := { dst := some 116, op := Op.pick (Operand.tmp 112) (Operand.const (Value.bool true)) (Operand.tmp 115), type := 4, pos := "outright.go:144", after := #[{ on := 34, ground := Ground.data }, { on := 37, ground := Ground.data }, { on := 30, ground := Ground.guard }], guard := some (30, false) }) (v := ?_) rfl (by kernel_rfl) (by kernel_rfl) (by kernel_rfl) (fun _ _ _ h => h) (Or.inl ⟨by rfl, ?_⟩) (by assumption) ?_
        rotate_left; focus (intro w hSw; (try dsimp only at hSw); go_simp; first | done | with_reducible rfl)
        try simp only [Act.put, List.setIfInBounds_toArray, List.set_cons_zero, List.set_cons_succ]
        refine wpAnyH_take (i := 39) (oi := { dst := some 117, op := Op.move (Operand.tmp 116), type := 4, pos := "outright.go:144", after := #[{ on := 38, ground := Ground.data }, { on := 37, ground := Ground.chain }, { on := 30, ground := Ground.guard }], guard := some (30, false) }) (v := ?_) rfl (by kernel_rfl) (by kernel_rfl) (by kernel_rfl) (fun _ _ _ h => h) (Or.inl ⟨by rfl, ?_⟩) (by assumption) ?_
        rotate_left; focus (intro w hSw; (try dsimp only at hSw); go_simp; first | done | with_reducible rfl)
        try simp only [Act.put, List.setIfInBounds_toArray, List.set_cons_zero, List.set_cons_succ]
        refine wpAnyH_take (i := 40) (oi := { dst := some 118, op := Op.load 41 (Operand.tmp 11), type := 41, pos := "outright.go:144", after := #[{ on := 39, ground := Ground.guard }], guard := some (39, true) }) (v := ?_) rfl (by kernel_rfl) (by kernel_rfl) (by kernel_rfl) (fun _ _ _ h => h) (Or.inl ⟨by rfl, ?_⟩) (by assumption) ?_
        rotate_left; focus (intro w hSw; (try dsimp only at hSw); go_simp; first | done | with_reducible rfl)
        try simp only [Act.put, List.setIfInBounds_toArray, List.set_cons_zero, List.set_cons_succ]
        refine wpAnyH_take (i := 41) (oi := { dst := some 119, op := Op.move (Operand.tmp 2), type := 22, pos := "outright.go:144", after := #[{ on := 39, ground := Ground.guard }], guard := some (39, true) }) (v := ?_) rfl (by kernel_rfl) (by kernel_rfl) (by kernel_rfl) (fun _ _ _ h => h) (Or.inl ⟨by rfl, ?_⟩) (by assumption) ?_
        rotate_left; focus (intro w hSw; (try dsimp only at hSw); go_simp; first | done | with_reducible rfl)
        try simp only [Act.put, List.setIfInBounds_toArray, List.set_cons_zero, List.set_cons_succ]
        refine wpAnyH_ready (rs := [42]) (by kernel_rfl) (by simp) ?_
        refine AllReadyH.cons (o := { dst := some 120, op := Op.call { callee := Callee.value (Operand.func 51), args := #[Operand.tmp 118, Operand.tmp 119], argTypes := #[41, 22] }, type := 4, pos := "outright.go:144", after := #[{ on := 40, ground := Ground.data }, { on := 41, ground := Ground.data }, { on := 39, ground := Ground.chain }, { on := 39, ground := Ground.guard }], guard := some (39, true) }) rfl (fun K hK => ?_) AllReadyH.nil
        go_simp
        ((with_reducible refine (cXh.out rfl _).mono ?_); rintro rr w9 ⟨rfl, hb⟩; replace M := Lib.hid (M.out.below hb); clear hb; clear k0 k1 k2 k3 k4 k5 k6 k7 k8 k9; have k0 := (M.out.nth 0 rfl).two.1; have k1 := (M.out.nth 0 rfl).two.2; have k2 := (M.out.nth 1 rfl).two.1; have k3 := (M.out.nth 1 rfl).two.2; have k4 := (M.out.nth 2 rfl).two.1; have k5 := (M.out.nth 2 rfl).two.2; have k6 := (M.out.nth 3 rfl).two.1; have k7 := (M.out.nth 3 rfl).two.2; have k8 := (M.out.nth 4 rfl).two.1; have k9 := (M.out.nth 4 rfl).two.2)
        try go_wp2_with fail
        refine hK.out _ _ ?_ (fun hHeld => ?_)
        · ((try dsimp only); go_keep)
        clear hK K
        try simp only [Act.put, List.setIfInBounds_toArray, List.set_cons_zero, List.set_cons_succ]
        refine wpAnyH_take (i := 43) (oi := { dst := some 121, op := Op.unOp UnOp.not 4 (Operand.tmp 120), type := 4, pos := "outright.go:144", after := #[{ on := 42, ground := Ground.data }, { on := 39, ground := Ground.guard }], guard := some (39, true) }) (v := ?_) rfl (by kernel_rfl) (by kernel_rfl) (by kernel_rfl) (fun _ _ _ h => h) (Or.inl ⟨by rfl, ?_⟩) (by assumption) ?_
        rotate_left; focus (intro w hSw; (try dsimp only at hSw); go_simp; first | done | with_reducible rfl)
        try simp only [Act.put, List.setIfInBounds_toArray, List.set_cons_zero, List.set_cons_succ]
        refine wpAnyH_take (i := 44) (oi := { dst := some 122, op := Op.pick (Operand.tmp 117) (Operand.tmp 121) (Operand.const (Value.bool false)), type := 4, pos := "outright.go:144", after := #[{ on := 39, ground := Ground.data }, { on := 43, ground := Ground.data }, { on := 30, ground := Ground.guard }], guard := some (30, false) }) (v := ?_) rfl (by kernel_rfl) (by kernel_rfl) (by kernel_rfl) (fun _ _ _ h => h) (Or.inl ⟨by rfl, ?_⟩) (by assumption) ?_
        rotate_left; focus (intro w hSw; (try dsimp only at hSw); go_simp; first | done | with_reducible rfl)
        try simp only [Act.put, List.setIfInBounds_toArray, List.set_cons_zero, List.set_cons_succ]
        refine wpAnyH_take (i := 45) (oi := { dst := some 123, op := Op.pick (Operand.tmp 108) (Operand.const (Value.bool true)) (Operand.tmp 122), type := 4, pos := "outright.go:144", after := #[{ on := 30, ground := Ground.data }, { on := 44, ground := Ground.data }], guard := none }) (v := ?_) rfl (by kernel_rfl) (by kernel_rfl) (by kernel_rfl) (fun _ _ _ h => h) (Or.inl ⟨by rfl, ?_⟩) (by assumption) ?_
        rotate_left; focus (intro w hSw; (try dsimp only at hSw); go_simp; first | done | with_reducible rfl)
        try simp only [Act.put, List.setIfInBounds_toArray, List.set_cons_zero, List.set_cons_succ]
        refine wpAnyH_done (by kernel_rfl) ?_ _
        refine NoPanic.normal ?_
        go_wp2_with fail
        go_meet
        exact ⟨rfl, M.out⟩
      · skip
        refine wp_region_noPanic ?_
        refine wp_region_held_drew (S := fun w' => w'.cell? ⟨w.heap.size, 0, none⟩ = some (.float .f64 al) ∧ w'.cell? ⟨w.heap.size, 1, none⟩ = some (.float .f64 ah) ∧ w'.cell? ⟨w.heap.size + 1, 0, none⟩ = some (.float .f64 bl) ∧ w'.cell? ⟨w.heap.size + 1, 1, none⟩ = some (.float .f64 bh) ∧ w'.cell? ⟨p, 0, none⟩ = some (.float .f64 ml) ∧ w'.cell? ⟨p, 1, none⟩ = some (.float .f64 mh) ∧ w'.cell? ⟨q, 0, none⟩ = some (.float .f64 ml) ∧ w'.cell? ⟨q, 1, none⟩ = some (.float .f64 mh) ∧ w'.cell? ⟨s, 0, none⟩ = some (.float .f64 hl) ∧ w'.cell? ⟨s, 1, none⟩ = some (.float .f64 hh)) (by kernel_rfl) ?_ (fun hHeld => ?_)
        · (first | (go_keep; done) | (dsimp only; go_keep))
        refine wpAnyH_take (i := 0) (oi := { dst := some 78, op := Op.move (Operand.tmp 8), type := 4, pos := "outright.go:144", after := #[], guard := none }) (v := ?_) rfl (by kernel_rfl) (by kernel_rfl) (by kernel_rfl) (fun _ _ _ h => h) (Or.inl ⟨by rfl, ?_⟩) (by assumption) ?_
        rotate_left; focus (intro w hSw; (try dsimp only at hSw); go_simp; first | done | with_reducible rfl)
        try simp only [Act.put, List.setIfInBounds_toArray, List.set_cons_zero, List.set_cons_succ]
        refine wpAnyH_take (i := 1) (oi := { dst := some 79, op := Op.move (Operand.tmp 78), type := 4, pos := "outright.go:144", after := #[{ on := 0, ground := Ground.data }], guard := none }) (v := ?_) rfl (by kernel_rfl) (by kernel_rfl) (by kernel_rfl) (fun _ _ _ h => h) (Or.inl ⟨by rfl, ?_⟩) (by assumption) ?_
        rotate_left; focus (intro w hSw; (try dsimp only at hSw); go_simp; first | done | with_reducible rfl)
        try simp only [Act.put, List.setIfInBounds_toArray, List.set_cons_zero, List.set_cons_succ]
        refine wpAnyH_take (i := 2) (oi := { dst := some 80, op := Op.load 41 (Operand.tmp 7), type := 41, pos := "outright.go:144", after := #[{ on := 1, ground := Ground.guard }], guard := some (1, true) }) (v := ?_) rfl (by kernel_rfl) (by kernel_rfl) (by kernel_rfl) (fun _ _ _ h => h) (Or.inl ⟨by rfl, ?_⟩) (by assumption) ?_
        rotate_left; focus (intro w hSw; (try dsimp only at hSw); go_simp; first | done | with_reducible rfl)
        try simp only [Act.put, List.setIfInBounds_toArray, List.set_cons_zero, List.set_cons_succ]
        refine wpAnyH_ready (rs := [3]) (by kernel_rfl) (by simp) ?_
        refine AllReadyH.cons (o := { dst := some 81, op := Op.call { callee := Callee.value (Operand.func 40), args := #[Operand.tmp 80], argTypes := #[41] }, type := 4, pos := "outright.go:144", after := #[{ on := 2, ground := Ground.data }, { on := 1, ground := Ground.chain }, { on := 1, ground := Ground.guard }], guard := some (1, true) }) rfl (fun K hK => ?_) AllReadyH.nil
        go_simp
        ((with_reducible refine (cRm.out _).mono ?_); rintro rr w9 ⟨rfl, hb⟩; replace M := Lib.hid (M.out.below hb); clear hb; clear k0 k1 k2 k3 k4 k5 k6 k7 k8 k9; have k0 := (M.out.nth 0 rfl).two.1; have k1 := (M.out.nth 0 rfl).two.2; have k2 := (M.out.nth 1 rfl).two.1; have k3 := (M.out.nth 1 rfl).two.2; have k4 := (M.out.nth 2 rfl).two.1; have k5 := (M.out.nth 2 rfl).two.2; have k6 := (M.out.nth 3 rfl).two.1; have k7 := (M.out.nth 3 rfl).two.2; have k8 := (M.out.nth 4 rfl).two.1; have k9 := (M.out.nth 4 rfl).two.2)
        try go_wp2_with fail
        refine hK.out _ _ ?_ (fun hHeld => ?_)
        · ((try dsimp only); go_keep)
        clear hK K
        try simp only [Act.put, List.setIfInBounds_toArray, List.set_cons_zero, List.set_cons_succ]
        refine wpAnyH_take (i := 4) (oi := { dst := some 82, op := Op.unOp UnOp.not 4 (Operand.tmp 81), type := 4, pos := "outright.go:144", after := #[{ on := 3, ground := Ground.data }, { on := 1, ground := Ground.guard }], guard := some (1, true) }) (v := ?_) rfl (by kernel_rfl) (by kernel_rfl) (by kernel_rfl) (fun _ _ _ h => h) (Or.inl ⟨by rfl, ?_⟩) (by assumption) ?_
        rotate_left; focus (intro w hSw; (try dsimp only at hSw); go_simp; first | done | with_reducible rfl)
        try simp only [Act.put, List.setIfInBounds_toArray, List.set_cons_zero, List.set_cons_succ]
        refine wpAnyH_take (i := 5) (oi := { dst := some 83, op := Op.move (Operand.tmp 82), type := 4, pos := "outright.go:144", after := #[{ on := 4, ground := Ground.data }, { on := 3, ground := Ground.chain }, { on := 1, ground := Ground.guard }], guard := some (1, true) }) (v := ?_) rfl (by kernel_rfl) (by kernel_rfl) (by kernel_rfl) (fun _ _ _ h => h) (Or.inl ⟨by rfl, ?_⟩) (by assumption) ?_
        rotate_left; focus (intro w hSw; (try dsimp only at hSw); go_simp; first | done | with_reducible rfl)
        try simp only [Act.put, List.setIfInBounds_toArray, List.set_cons_zero, List.set_cons_succ]
        refine wpAnyH_take (i := 6) (oi := { dst := some 84, op := Op.load 41 (Operand.tmp 7), type := 41, pos := "outright.go:144", after := #[{ on := 5, ground := Ground.guard }], guard := some (5, false) }) (v := ?_) rfl (by kernel_rfl) (by kernel_rfl) (by kernel_rfl) (fun _ _ _ h => h) (Or.inl ⟨by rfl, ?_⟩) (by assumption) ?_
        rotate_left; focus (intro w hSw; (try dsimp only at hSw); go_simp; first | done | with_reducible rfl)
        try simp only [Act.put, List.setIfInBounds_toArray, List.set_cons_zero, List.set_cons_succ]
        refine wpAnyH_take (i := 7) (oi := { dst := some 85, op := Op.move (Operand.tmp 2), type := 22, pos := "outright.go:144", after := #[{ on := 5, ground := Ground.guard }], guard := some (5, false) }) (v := ?_) rfl (by kernel_rfl) (by kernel_rfl) (by kernel_rfl) (fun _ _ _ h => h) (Or.inl ⟨by rfl, ?_⟩) (by assumption) ?_
        rotate_left; focus (intro w hSw; (try dsimp only at hSw); go_simp; first | done | with_reducible rfl)
        try simp only [Act.put, List.setIfInBounds_toArray, List.set_cons_zero, List.set_cons_succ]
        refine wpAnyH_take (i := 9) (oi := { dst := some 87, op := Op.load 41 (Operand.tmp 3), type := 41, pos := "outright.go:144", after := #[{ on := 5, ground := Ground.guard }], guard := some (5, false) }) (v := ?_) rfl (by kernel_rfl) (by kernel_rfl) (by kernel_rfl) (fun _ _ _ h => h) (Or.inl ⟨by rfl, ?_⟩) (by assumption) ?_
        rotate_left; focus (intro w hSw; (try dsimp only at hSw); go_simp; first | done | with_reducible rfl)
        try simp only [Act.put, List.setIfInBounds_toArray, List.set_cons_zero, List.set_cons_succ]
        refine wpAnyH_take (i := 10) (oi := { dst := some 88, op := Op.move (Operand.tmp 2), type := 22, pos := "outright.go:144", after := #[{ on := 5, ground := Ground.guard }], guard := some (5, false) }) (v := ?_) rfl (by kernel_rfl) (by kernel_rfl) (by kernel_rfl) (fun _ _ _ h => h) (Or.inl ⟨by rfl, ?_⟩) (by assumption) ?_
        rotate_left; focus (intro w hSw; (try dsimp only at hSw); go_simp; first | done | with_reducible rfl)
        try simp only [Act.put, List.setIfInBounds_toArray, List.set_cons_zero, List.set_cons_succ]
        refine wpAnyH_ready (rs := [8]) (by kernel_rfl) (by simp) ?_
        refine AllReadyH.cons (o := { dst := some 86, op := Op.call { callee := Callee.value (Operand.func 51), args := #[Operand.tmp 84, Operand.tmp 85], argTypes := #[41, 22] }, type := 4, pos := "outright.go:144", after := #[{ on := 6, ground := Ground.data }, { on := 7, ground := Ground.data }, { on := 5, ground := Ground.chain }, { on := 5, ground := Ground.guard }], guard := some (5, false) }) rfl (fun K hK => ?_) AllReadyH.nil
        go_simp
        ((with_reducible refine (cXm.out _).mono ?_); rintro rr w9 ⟨rfl, hb⟩; replace M := Lib.hid (M.out.below hb); clear hb; clear k0 k1 k2 k3 k4 k5 k6 k7 k8 k9; have k0 := (M.out.nth 0 rfl).two.1; have k1 := (M.out.nth 0 rfl).two.2; have k2 := (M.out.nth 1 rfl).two.1; have k3 := (M.out.nth 1 rfl).two.2; have k4 := (M.out.nth 2 rfl).two.1; have k5 := (M.out.nth 2 rfl).two.2; have k6 := (M.out.nth 3 rfl).two.1; have k7 := (M.out.nth 3 rfl).two.2; have k8 := (M.out.nth 4 rfl).two.1; have k9 := (M.out.nth 4 rfl).two.2)
        try go_wp2_with fail
        refine hK.out _ _ ?_ (fun hHeld => ?_)
        · ((try dsimp only); go_keep)
        clear hK K
        try simp only [Act.put, List.setIfInBounds_toArray, List.set_cons_zero, List.set_cons_succ]
        refine wpAnyH_ready (rs := [11]) (by kernel_rfl) (by simp) ?_
        refine AllReadyH.cons (o := { dst := some 89, op := Op.call { callee := Callee.value (Operand.func 51), args := #[Operand.tmp 87, Operand.tmp 88], argTypes := #[41, 22] }, type := 4, pos := "outright.go:144", after := #[{ on := 9, ground := Ground.data }, { on := 10, ground := Ground.data }, { on := 8, ground := Ground.chain }, { on := 5, ground := Ground.guard }], guard := some (5, false) }) rfl (fun K hK => ?_) AllReadyH.nil
        go_simp
        ((with_reducible refine (cXa.out _).mono ?_); rintro rr w9 ⟨rfl, hb⟩; replace M := Lib.hid (M.out.below hb); clear hb; clear k0 k1 k2 k3 k4 k5 k6 k7 k8 k9; have k0 := (M.out.nth 0 rfl).two.1; have k1 := (M.out.nth 0 rfl).two.2; have k2 := (M.out.nth 1 rfl).two.1; have k3 := (M.out.nth 1 rfl).two.2; have k4 := (M.out.nth 2 rfl).two.1; have k5 := (M.out.nth 2 rfl).two.2; have k6 := (M.out.nth 3 rfl).two.1; have k7 := (M.out.nth 3 rfl).two.2; have k8 := (M.out.nth 4 rfl).two.1; have k9 := (M.out.nth 4 rfl).two.2)
        try go_wp2_with fail
        refine hK.out _ _ ?_ (fun hHeld => ?_)
        · ((try dsimp only); go_keep)
        clear hK K
        try simp only [Act.put, List.setIfInBounds_toArray, List.set_cons_zero, List.set_cons_succ]
        refine wpAnyH_take (i := 12) (oi := { dst := some 90, op := Op.move (Operand.tmp 89), type := 4, pos := "outright.go:144", after := #[{ on := 11, ground := Ground.data }, { on := 11, ground := Ground.chain }, { on := 5, ground := Ground.guard }], guard := some (5, false) }) (v := ?_) rfl (by kernel_rfl) (by kernel_rfl) (by kernel_rfl) (fun _ _ _ h => h) (Or.inl ⟨by rfl, ?_⟩) (by assumption) ?_
        rotate_left; focus (intro w hSw; (try dsimp only at hSw); go_simp; first | done | with_reducible rfl)
        try simp only [Act.put, List.setIfInBounds_toArray, List.set_cons_zero, List.set_cons_succ]
        refine wpAnyH_take (i := 13) (oi := { dst := some 91, op := Op.load 41 (Operand.tmp 4), type := 41, pos := "outright.go:144", after := #[{ on := 12, ground := Ground.guard }], guard := some (12, true) }) (v := ?_) rfl (by kernel_rfl) (by kernel_rfl) (by kernel_rfl) (fun _ _ _ h => h) (Or.inl ⟨by rfl, ?_⟩) (by assumption) ?_
        rotate_left; focus (intro w hSw; (try dsimp only at hSw); go_simp; first | done | with_reducible rfl)
        try simp only [Act.put, List.setIfInBounds_toArray, List.set_cons_zero, List.set_cons_succ]
        refine wpAnyH_take (i := 14) (oi := { dst := some 92, op := Op.move (Operand.tmp 2), type := 22, pos := "outright.go:144", after := #[{ on := 12, ground := Ground.guard }], guard := some (12, true) }) (v := ?_) rfl (by kernel_rfl) (by kernel_rfl) (by kernel_rfl) (fun _ _ _ h => h) (Or.inl ⟨by rfl, ?_⟩) (by assumption) ?_
        rotate_left; focus (intro w hSw; (try dsimp only at hSw); go_simp; first | done | with_reducible rfl)
        try simp only [Act.put, List.setIfInBounds_toArray, List.set_cons_zero, List.set_cons_succ]
        refine wpAnyH_ready (rs := [15]) (by kernel_rfl) (by simp) ?_
        refine AllReadyH.cons (o := { dst := some 93, op := Op.call { callee := Callee.value (Operand.func 51), args := #[Operand.tmp 91, Operand.tmp 92], argTypes := #[41, 22] }, type := 4, pos := "outright.go:144", after := #[{ on := 13, ground := Ground.data }, { on := 14, ground := Ground.data }, { on := 12, ground := Ground.chain }, { on := 12, ground := Ground.guard }], guard := some (12, true) }) rfl (fun K hK => ?_) AllReadyH.nil
        go_simp
        ((with_reducible refine (cXb.out _).mono ?_); rintro rr w9 ⟨rfl, hb⟩; replace M := Lib.hid (M.out.below hb); clear hb; clear k0 k1 k2 k3 k4 k5 k6 k7 k8 k9; have k0 := (M.out.nth 0 rfl).two.1; have k1 := (M.out.nth 0 rfl).two.2; have k2 := (M.out.nth 1 rfl).two.1; have k3 := (M.out.nth 1 rfl).two.2; have k4 := (M.out.nth 2 rfl).two.1; have k5 := (M.out.nth 2 rfl).two.2; have k6 := (M.out.nth 3 rfl).two.1; have k7 := (M.out.nth 3 rfl).two.2; have k8 := (M.out.nth 4 rfl).two.1; have k9 := (M.out.nth 4 rfl).two.2)
        try go_wp2_with fail
        refine hK.out _ _ ?_ (fun hHeld => ?_)
        · ((try dsimp only); go_keep)
        clear hK K
        try simp only [Act.put, List.setIfInBounds_toArray, List.set_cons_zero, List.set_cons_succ]
        refine wpAnyH_take (i := 16) (oi := { dst := some 94, op := Op.pick (Operand.tmp 90) (Operand.tmp 93) (Operand.const (Value.bool false)), type := 4, pos := "outright.go:144", after := #[{ on := 12, ground := Ground.data }, { on := 15, ground := Ground.data }, { on := 5, ground := Ground.guard }], guard := some (5, false) }) (v := ?_) rfl (by kernel_rfl) (by kernel_rfl) (by kernel_rfl) (fun _ _ _ h => h) (Or.inl ⟨by rfl, ?_⟩) (by assumption) ?_
        rotate_left; focus (intro w hSw; (try dsimp only at hSw); go_simp; first | done | with_reducible rfl)
        try simp only [Act.put, List.setIfInBounds_toArray, List.set_cons_zero, List.set_cons_succ]
        refine wpAnyH_take (i := 17) (oi := { dst := some 95, op := Op.binOp BinOp.neq 4 (Operand.tmp 86) (Operand.tmp 94) 4, type := 4, pos := "outright.go:144", after := #[{ on := 8, ground := Ground.data }, { on := 16, ground := Ground.data }, { on := 5, ground := Ground.guard }], guard := some (5, false) }) (v := ?_) rfl (by kernel_rfl) (by kernel_rfl) (by kernel_rfl) (fun _ _ _ h => h) (Or.inl ⟨by rfl, ?_⟩) (by assumption) ?_
        rotate_left; focus (intro w hSw; (try dsimp only at hSw); go_simp; first | done | with_reducible rfl)
        try simp only [Act.put, List.setIfInBounds_toArray, List.set_cons_zero, List.set_cons_succ]
        refine wpAnyH_take (i := 18) (oi := { dst := some 96, op := Op.pick (Operand.tmp 83) (Operand.const (Value.bool true)) (Operand.tmp 95), type := 4, pos := "outright.go:144", after := #[{ on := 5, ground := Ground.data }, { on := 17, ground := Ground.data }, { on := 1, ground := Ground.guard }], guard := some (1, true) }) (v := ?_) rfl (by kernel_rfl) (by kernel_rfl) (by kernel_rfl) (fun _ _ _ h => h) (Or.inl ⟨by rfl, ?_⟩) (by assumption) ?_
        rotate_left; focus (intro w hSw; (try dsimp only at hSw); go_simp; first | done | with_reducible rfl)
        try simp only [Act.put, List.setIfInBounds_toArray, List.set_cons_zero, List.set_cons_succ]
        refine wpAnyH_take (i := 19) (oi := { dst := some 97, op := Op.pick (Operand.tmp 79) (Operand.tmp 96) (Operand.const (Value.bool false)), type := 4, pos := "outright.go:144", after := #[{ on := 1, ground := Ground.data }, { on := 18, ground := Ground.data }], guard := none }) (v := ?_) rfl (by kernel_rfl) (by kernel_rfl) (by kernel_rfl) (fun _ _ _ h => h) (Or.inl ⟨by rfl, ?_⟩) (by assumption) ?_
        rotate_left; focus (intro w hSw; (try dsimp only at hSw); go_simp; first | done | with_reducible rfl)
        try simp only [Act.put, List.setIfInBounds_toArray, List.set_cons_zero, List.set_cons_succ]
        refine wpAnyH_take (i := 20) (oi := { dst := some 98, op := Op.move (Operand.tmp 97), type := 4, pos := "outright.go:144", after := #[{ on := 19, ground := Ground.data }, { on := 15, ground := Ground.chain }], guard := none }) (v := ?_) rfl (by kernel_rfl) (by kernel_rfl) (by kernel_rfl) (fun _ _ _ h => h) (Or.inl ⟨by rfl, ?_⟩) (by assumption) ?_
        rotate_left; focus (intro w hSw; (try dsimp only at hSw); go_simp; first | done | with_reducible rfl)
        try simp only [Act.put, List.setIfInBounds_toArray, List.set_cons_zero, List.set_cons_succ]
        refine wpAnyH_take (i := 21) (oi := { dst := some 99, op := Op.move (Operand.tmp 8), type := 4, pos := "outright.go:144", after := #[{ on := 20, ground := Ground.guard }], guard := some (20, false) }) (v := ?_) rfl (by kernel_rfl) (by kernel_rfl) (by kernel_rfl) (fun _ _ _ h => h) (Or.inl ⟨by rfl, ?_⟩) (by assumption) ?_
        rotate_left; focus (intro w hSw; (try dsimp only at hSw); go_simp; first | done | with_reducible rfl)
        try simp only [Act.put, List.setIfInBounds_toArray, List.set_cons_zero, List.set_cons_succ]
        refine wpAnyH_take (i := 22) (oi := { dst := some 100, op := Op.unOp UnOp.not 4 (Operand.tmp 99), type := 4, pos := "outright.go:144", after := #[{ on := 21, ground := Ground.data }, { on := 20, ground := Ground.guard }], guard := some (20, false) }) (v := ?_) rfl (by kernel_rfl) (by kernel_rfl) (by kernel_rfl) (fun _ _ _ h => h) (Or.inl ⟨by rfl, ?_⟩) (by assumption) ?_
        rotate_left; focus (intro w hSw; (try dsimp only at hSw); go_simp; first | done | with_reducible rfl)
        try simp only [Act.put, List.setIfInBounds_toArray, List.set_cons_zero, List.set_cons_succ]
        refine wpAnyH_take (i := 23) (oi := { dst := some 101, op := Op.move (Operand.tmp 100), type := 4, pos := "outright.go:144", after := #[{ on := 22, ground := Ground.data }, { on := 20, ground := Ground.chain }, { on := 20, ground := Ground.guard }], guard := some (20, false) }) (v := ?_) rfl (by kernel_rfl) (by kernel_rfl) (by kernel_rfl) (fun _ _ _ h => h) (Or.inl ⟨by rfl, ?_⟩) (by assumption) ?_
        rotate_left; focus (intro w hSw; (try dsimp only at hSw); go_simp; first | done | with_reducible rfl)
        try simp only [Act.put, List.setIfInBounds_toArray, List.set_cons_zero, List.set_cons_succ]
        refine wpAnyH_take (i := 24) (oi := { dst := some 102, op := Op.load 41 (Operand.tmp 7), type := 41, pos := "outright.go:144", after := #[{ on := 23, ground := Ground.guard }], guard := some (23, true) }) (v := undef) rfl (by kernel_rfl) (by kernel_rfl) (by kernel_rfl) (fun _ _ _ h => h) (Or.inr ⟨by rfl, rfl⟩) (by assumption) ?_
        try simp only [Act.put, List.setIfInBounds_toArray, List.set_cons_zero, List.set_cons_succ]
        refine wpAnyH_take (i := 25) (oi := { dst := some 103, op := Op.build 41 #[], type := 41, pos := "outright.go:144", after := #[{ on := 23, ground := Ground.guard }], guard := some (23, true) }) (v := undef) rfl (by kernel_rfl) (by kernel_rfl) (by kernel_rfl) (fun _ _ _ h => h) (Or.inr ⟨by rfl, rfl⟩) (by assumption) ?_
        try simp only [Act.put, List.setIfInBounds_toArray, List.set_cons_zero, List.set_cons_succ]
        refine wpAnyH_ready (rs := [26]) (by kernel_rfl) (by simp) ?_
        refine AllReadyH.cons (o := { dst := some 104, op := Op.call { callee := Callee.value (Operand.func 44), args := #[Operand.tmp 102, Operand.tmp 103], argTypes := #[41, 41] }, type := 4, pos := "outright.go:144", after := #[{ on := 24, ground := Ground.data }, { on := 25, ground := Ground.data }, { on := 23, ground := Ground.chain }, { on := 23, ground := Ground.guard }], guard := some (23, true) }) rfl (fun K hK => ?_) AllReadyH.nil
        go_simp
        refine hK.out _ _ ?_ (fun hHeld => ?_)
        · ((try dsimp only); go_keep)
        clear hK K
        try simp only [Act.put, List.setIfInBounds_toArray, List.set_cons_zero, List.set_cons_succ]
        refine wpAnyH_take (i := 27) (oi := { dst := some 105, op := Op.unOp UnOp.not 4 (Operand.tmp 104), type := 4, pos := "outright.go:144", after := #[{ on := 26, ground := Ground.data }, { on := 23, ground := Ground.guard }], guard := some (23, true) }) (v := undef) rfl (by kernel_rfl) (by kernel_rfl) (by kernel_rfl) (fun _ _ _ h => h) (Or.inr ⟨by rfl, rfl⟩) (by assumption) ?_
        try simp only [Act.put, List.setIfInBounds_toArray, List.set_cons_zero, List.set_cons_succ]
        refine wpAnyH_take (i := 28) (oi := { dst := some 106, op := Op.pick (Operand.tmp 101) (Operand.tmp 105) (Operand.const (Value.bool false)), type := 4, pos := "outright.go:144", after := #[{ on := 23, ground := Ground.data }, { on := 27, ground := Ground.data }, { on := 20, ground := Ground.guard }], guard := some (20, false) }) (v := ?_) rfl (by kernel_rfl) (by kernel_rfl) (by kernel_rfl) (fun _ _ _ h => h) (Or.inl ⟨by rfl, ?_⟩) (by assumption) ?_
        rotate_left; focus (intro w hSw; (try dsimp only at hSw); go_simp; first | done | with_reducible rfl)
        try simp only [Act.put, List.setIfInBounds_toArray, List.set_cons_zero, List.set_cons_succ]
        refine wpAnyH_take (i := 29) (oi := { dst := some 107, op := Op.pick (Operand.tmp 98) (Operand.const (Value.bool true)) (Operand.tmp 106), type := 4, pos := "outright.go:144", after := #[{ on := 20, ground := Ground.data }, { on := 28, ground := Ground.data }], guard := none }) (v := ?_) rfl (by kernel_rfl) (by kernel_rfl) (by kernel_rfl) (fun _ _ _ h => h) (Or.inl ⟨by rfl, ?_⟩) (by assumption) ?_
        rotate_left; focus (intro w hSw; (try dsimp only at hSw); go_simp; first | done | with_reducible rfl)
        try simp only [Act.put, List.setIfInBounds_toArray, List.set_cons_zero, List.set_cons_succ]
        refine wpAnyH_take (i := 30) (oi := { dst := some 108, op := Op.move (Operand.tmp 107), type := 4, pos := "outright.go:144", after := #[{ on := 29, ground := Ground.data }, { on := 26, ground := Ground.chain }], guard := none }) (v := ?_) rfl (by kernel_rfl) (by kernel_rfl) (by kernel_rfl) (fun _ _ _ h => h) (Or.inl ⟨by rfl, ?_⟩) (by assumption) ?_
        rotate_left; focus (intro w hSw; (try dsimp only at hSw); go_simp; first | done | with_reducible rfl)
        try simp only [Act.put, List.setIfInBounds_toArray, List.set_cons_zero, List.set_cons_succ]
        refine wpAnyH_take (i := 31) (oi := { dst := some 109, op := Op.load 41 (Operand.tmp 3), type := 41, pos := "outright.go:144", after := #[{ on := 30, ground := Ground.guard }], guard := some (30, false) }) (v := ?_) rfl (by kernel_rfl) (by kernel_rfl) (by kernel_rfl) (fun _ _ _ h => h) (Or.inl ⟨by rfl, ?_⟩) (by assumption) ?_
        rotate_left; focus (intro w hSw; (try dsimp only at hSw); go_simp; first | done | with_reducible rfl)
        try simp only [Act.put, List.setIfInBounds_toArray, List.set_cons_zero, List.set_cons_succ]
        refine wpAnyH_take (i := 32) (oi := { dst := some 110, op := Op.move (Operand.tmp 2), type := 22, pos := "outright.go:144", after := #[{ on := 30, ground := Ground.guard }], guard := some (30, false) }) (v := ?_) rfl (by kernel_rfl) (by kernel_rfl) (by kernel_rfl) (fun _ _ _ h => h) (Or.inl ⟨by rfl, ?_⟩) (by assumption) ?_
        rotate_left; focus (intro w hSw; (try dsimp only at hSw); go_simp; first | done | with_reducible rfl)
        try simp only [Act.put, List.setIfInBounds_toArray, List.set_cons_zero, List.set_cons_succ]
        refine wpAnyH_ready (rs := [33]) (by kernel_rfl) (by simp) ?_
        refine AllReadyH.cons (o := { dst := some 111, op := Op.call { callee := Callee.value (Operand.func 51), args := #[Operand.tmp 109, Operand.tmp 110], argTypes := #[41, 22] }, type := 4, pos := "outright.go:144", after := #[{ on := 31, ground := Ground.data }, { on := 32, ground := Ground.data }, { on := 30, ground := Ground.chain }, { on := 30, ground := Ground.guard }], guard := some (30, false) }) rfl (fun K hK => ?_) AllReadyH.nil
        go_simp
        ((with_reducible refine (cXa.out _).mono ?_); rintro rr w9 ⟨rfl, hb⟩; replace M := Lib.hid (M.out.below hb); clear hb; clear k0 k1 k2 k3 k4 k5 k6 k7 k8 k9; have k0 := (M.out.nth 0 rfl).two.1; have k1 := (M.out.nth 0 rfl).two.2; have k2 := (M.out.nth 1 rfl).two.1; have k3 := (M.out.nth 1 rfl).two.2; have k4 := (M.out.nth 2 rfl).two.1; have k5 := (M.out.nth 2 rfl).two.2; have k6 := (M.out.nth 3 rfl).two.1; have k7 := (M.out.nth 3 rfl).two.2; have k8 := (M.out.nth 4 rfl).two.1; have k9 := (M.out.nth 4 rfl).two.2)
        try go_wp2_with fail
        refine hK.out _ _ ?_ (fun hHeld => ?_)
        · ((try dsimp only); go_keep)
        clear hK K
        try simp only [Act.put, List.setIfInBounds_toArray, List.set_cons_zero, List.set_cons_succ]
        refine wpAnyH_take (i := 34) (oi := { dst := some 112, op := Op.move (Operand.tmp 111), type := 4, pos := "outright.go:144", after := #[{ on := 33, ground := Ground.data }, { on := 33, ground := Ground.chain }, { on := 30, ground := Ground.guard }], guard := some (30, false) }) (v := ?_) rfl (by kernel_rfl) (by kernel_rfl) (by kernel_rfl) (fun _ _ _ h => h) (Or.inl ⟨by rfl, ?_⟩) (by assumption) ?_
        rotate_left; focus (intro w hSw; (try dsimp only at hSw); go_simp; first | done | with_reducible rfl)
        try simp only [Act.put, List.setIfInBounds_toArray, List.set_cons_zero, List.set_cons_succ]
        refine wpAnyH_take (i := 35) (oi := { dst := some 113, op := Op.load 41 (Operand.tmp 4), type := 41, pos := "outright.go:144", after := #[{ on := 34, ground := Ground.guard }], guard := some (34, false) }) (v := undef) rfl (by kernel_rfl) (by kernel_rfl) (by kernel_rfl) (fun _ _ _ h => h) (Or.inr ⟨by rfl, rfl⟩) (by assumption) ?_
        try simp only [Act.put, List.setIfInBounds_toArray, List.set_cons_zero, List.set_cons_succ]
        refine wpAnyH_take (i := 36) (oi := { dst := some 114, op := Op.move (Operand.tmp 2), type := 22, pos := "outright.go:144", after := #[{ on := 34, ground := Ground.guard }], guard := some (34, false) }) (v := undef) rfl (by kernel_rfl) (by kernel_rfl) (by kernel_rfl) (fun _ _ _ h => h) (Or.inr ⟨by rfl, rfl⟩) (by assumption) ?_
        try simp only [Act.put, List.setIfInBounds_toArray, List.set_cons_zero, List.set_cons_succ]
        refine wpAnyH_ready (rs := [37]) (by kernel_rfl) (by simp) ?_
        refine AllReadyH.cons (o := { dst := some 115, op := Op.call { callee := Callee.value (Operand.func 51), args := #[Operand.tmp 113, Operand.tmp 114], argTypes := #[41, 22] }, type := 4, pos := "outright.go:144", after := #[{ on := 35, ground := Ground.data }, { on := 36, ground := Ground.data }, { on := 34, ground := Ground.chain }, { on := 34, ground := Ground.guard }], guard := some (34, false) }) rfl (fun K hK => ?_) AllReadyH.nil
        go_simp
        refine hK.out _ _ ?_ (fun hHeld => ?_)
        · ((try dsimp only); go_keep)
        clear hK K
        try simp only [Act.put, List.setIfInBounds_toArray, List.set_cons_zero, List.set_cons_succ]
        refine wpAnyH_take (i := 38) (oi := { dst := some 116, op := Op.pick (Operand.tmp 112) (Operand.const (Value.bool true)) (Operand.tmp 115), type := 4, pos := "outright.go:144", after := #[{ on := 34, ground := Ground.data }, { on := 37, ground := Ground.data }, { on := 30, ground := Ground.guard }], guard := some (30, false) }) (v := ?_) rfl (by kernel_rfl) (by kernel_rfl) (by kernel_rfl) (fun _ _ _ h => h) (Or.inl ⟨by rfl, ?_⟩) (by assumption) ?_
        rotate_left; focus (intro w hSw; (try dsimp only at hSw); go_simp; first | done | with_reducible rfl)
        try simp only [Act.put, List.setIfInBounds_toArray, List.set_cons_zero, List.set_cons_succ]
        refine wpAnyH_take (i := 39) (oi := { dst := some 117, op := Op.move (Operand.tmp 116), type := 4, pos := "outright.go:144", after := #[{ on := 38, ground := Ground.data }, { on := 37, ground := Ground.chain }, { on := 30, ground := Ground.guard }], guard := some (30, false) }) (v := ?_) rfl (by kernel_rfl) (by kernel_rfl) (by kernel_rfl) (fun _ _ _ h => h) (Or.inl ⟨by rfl, ?_⟩) (by assumption) ?_
        rotate_left; focus (intro w hSw; (try dsimp only at hSw); go_simp; first | done | with_reducible rfl)
        try simp only [Act.put, List.setIfInBounds_toArray, List.set_cons_zero, List.set_cons_succ]
        refine wpAnyH_take (i := 40) (oi := { dst := some 118, op := Op.load 41 (Operand.tmp 11), type := 41, pos := "outright.go:144", after := #[{ on := 39, ground := Ground.guard }], guard := some (39, true) }) (v := ?_) rfl (by kernel_rfl) (by kernel_rfl) (by kernel_rfl) (fun _ _ _ h => h) (Or.inl ⟨by rfl, ?_⟩) (by assumption) ?_
        rotate_left; focus (intro w hSw; (try dsimp only at hSw); go_simp; first | done | with_reducible rfl)
        try simp only [Act.put, List.setIfInBounds_toArray, List.set_cons_zero, List.set_cons_succ]
        refine wpAnyH_take (i := 41) (oi := { dst := some 119, op := Op.move (Operand.tmp 2), type := 22, pos := "outright.go:144", after := #[{ on := 39, ground := Ground.guard }], guard := some (39, true) }) (v := ?_) rfl (by kernel_rfl) (by kernel_rfl) (by kernel_rfl) (fun _ _ _ h => h) (Or.inl ⟨by rfl, ?_⟩) (by assumption) ?_
        rotate_left; focus (intro w hSw; (try dsimp only at hSw); go_simp; first | done | with_reducible rfl)
        try simp only [Act.put, List.setIfInBounds_toArray, List.set_cons_zero, List.set_cons_succ]
        refine wpAnyH_ready (rs := [42]) (by kernel_rfl) (by simp) ?_
        refine AllReadyH.cons (o := { dst := some 120, op := Op.call { callee := Callee.value (Operand.func 51), args := #[Operand.tmp 118, Operand.tmp 119], argTypes := #[41, 22] }, type := 4, pos := "outright.go:144", after := #[{ on := 40, ground := Ground.data }, { on := 41, ground := Ground.data }, { on := 39, ground := Ground.chain }, { on := 39, ground := Ground.guard }], guard := some (39, true) }) rfl (fun K hK => ?_) AllReadyH.nil
        go_simp
        ((with_reducible refine (cXh.out rfl _).mono ?_); rintro rr w9 ⟨rfl, hb⟩; replace M := Lib.hid (M.out.below hb); clear hb; clear k0 k1 k2 k3 k4 k5 k6 k7 k8 k9; have k0 := (M.out.nth 0 rfl).two.1; have k1 := (M.out.nth 0 rfl).two.2; have k2 := (M.out.nth 1 rfl).two.1; have k3 := (M.out.nth 1 rfl).two.2; have k4 := (M.out.nth 2 rfl).two.1; have k5 := (M.out.nth 2 rfl).two.2; have k6 := (M.out.nth 3 rfl).two.1; have k7 := (M.out.nth 3 rfl).two.2; have k8 := (M.out.nth 4 rfl).two.1; have k9 := (M.out.nth 4 rfl).two.2)
        try go_wp2_with fail
        refine hK.out _ _ ?_ (fun hHeld => ?_)
        · ((try dsimp only); go_keep)
        clear hK K
        try simp only [Act.put, List.setIfInBounds_toArray, List.set_cons_zero, List.set_cons_succ]
        refine wpAnyH_take (i := 43) (oi := { dst := some 121, op := Op.unOp UnOp.not 4 (Operand.tmp 120), type := 4, pos := "outright.go:144", after := #[{ on := 42, ground := Ground.data }, { on := 39, ground := Ground.guard }], guard := some (39, true) }) (v := ?_) rfl (by kernel_rfl) (by kernel_rfl) (by kernel_rfl) (fun _ _ _ h => h) (Or.inl ⟨by rfl, ?_⟩) (by assumption) ?_
        rotate_left; focus (intro w hSw; (try dsimp only at hSw); go_simp; first | done | with_reducible rfl)
        try simp only [Act.put, List.setIfInBounds_toArray, List.set_cons_zero, List.set_cons_succ]
        refine wpAnyH_take (i := 44) (oi := { dst := some 122, op := Op.pick (Operand.tmp 117) (Operand.tmp 121) (Operand.const (Value.bool false)), type := 4, pos := "outright.go:144", after := #[{ on := 39, ground := Ground.data }, { on := 43, ground := Ground.data }, { on := 30, ground := Ground.guard }], guard := some (30, false) }) (v := ?_) rfl (by kernel_rfl) (by kernel_rfl) (by kernel_rfl) (fun _ _ _ h => h) (Or.inl ⟨by rfl, ?_⟩) (by assumption) ?_
        rotate_left; focus (intro w hSw; (try dsimp only at hSw); go_simp; first | done | with_reducible rfl)
        try simp only [Act.put, List.setIfInBounds_toArray, List.set_cons_zero, List.set_cons_succ]
        refine wpAnyH_take (i := 45) (oi := { dst := some 123, op := Op.pick (Operand.tmp 108) (Operand.const (Value.bool true)) (Operand.tmp 122), type := 4, pos := "outright.go:144", after := #[{ on := 30, ground := Ground.data }, { on := 44, ground := Ground.data }], guard := none }) (v := ?_) rfl (by kernel_rfl) (by kernel_rfl) (by kernel_rfl) (fun _ _ _ h => h) (Or.inl ⟨by rfl, ?_⟩) (by assumption) ?_
        rotate_left; focus (intro w hSw; (try dsimp only at hSw); go_simp; first | done | with_reducible rfl)
        try simp only [Act.put, List.setIfInBounds_toArray, List.set_cons_zero, List.set_cons_succ]
        refine wpAnyH_done (by kernel_rfl) ?_ _
        refine NoPanic.normal ?_
        go_wp2_with fail
        go_meet
        exact ⟨rfl, M.out⟩
    case rest =>
      obtain ⟨w7, rfl⟩ : ∃ x : World, x = wc := ⟨_, rfl⟩
      obtain ⟨rfl, hM⟩ := hcut
      clear M
      have M := Lib.hid hM
      have c0 := (hM.nth 0 rfl).2.1
      have c4 := (hM.nth 4 rfl).2.1
      clear hM
      go_wp2_with fail
      refine (cWa.out _).mono ?_
      rintro r w8 ⟨rfl, hb⟩
      replace M : Hid (Mem w _ w8) := Lib.hid (Mem.below M.out hb)
      clear hb c0 c4
      have c0 := (M.out.nth 0 rfl).2.1
      have c4 := (M.out.nth 4 rfl).2.1
      go_wp2_with fail
      refine (cWh.out _).mono ?_
      rintro r w10 ⟨rfl, hb⟩
      replace M : Hid (Mem w _ w10) := Lib.hid (Mem.below M.out hb)
      clear hb c0 c4
      have c0 := (M.out.nth 0 rfl).2.1
      by_cases he : eh = 0
      · have hea : ea = 0 := by rcases HW.out with h | h
                                · exact absurd he h
                                · exact h.1
        have o3 : ((FloatKind.f64.format.order wa wh == some Ordering.lt) || (FloatKind.f64.format.order wa wh == some Ordering.eq)) = true := by
          rcases HW.out with h | h
          · exact absurd he h
          · exact h.2
        have o4 : ((FloatKind.f64.format.order wa 0 == some Ordering.eq) == (FloatKind.f64.format.order al ah == some Ordering.eq)) = true := by
          rcases HV.out with h | h
          · exact absurd hea h
          · rw [h]; simp
        have h1 : (eh != 0) = false := by simpa using he
        have h2 : (ea == 0) = true := by simpa using hea
        have h3 : (ea != 0) = false := by simpa using hea
        clear he hea
        go_wp2_with fail
        refine (awake2_any _).mono ?_
        rintro r w11 ⟨rfl, hb⟩
        replace M : Hid (Mem w _ w11) := Lib.hid (Mem.below M.out hb)
        clear hb c0
        go_wp2
        go_ret
        exact ⟨rfl, M.out.base⟩
      · have h1 : (eh != 0) = true := by simpa using he
        by_cases hea : ea = 0
        · have o4 : ((FloatKind.f64.format.order wa 0 == some Ordering.eq) == (FloatKind.f64.format.order al ah == some Ordering.eq)) = true := by
            rcases HV.out with h | h
            · exact absurd hea h
            · rw [h]; simp
          have h3 : (ea != 0) = false := by simpa using hea
          clear he hea
          go_wp2_with fail
          refine (awake2_any _).mono ?_
          rintro r w11 ⟨rfl, hb⟩
          replace M : Hid (Mem w _ w11) := Lib.hid (Mem.below M.out hb)
          clear hb c0
          go_wp2
          go_ret
          exact ⟨rfl, M.out.base⟩
        · have h3 : (ea != 0) = true := by simpa using hea
          clear he hea
          go_wp2_with fail
          refine (awake2_any _).mono ?_
          rintro r w11 ⟨rfl, hb⟩
          replace M : Hid (Mem w _ w11) := Lib.hid (Mem.below M.out hb)
          clear hb c0
          go_wp2
          go_ret
          exact ⟨rfl, M.out.base⟩

end Go.Proofs.Ytecgialgahcabaa
