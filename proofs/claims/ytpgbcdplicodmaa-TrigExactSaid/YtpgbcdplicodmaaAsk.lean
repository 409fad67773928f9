
/- Law file 2: what an op, asked of a calculator, answers: Op.Asked. -/
import Derived.Test.YtpgbcdplicodmaaAwkB
namespace Go.Proofs.Ytpgbcdplicodmaa
open Go.RowKit
attribute [local go_sem] run_store_float

/-- What the op number j answers, and what must be right for it. -/
def askI (al ah bl bh : Nat) : Nat → Res
  | 0 => addI al ah bl bh | 1 => subI al ah bl bh | 2 => mulI al ah bl bh | 3 => divI al ah bl bh | 4 => minI al ah bl bh | 5 => maxI al ah bl bh
  | 6 => sqrI al ah | 7 => sqrtI al ah | 8 => negI al ah | 9 => absI al ah | _ => ofI al
def askB (al ah bl bh : Nat) : Nat → Bool
  | 0 => ivR al ah && ivR bl bh | 1 => ivR al ah && ivR bl bh | 2 => ivR al ah && ivR bl bh | 3 => ivR al ah && ivR bl bh | 4 => ivR al ah && ivR bl bh | 5 => ivR al ah && ivR bl bh
  | 6 => ivR al ah | 7 => ivR al ah | 8 => ivR al ah | 9 => ivR al ah | _ => true
def askR (e : Int) (al ah bl bh j : Nat) : Res := stepI e (askB al ah bl bh j) (askI al ah bl bh j)

set_option maxRecDepth 100000 in
set_option maxHeartbeats 1000000 in
theorem asked_0 (e : Int) (n : Nat) (al ah bl bh pb po : Nat) (w : World) (h0 : n < 256) (la : al < 18446744073709551616) (ha : ah < 18446744073709551616) (lb : bl < 18446744073709551616) (hb : bh < 18446744073709551616) (hc : w.cell? ⟨pb, po, none⟩ = some (.int .i64 e)) (hf : w.frozen? ⟨pb, po, none⟩ = false) (hn : (n : Int) % 11 = 0) :
    Calls Try.prog 36 #[.agg #[.int .u8 n, .float .f64 al, .float .f64 ah, .float .f64 bl, .float .f64 bh], .pointer (some ⟨pb, po, none⟩)] w (Told (askR e al ah bl bh 0) pb po w) := by
  have M := Lib.hid (Mem.two w #[.int .u8 n, .float .f64 al, .float .f64 ah, .float .f64 bl, .float .f64 bh] #[.float .f64 0, .float .f64 0] 41 39)
  obtain ⟨R, hR⟩ : ∃ R, R = askR e al ah bl bh 0 := ⟨_, rfl⟩
  have cC : Hid (∀ w, w.cell? ⟨pb, po, none⟩ = some (.int .i64 e) → w.frozen? ⟨pb, po, none⟩ = false → Calls Try.prog 44 #[.pointer (some ⟨pb, po, none⟩), .agg #[.float .f64 al, .float .f64 ah], .agg #[.float .f64 bl, .float .f64 bh]] w (Told R pb po w)) := fun w hc hf => by rw [hR]; exact cAdd_any e al ah bl bh pb po w la ha lb hb hc hf
  rw [← hR]
  have hz : pb < w.heap.size := cell_lt hc
  have HC := Lib.hid ((M.out.base.cell hz).trans hc)
  have HF := Lib.hid ((M.out.base.frozen hz).trans hf)
  clear hR hc hf
  have t0 : ((n : Int) % 11 == 0) = true := by rw [hn]; rfl
  have g0 : (0 : Int) ≤ n := by omega
  have g1 : (n : Int) ≤ 255 := by omega
  clear h0 hn la ha lb hb
  go_enter Try.func36, Try.ntmps36
  go_wp2_with fail
  refine (cC.out _ HC.out HF.out).mono ?_
  rintro r w1 ⟨rfl, hp⟩
  have HP := Lib.hid (Put.after M.out.base hp)
  have h2 := (M.out.nth 1 rfl).put (by show pb ≠ w.heap.size + 1; omega) hp
  have c2 := h2.2.1
  have f2 := h2.2.2
  clear hp h2 M
  go_wp2
  exact bodyPost_ret (v := .agg #[.float .f64 R.lo, .float .f64 R.hi]) (by simp [results, Try.results36, go_sem, c2]) rfl ⟨rfl, (Below.setCell HP.out (by show _ ≤ w.heap.size + 1; omega) _).setCell (by show _ ≤ w.heap.size + 1; omega) _⟩

set_option maxRecDepth 100000 in
set_option maxHeartbeats 1000000 in
theorem asked_nil0 (n : Nat) (al ah bl bh : Nat) (w : World) (h0 : n < 256) (hn : (n : Int) % 11 = 0) :
    Calls Try.prog 36 #[.agg #[.int .u8 n, .float .f64 al, .float .f64 ah, .float .f64 bl, .float .f64 bh], .pointer none] w fun r w' => r = .returned (.agg #[.float .f64 0, .float .f64 0]) ∧ Below w.heap.size w w' := by
  have M := Lib.hid (Mem.two w #[.int .u8 n, .float .f64 al, .float .f64 ah, .float .f64 bl, .float .f64 bh] #[.float .f64 0, .float .f64 0] 41 39)
  have cC := Lib.hid (fun w => cAdd_nil al ah bl bh w)
  have t0 : ((n : Int) % 11 == 0) = true := by rw [hn]; rfl
  have g0 : (0 : Int) ≤ n := by omega
  have g1 : (n : Int) ≤ 255 := by omega
  clear h0 hn
  go_enter Try.func36, Try.ntmps36
  go_wp2_with fail
  refine (cC.out _).mono ?_
  rintro r w1 ⟨rfl, hb⟩
  replace M := Lib.hid (M.out.below hb)
  clear hb
  have c2 := (M.out.nth 1 rfl).2.1
  have f2 := (M.out.nth 1 rfl).2.2
  go_wp2
  exact bodyPost_ret (v := .agg #[.float .f64 0, .float .f64 0]) (by simp [results, Try.results36, go_sem, c2]) rfl ⟨rfl, (Below.setCell M.out.base (by show _ ≤ w.heap.size + 1; omega) _).setCell (by show _ ≤ w.heap.size + 1; omega) _⟩

set_option maxRecDepth 100000 in
set_option maxHeartbeats 1000000 in
theorem asked_1 (e : Int) (n : Nat) (al ah bl bh pb po : Nat) (w : World) (h0 : n < 256) (la : al < 18446744073709551616) (ha : ah < 18446744073709551616) (lb : bl < 18446744073709551616) (hb : bh < 18446744073709551616) (hc : w.cell? ⟨pb, po, none⟩ = some (.int .i64 e)) (hf : w.frozen? ⟨pb, po, none⟩ = false) (hn : (n : Int) % 11 = 1) :
    Calls Try.prog 36 #[.agg #[.int .u8 n, .float .f64 al, .float .f64 ah, .float .f64 bl, .float .f64 bh], .pointer (some ⟨pb, po, none⟩)] w (Told (askR e al ah bl bh 1) pb po w) := by
  have M := Lib.hid (Mem.two w #[.int .u8 n, .float .f64 al, .float .f64 ah, .float .f64 bl, .float .f64 bh] #[.float .f64 0, .float .f64 0] 41 39)
  obtain ⟨R, hR⟩ : ∃ R, R = askR e al ah bl bh 1 := ⟨_, rfl⟩
  have cC : Hid (∀ w, w.cell? ⟨pb, po, none⟩ = some (.int .i64 e) → w.frozen? ⟨pb, po, none⟩ = false → Calls Try.prog 54 #[.pointer (some ⟨pb, po, none⟩), .agg #[.float .f64 al, .float .f64 ah], .agg #[.float .f64 bl, .float .f64 bh]] w (Told R pb po w)) := fun w hc hf => by rw [hR]; exact cSub_any e al ah bl bh pb po w la ha lb hb hc hf
  rw [← hR]
  have hz : pb < w.heap.size := cell_lt hc
  have HC := Lib.hid ((M.out.base.cell hz).trans hc)
  have HF := Lib.hid ((M.out.base.frozen hz).trans hf)
  clear hR hc hf
  have t0 : ((n : Int) % 11 == 0) = false := by rw [hn]; rfl
  have t1 : ((n : Int) % 11 == 1) = true := by rw [hn]; rfl
  have g0 : (0 : Int) ≤ n := by omega
  have g1 : (n : Int) ≤ 255 := by omega
  clear h0 hn la ha lb hb
  go_enter Try.func36, Try.ntmps36
  go_wp2_with fail
  refine (cC.out _ HC.out HF.out).mono ?_
  rintro r w1 ⟨rfl, hp⟩
  have HP := Lib.hid (Put.after M.out.base hp)
  have h2 := (M.out.nth 1 rfl).put (by show pb ≠ w.heap.size + 1; omega) hp
  have c2 := h2.2.1
  have f2 := h2.2.2
  clear hp h2 M
  go_wp2
  exact bodyPost_ret (v := .agg #[.float .f64 R.lo, .float .f64 R.hi]) (by simp [results, Try.results36, go_sem, c2]) rfl ⟨rfl, (Below.setCell HP.out (by show _ ≤ w.heap.size + 1; omega) _).setCell (by show _ ≤ w.heap.size + 1; omega) _⟩

set_option maxRecDepth 100000 in
set_option maxHeartbeats 1000000 in
theorem asked_nil1 (n : Nat) (al ah bl bh : Nat) (w : World) (h0 : n < 256) (hn : (n : Int) % 11 = 1) :
    Calls Try.prog 36 #[.agg #[.int .u8 n, .float .f64 al, .float .f64 ah, .float .f64 bl, .float .f64 bh], .pointer none] w fun r w' => r = .returned (.agg #[.float .f64 0, .float .f64 0]) ∧ Below w.heap.size w w' := by
  have M := Lib.hid (Mem.two w #[.int .u8 n, .float .f64 al, .float .f64 ah, .float .f64 bl, .float .f64 bh] #[.float .f64 0, .float .f64 0] 41 39)
  have cC := Lib.hid (fun w => cSub_nil al ah bl bh w)
  have t0 : ((n : Int) % 11 == 0) = false := by rw [hn]; rfl
  have t1 : ((n : Int) % 11 == 1) = true := by rw [hn]; rfl
  have g0 : (0 : Int) ≤ n := by omega
  have g1 : (n : Int) ≤ 255 := by omega
  clear h0 hn
  go_enter Try.func36, Try.ntmps36
  go_wp2_with fail
  refine (cC.out _).mono ?_
  rintro r w1 ⟨rfl, hb⟩
  replace M := Lib.hid (M.out.below hb)
  clear hb
  have c2 := (M.out.nth 1 rfl).2.1
  have f2 := (M.out.nth 1 rfl).2.2
  go_wp2
  exact bodyPost_ret (v := .agg #[.float .f64 0, .float .f64 0]) (by simp [results, Try.results36, go_sem, c2]) rfl ⟨rfl, (Below.setCell M.out.base (by show _ ≤ w.heap.size + 1; omega) _).setCell (by show _ ≤ w.heap.size + 1; omega) _⟩

set_option maxRecDepth 100000 in
set_option maxHeartbeats 1000000 in
theorem asked_2 (e : Int) (n : Nat) (al ah bl bh pb po : Nat) (w : World) (h0 : n < 256) (la : al < 18446744073709551616) (ha : ah < 18446744073709551616) (lb : bl < 18446744073709551616) (hb : bh < 18446744073709551616) (hc : w.cell? ⟨pb, po, none⟩ = some (.int .i64 e)) (hf : w.frozen? ⟨pb, po, none⟩ = false) (hn : (n : Int) % 11 = 2) :
    Calls Try.prog 36 #[.agg #[.int .u8 n, .float .f64 al, .float .f64 ah, .float .f64 bl, .float .f64 bh], .pointer (some ⟨pb, po, none⟩)] w (Told (askR e al ah bl bh 2) pb po w) := by
  have M := Lib.hid (Mem.two w #[.int .u8 n, .float .f64 al, .float .f64 ah, .float .f64 bl, .float .f64 bh] #[.float .f64 0, .float .f64 0] 41 39)
  obtain ⟨R, hR⟩ : ∃ R, R = askR e al ah bl bh 2 := ⟨_, rfl⟩
  have cC : Hid (∀ w, w.cell? ⟨pb, po, none⟩ = some (.int .i64 e) → w.frozen? ⟨pb, po, none⟩ = false → Calls Try.prog 53 #[.pointer (some ⟨pb, po, none⟩), .agg #[.float .f64 al, .float .f64 ah], .agg #[.float .f64 bl, .float .f64 bh]] w (Told R pb po w)) := fun w hc hf => by rw [hR]; exact cMul_any e al ah bl bh pb po w la ha lb hb hc hf
  rw [← hR]
  have hz : pb < w.heap.size := cell_lt hc
  have HC := Lib.hid ((M.out.base.cell hz).trans hc)
  have HF := Lib.hid ((M.out.base.frozen hz).trans hf)
  clear hR hc hf
  have t0 : ((n : Int) % 11 == 0) = false := by rw [hn]; rfl
  have t1 : ((n : Int) % 11 == 1) = false := by rw [hn]; rfl
  have t2 : ((n : Int) % 11 == 2) = true := by rw [hn]; rfl
  have g0 : (0 : Int) ≤ n := by omega
  have g1 : (n : Int) ≤ 255 := by omega
  clear h0 hn la ha lb hb
  go_enter Try.func36, Try.ntmps36
  go_wp2_with fail
  refine (cC.out _ HC.out HF.out).mono ?_
  rintro r w1 ⟨rfl, hp⟩
  have HP := Lib.hid (Put.after M.out.base hp)
  have h2 := (M.out.nth 1 rfl).put (by show pb ≠ w.heap.size + 1; omega) hp
  have c2 := h2.2.1
  have f2 := h2.2.2
  clear hp h2 M
  go_wp2
  exact bodyPost_ret (v := .agg #[.float .f64 R.lo, .float .f64 R.hi]) (by simp [results, Try.results36, go_sem, c2]) rfl ⟨rfl, (Below.setCell HP.out (by show _ ≤ w.heap.size + 1; omega) _).setCell (by show _ ≤ w.heap.size + 1; omega) _⟩

set_option maxRecDepth 100000 in
set_option maxHeartbeats 1000000 in
theorem asked_nil2 (n : Nat) (al ah bl bh : Nat) (w : World) (h0 : n < 256) (hn : (n : Int) % 11 = 2) :
    Calls Try.prog 36 #[.agg #[.int .u8 n, .float .f64 al, .float .f64 ah, .float .f64 bl, .float .f64 bh], .pointer none] w fun r w' => r = .returned (.agg #[.float .f64 0, .float .f64 0]) ∧ Below w.heap.size w w' := by
  have M := Lib.hid (Mem.two w #[.int .u8 n, .float .f64 al, .float .f64 ah, .float .f64 bl, .float .f64 bh] #[.float .f64 0, .float .f64 0] 41 39)
  have cC := Lib.hid (fun w => cMul_nil al ah bl bh w)
  have t0 : ((n : Int) % 11 == 0) = false := by rw [hn]; rfl
  have t1 : ((n : Int) % 11 == 1) = false := by rw [hn]; rfl
  have t2 : ((n : Int) % 11 == 2) = true := by rw [hn]; rfl
  have g0 : (0 : Int) ≤ n := by omega
  have g1 : (n : Int) ≤ 255 := by omega
  clear h0 hn
  go_enter Try.func36, Try.ntmps36
  go_wp2_with fail
  refine (cC.out _).mono ?_
  rintro r w1 ⟨rfl, hb⟩
  replace M := Lib.hid (M.out.below hb)
  clear hb
  have c2 := (M.out.nth 1 rfl).2.1
  have f2 := (M.out.nth 1 rfl).2.2
  go_wp2
  exact bodyPost_ret (v := .agg #[.float .f64 0, .float .f64 0]) (by simp [results, Try.results36, go_sem, c2]) rfl ⟨rfl, (Below.setCell M.out.base (by show _ ≤ w.heap.size + 1; omega) _).setCell (by show _ ≤ w.heap.size + 1; omega) _⟩

set_option maxRecDepth 100000 in
set_option maxHeartbeats 1000000 in
theorem asked_3 (e : Int) (n : Nat) (al ah bl bh pb po : Nat) (w : World) (h0 : n < 256) (la : al < 18446744073709551616) (ha : ah < 18446744073709551616) (lb : bl < 18446744073709551616) (hb : bh < 18446744073709551616) (hc : w.cell? ⟨pb, po, none⟩ = some (.int .i64 e)) (hf : w.frozen? ⟨pb, po, none⟩ = false) (hn : (n : Int) % 11 = 3) :
    Calls Try.prog 36 #[.agg #[.int .u8 n, .float .f64 al, .float .f64 ah, .float .f64 bl, .float .f64 bh], .pointer (some ⟨pb, po, none⟩)] w (Told (askR e al ah bl bh 3) pb po w) := by
  have M := Lib.hid (Mem.two w #[.int .u8 n, .float .f64 al, .float .f64 ah, .float .f64 bl, .float .f64 bh] #[.float .f64 0, .float .f64 0] 41 39)
  obtain ⟨R, hR⟩ : ∃ R, R = askR e al ah bl bh 3 := ⟨_, rfl⟩
  have cC : Hid (∀ w, w.cell? ⟨pb, po, none⟩ = some (.int .i64 e) → w.frozen? ⟨pb, po, none⟩ = false → Calls Try.prog 56 #[.pointer (some ⟨pb, po, none⟩), .agg #[.float .f64 al, .float .f64 ah], .agg #[.float .f64 bl, .float .f64 bh]] w (Told R pb po w)) := fun w hc hf => by rw [hR]; exact cDiv_any e al ah bl bh pb po w la ha lb hb hc hf
  rw [← hR]
  have hz : pb < w.heap.size := cell_lt hc
  have HC := Lib.hid ((M.out.base.cell hz).trans hc)
  have HF := Lib.hid ((M.out.base.frozen hz).trans hf)
  clear hR hc hf
  have t0 : ((n : Int) % 11 == 0) = false := by rw [hn]; rfl
  have t1 : ((n : Int) % 11 == 1) = false := by rw [hn]; rfl
  have t2 : ((n : Int) % 11 == 2) = false := by rw [hn]; rfl
  have t3 : ((n : Int) % 11 == 3) = true := by rw [hn]; rfl
  have g0 : (0 : Int) ≤ n := by omega
  have g1 : (n : Int) ≤ 255 := by omega
  clear h0 hn la ha lb hb
  go_enter Try.func36, Try.ntmps36
  go_wp2_with fail
  refine (cC.out _ HC.out HF.out).mono ?_
  rintro r w1 ⟨rfl, hp⟩
  have HP := Lib.hid (Put.after M.out.base hp)
  have h2 := (M.out.nth 1 rfl).put (by show pb ≠ w.heap.size + 1; omega) hp
  have c2 := h2.2.1
  have f2 := h2.2.2
  clear hp h2 M
  go_wp2
  exact bodyPost_ret (v := .agg #[.float .f64 R.lo, .float .f64 R.hi]) (by simp [results, Try.results36, go_sem, c2]) rfl ⟨rfl, (Below.setCell HP.out (by show _ ≤ w.heap.size + 1; omega) _).setCell (by show _ ≤ w.heap.size + 1; omega) _⟩

set_option maxRecDepth 100000 in
set_option maxHeartbeats 1000000 in
theorem asked_nil3 (n : Nat) (al ah bl bh : Nat) (w : World) (h0 : n < 256) (hn : (n : Int) % 11 = 3) :
    Calls Try.prog 36 #[.agg #[.int .u8 n, .float .f64 al, .float .f64 ah, .float .f64 bl, .float .f64 bh], .pointer none] w fun r w' => r = .returned (.agg #[.float .f64 0, .float .f64 0]) ∧ Below w.heap.size w w' := by
  have M := Lib.hid (Mem.two w #[.int .u8 n, .float .f64 al, .float .f64 ah, .float .f64 bl, .float .f64 bh] #[.float .f64 0, .float .f64 0] 41 39)
  have cC := Lib.hid (fun w => cDiv_nil al ah bl bh w)
  have t0 : ((n : Int) % 11 == 0) = false := by rw [hn]; rfl
  have t1 : ((n : Int) % 11 == 1) = false := by rw [hn]; rfl
  have t2 : ((n : Int) % 11 == 2) = false := by rw [hn]; rfl
  have t3 : ((n : Int) % 11 == 3) = true := by rw [hn]; rfl
  have g0 : (0 : Int) ≤ n := by omega
  have g1 : (n : Int) ≤ 255 := by omega
  clear h0 hn
  go_enter Try.func36, Try.ntmps36
  go_wp2_with fail
  refine (cC.out _).mono ?_
  rintro r w1 ⟨rfl, hb⟩
  replace M := Lib.hid (M.out.below hb)
  clear hb
  have c2 := (M.out.nth 1 rfl).2.1
  have f2 := (M.out.nth 1 rfl).2.2
  go_wp2
  exact bodyPost_ret (v := .agg #[.float .f64 0, .float .f64 0]) (by simp [results, Try.results36, go_sem, c2]) rfl ⟨rfl, (Below.setCell M.out.base (by show _ ≤ w.heap.size + 1; omega) _).setCell (by show _ ≤ w.heap.size + 1; omega) _⟩

set_option maxRecDepth 100000 in
set_option maxHeartbeats 1000000 in
theorem asked_4 (e : Int) (n : Nat) (al ah bl bh pb po : Nat) (w : World) (h0 : n < 256) (la : al < 18446744073709551616) (ha : ah < 18446744073709551616) (lb : bl < 18446744073709551616) (hb : bh < 18446744073709551616) (hc : w.cell? ⟨pb, po, none⟩ = some (.int .i64 e)) (hf : w.frozen? ⟨pb, po, none⟩ = false) (hn : (n : Int) % 11 = 4) :
    Calls Try.prog 36 #[.agg #[.int .u8 n, .float .f64 al, .float .f64 ah, .float .f64 bl, .float .f64 bh], .pointer (some ⟨pb, po, none⟩)] w (Told (askR e al ah bl bh 4) pb po w) := by
  have M := Lib.hid (Mem.two w #[.int .u8 n, .float .f64 al, .float .f64 ah, .float .f64 bl, .float .f64 bh] #[.float .f64 0, .float .f64 0] 41 39)
  obtain ⟨R, hR⟩ : ∃ R, R = askR e al ah bl bh 4 := ⟨_, rfl⟩
  have cC : Hid (∀ w, w.cell? ⟨pb, po, none⟩ = some (.int .i64 e) → w.frozen? ⟨pb, po, none⟩ = false → Calls Try.prog 91 #[.pointer (some ⟨pb, po, none⟩), .agg #[.float .f64 al, .float .f64 ah], .agg #[.float .f64 bl, .float .f64 bh]] w (Told R pb po w)) := fun w hc hf => by rw [hR]; exact cMin_any e al ah bl bh pb po w la ha lb hb hc hf
  rw [← hR]
  have hz : pb < w.heap.size := cell_lt hc
  have HC := Lib.hid ((M.out.base.cell hz).trans hc)
  have HF := Lib.hid ((M.out.base.frozen hz).trans hf)
  clear hR hc hf
  have t0 : ((n : Int) % 11 == 0) = false := by rw [hn]; rfl
  have t1 : ((n : Int) % 11 == 1) = false := by rw [hn]; rfl
  have t2 : ((n : Int) % 11 == 2) = false := by rw [hn]; rfl
  have t3 : ((n : Int) % 11 == 3) = false := by rw [hn]; rfl
  have t4 : ((n : Int) % 11 == 4) = true := by rw [hn]; rfl
  have g0 : (0 : Int) ≤ n := by omega
  have g1 : (n : Int) ≤ 255 := by omega
  clear h0 hn la ha lb hb
  go_enter Try.func36, Try.ntmps36
  go_wp2_with fail
  refine (cC.out _ HC.out HF.out).mono ?_
  rintro r w1 ⟨rfl, hp⟩
  have HP := Lib.hid (Put.after M.out.base hp)
  have h2 := (M.out.nth 1 rfl).put (by show pb ≠ w.heap.size + 1; omega) hp
  have c2 := h2.2.1
  have f2 := h2.2.2
  clear hp h2 M
  go_wp2
  exact bodyPost_ret (v := .agg #[.float .f64 R.lo, .float .f64 R.hi]) (by simp [results, Try.results36, go_sem, c2]) rfl ⟨rfl, (Below.setCell HP.out (by show _ ≤ w.heap.size + 1; omega) _).setCell (by show _ ≤ w.heap.size + 1; omega) _⟩

set_option maxRecDepth 100000 in
set_option maxHeartbeats 1000000 in
theorem asked_nil4 (n : Nat) (al ah bl bh : Nat) (w : World) (h0 : n < 256) (hn : (n : Int) % 11 = 4) :
    Calls Try.prog 36 #[.agg #[.int .u8 n, .float .f64 al, .float .f64 ah, .float .f64 bl, .float .f64 bh], .pointer none] w fun r w' => r = .returned (.agg #[.float .f64 0, .float .f64 0]) ∧ Below w.heap.size w w' := by
  have M := Lib.hid (Mem.two w #[.int .u8 n, .float .f64 al, .float .f64 ah, .float .f64 bl, .float .f64 bh] #[.float .f64 0, .float .f64 0] 41 39)
  have cC := Lib.hid (fun w => cMin_nil al ah bl bh w)
  have t0 : ((n : Int) % 11 == 0) = false := by rw [hn]; rfl
  have t1 : ((n : Int) % 11 == 1) = false := by rw [hn]; rfl
  have t2 : ((n : Int) % 11 == 2) = false := by rw [hn]; rfl
  have t3 : ((n : Int) % 11 == 3) = false := by rw [hn]; rfl
  have t4 : ((n : Int) % 11 == 4) = true := by rw [hn]; rfl
  have g0 : (0 : Int) ≤ n := by omega
  have g1 : (n : Int) ≤ 255 := by omega
  clear h0 hn
  go_enter Try.func36, Try.ntmps36
  go_wp2_with fail
  refine (cC.out _).mono ?_
  rintro r w1 ⟨rfl, hb⟩
  replace M := Lib.hid (M.out.below hb)
  clear hb
  have c2 := (M.out.nth 1 rfl).2.1
  have f2 := (M.out.nth 1 rfl).2.2
  go_wp2
  exact bodyPost_ret (v := .agg #[.float .f64 0, .float .f64 0]) (by simp [results, Try.results36, go_sem, c2]) rfl ⟨rfl, (Below.setCell M.out.base (by show _ ≤ w.heap.size + 1; omega) _).setCell (by show _ ≤ w.heap.size + 1; omega) _⟩

set_option maxRecDepth 100000 in
set_option maxHeartbeats 1000000 in
theorem asked_5 (e : Int) (n : Nat) (al ah bl bh pb po : Nat) (w : World) (h0 : n < 256) (la : al < 18446744073709551616) (ha : ah < 18446744073709551616) (lb : bl < 18446744073709551616) (hb : bh < 18446744073709551616) (hc : w.cell? ⟨pb, po, none⟩ = some (.int .i64 e)) (hf : w.frozen? ⟨pb, po, none⟩ = false) (hn : (n : Int) % 11 = 5) :
    Calls Try.prog 36 #[.agg #[.int .u8 n, .float .f64 al, .float .f64 ah, .float .f64 bl, .float .f64 bh], .pointer (some ⟨pb, po, none⟩)] w (Told (askR e al ah bl bh 5) pb po w) := by
  have M := Lib.hid (Mem.two w #[.int .u8 n, .float .f64 al, .float .f64 ah, .float .f64 bl, .float .f64 bh] #[.float .f64 0, .float .f64 0] 41 39)
  obtain ⟨R, hR⟩ : ∃ R, R = askR e al ah bl bh 5 := ⟨_, rfl⟩
  have cC : Hid (∀ w, w.cell? ⟨pb, po, none⟩ = some (.int .i64 e) → w.frozen? ⟨pb, po, none⟩ = false → Calls Try.prog 55 #[.pointer (some ⟨pb, po, none⟩), .agg #[.float .f64 al, .float .f64 ah], .agg #[.float .f64 bl, .float .f64 bh]] w (Told R pb po w)) := fun w hc hf => by rw [hR]; exact cMax_any e al ah bl bh pb po w la ha lb hb hc hf
  rw [← hR]
  have hz : pb < w.heap.size := cell_lt hc
  have HC := Lib.hid ((M.out.base.cell hz).trans hc)
  have HF := Lib.hid ((M.out.base.frozen hz).trans hf)
  clear hR hc hf
  have t0 : ((n : Int) % 11 == 0) = false := by rw [hn]; rfl
  have t1 : ((n : Int) % 11 == 1) = false := by rw [hn]; rfl
  have t2 : ((n : Int) % 11 == 2) = false := by rw [hn]; rfl
  have t3 : ((n : Int) % 11 == 3) = false := by rw [hn]; rfl
  have t4 : ((n : Int) % 11 == 4) = false := by rw [hn]; rfl
  have t5 : ((n : Int) % 11 == 5) = true := by rw [hn]; rfl
  have g0 : (0 : Int) ≤ n := by omega
  have g1 : (n : Int) ≤ 255 := by omega
  clear h0 hn la ha lb hb
  go_enter Try.func36, Try.ntmps36
  go_wp2_with fail
  refine (cC.out _ HC.out HF.out).mono ?_
  rintro r w1 ⟨rfl, hp⟩
  have HP := Lib.hid (Put.after M.out.base hp)
  have h2 := (M.out.nth 1 rfl).put (by show pb ≠ w.heap.size + 1; omega) hp
  have c2 := h2.2.1
  have f2 := h2.2.2
  clear hp h2 M
  go_wp2
  exact bodyPost_ret (v := .agg #[.float .f64 R.lo, .float .f64 R.hi]) (by simp [results, Try.results36, go_sem, c2]) rfl ⟨rfl, (Below.setCell HP.out (by show _ ≤ w.heap.size + 1; omega) _).setCell (by show _ ≤ w.heap.size + 1; omega) _⟩

set_option maxRecDepth 100000 in
set_option maxHeartbeats 1000000 in
theorem asked_nil5 (n : Nat) (al ah bl bh : Nat) (w : World) (h0 : n < 256) (hn : (n : Int) % 11 = 5) :
    Calls Try.prog 36 #[.agg #[.int .u8 n, .float .f64 al, .float .f64 ah, .float .f64 bl, .float .f64 bh], .pointer none] w fun r w' => r = .returned (.agg #[.float .f64 0, .float .f64 0]) ∧ Below w.heap.size w w' := by
  have M := Lib.hid (Mem.two w #[.int .u8 n, .float .f64 al, .float .f64 ah, .float .f64 bl, .float .f64 bh] #[.float .f64 0, .float .f64 0] 41 39)
  have cC := Lib.hid (fun w => cMax_nil al ah bl bh w)
  have t0 : ((n : Int) % 11 == 0) = false := by rw [hn]; rfl
  have t1 : ((n : Int) % 11 == 1) = false := by rw [hn]; rfl
  have t2 : ((n : Int) % 11 == 2) = false := by rw [hn]; rfl
  have t3 : ((n : Int) % 11 == 3) = false := by rw [hn]; rfl
  have t4 : ((n : Int) % 11 == 4) = false := by rw [hn]; rfl
  have t5 : ((n : Int) % 11 == 5) = true := by rw [hn]; rfl
  have g0 : (0 : Int) ≤ n := by omega
  have g1 : (n : Int) ≤ 255 := by omega
  clear h0 hn
  go_enter Try.func36, Try.ntmps36
  go_wp2_with fail
  refine (cC.out _).mono ?_
  rintro r w1 ⟨rfl, hb⟩
  replace M := Lib.hid (M.out.below hb)
  clear hb
  have c2 := (M.out.nth 1 rfl).2.1
  have f2 := (M.out.nth 1 rfl).2.2
  go_wp2
  exact bodyPost_ret (v := .agg #[.float .f64 0, .float .f64 0]) (by simp [results, Try.results36, go_sem, c2]) rfl ⟨rfl, (Below.setCell M.out.base (by show _ ≤ w.heap.size + 1; omega) _).setCell (by show _ ≤ w.heap.size + 1; omega) _⟩

set_option maxRecDepth 100000 in
set_option maxHeartbeats 1000000 in
theorem asked_6 (e : Int) (n : Nat) (al ah bl bh pb po : Nat) (w : World) (h0 : n < 256) (la : al < 18446744073709551616) (ha : ah < 18446744073709551616) (hc : w.cell? ⟨pb, po, none⟩ = some (.int .i64 e)) (hf : w.frozen? ⟨pb, po, none⟩ = false) (hn : (n : Int) % 11 = 6) :
    Calls Try.prog 36 #[.agg #[.int .u8 n, .float .f64 al, .float .f64 ah, .float .f64 bl, .float .f64 bh], .pointer (some ⟨pb, po, none⟩)] w (Told (askR e al ah bl bh 6) pb po w) := by
  have M := Lib.hid (Mem.two w #[.int .u8 n, .float .f64 al, .float .f64 ah, .float .f64 bl, .float .f64 bh] #[.float .f64 0, .float .f64 0] 41 39)
  obtain ⟨R, hR⟩ : ∃ R, R = askR e al ah bl bh 6 := ⟨_, rfl⟩
  have cC : Hid (∀ w, w.cell? ⟨pb, po, none⟩ = some (.int .i64 e) → w.frozen? ⟨pb, po, none⟩ = false → Calls Try.prog 45 #[.pointer (some ⟨pb, po, none⟩), .agg #[.float .f64 al, .float .f64 ah]] w (Told R pb po w)) := fun w hc hf => by rw [hR]; exact cSqr_any e al ah pb po w la ha hc hf
  rw [← hR]
  have hz : pb < w.heap.size := cell_lt hc
  have HC := Lib.hid ((M.out.base.cell hz).trans hc)
  have HF := Lib.hid ((M.out.base.frozen hz).trans hf)
  clear hR hc hf
  have t0 : ((n : Int) % 11 == 0) = false := by rw [hn]; rfl
  have t1 : ((n : Int) % 11 == 1) = false := by rw [hn]; rfl
  have t2 : ((n : Int) % 11 == 2) = false := by rw [hn]; rfl
  have t3 : ((n : Int) % 11 == 3) = false := by rw [hn]; rfl
  have t4 : ((n : Int) % 11 == 4) = false := by rw [hn]; rfl
  have t5 : ((n : Int) % 11 == 5) = false := by rw [hn]; rfl
  have t6 : ((n : Int) % 11 == 6) = true := by rw [hn]; rfl
  have g0 : (0 : Int) ≤ n := by omega
  have g1 : (n : Int) ≤ 255 := by omega
  clear h0 hn la ha
  go_enter Try.func36, Try.ntmps36
  go_wp2_with fail
  refine (cC.out _ HC.out HF.out).mono ?_
  rintro r w1 ⟨rfl, hp⟩
  have HP := Lib.hid (Put.after M.out.base hp)
  have h2 := (M.out.nth 1 rfl).put (by show pb ≠ w.heap.size + 1; omega) hp
  have c2 := h2.2.1
  have f2 := h2.2.2
  clear hp h2 M
  go_wp2
  exact bodyPost_ret (v := .agg #[.float .f64 R.lo, .float .f64 R.hi]) (by simp [results, Try.results36, go_sem, c2]) rfl ⟨rfl, (Below.setCell HP.out (by show _ ≤ w.heap.size + 1; omega) _).setCell (by show _ ≤ w.heap.size + 1; omega) _⟩

set_option maxRecDepth 100000 in
set_option maxHeartbeats 1000000 in
theorem asked_nil6 (n : Nat) (al ah bl bh : Nat) (w : World) (h0 : n < 256) (hn : (n : Int) % 11 = 6) :
    Calls Try.prog 36 #[.agg #[.int .u8 n, .float .f64 al, .float .f64 ah, .float .f64 bl, .float .f64 bh], .pointer none] w fun r w' => r = .returned (.agg #[.float .f64 0, .float .f64 0]) ∧ Below w.heap.size w w' := by
  have M := Lib.hid (Mem.two w #[.int .u8 n, .float .f64 al, .float .f64 ah, .float .f64 bl, .float .f64 bh] #[.float .f64 0, .float .f64 0] 41 39)
  have cC := Lib.hid (fun w => cSqr_nil al ah w)
  have t0 : ((n : Int) % 11 == 0) = false := by rw [hn]; rfl
  have t1 : ((n : Int) % 11 == 1) = false := by rw [hn]; rfl
  have t2 : ((n : Int) % 11 == 2) = false := by rw [hn]; rfl
  have t3 : ((n : Int) % 11 == 3) = false := by rw [hn]; rfl
  have t4 : ((n : Int) % 11 == 4) = false := by rw [hn]; rfl
  have t5 : ((n : Int) % 11 == 5) = false := by rw [hn]; rfl
  have t6 : ((n : Int) % 11 == 6) = true := by rw [hn]; rfl
  have g0 : (0 : Int) ≤ n := by omega
  have g1 : (n : Int) ≤ 255 := by omega
  clear h0 hn
  go_enter Try.func36, Try.ntmps36
  go_wp2_with fail
  refine (cC.out _).mono ?_
  rintro r w1 ⟨rfl, hb⟩
  replace M := Lib.hid (M.out.below hb)
  clear hb
  have c2 := (M.out.nth 1 rfl).2.1
  have f2 := (M.out.nth 1 rfl).2.2
  go_wp2
  exact bodyPost_ret (v := .agg #[.float .f64 0, .float .f64 0]) (by simp [results, Try.results36, go_sem, c2]) rfl ⟨rfl, (Below.setCell M.out.base (by show _ ≤ w.heap.size + 1; omega) _).setCell (by show _ ≤ w.heap.size + 1; omega) _⟩

set_option maxRecDepth 100000 in
set_option maxHeartbeats 1000000 in
theorem asked_7 (e : Int) (n : Nat) (al ah bl bh pb po : Nat) (w : World) (h0 : n < 256) (la : al < 18446744073709551616) (ha : ah < 18446744073709551616) (hc : w.cell? ⟨pb, po, none⟩ = some (.int .i64 e)) (hf : w.frozen? ⟨pb, po, none⟩ = false) (hn : (n : Int) % 11 = 7) :
    Calls Try.prog 36 #[.agg #[.int .u8 n, .float .f64 al, .float .f64 ah, .float .f64 bl, .float .f64 bh], .pointer (some ⟨pb, po, none⟩)] w (Told (askR e al ah bl bh 7) pb po w) := by
  have M := Lib.hid (Mem.two w #[.int .u8 n, .float .f64 al, .float .f64 ah, .float .f64 bl, .float .f64 bh] #[.float .f64 0, .float .f64 0] 41 39)
  obtain ⟨R, hR⟩ : ∃ R, R = askR e al ah bl bh 7 := ⟨_, rfl⟩
  have cC : Hid (∀ w, w.cell? ⟨pb, po, none⟩ = some (.int .i64 e) → w.frozen? ⟨pb, po, none⟩ = false → Calls Try.prog 57 #[.pointer (some ⟨pb, po, none⟩), .agg #[.float .f64 al, .float .f64 ah]] w (Told R pb po w)) := fun w hc hf => by rw [hR]; exact cSqrt_any e al ah pb po w la ha hc hf
  rw [← hR]
  have hz : pb < w.heap.size := cell_lt hc
  have HC := Lib.hid ((M.out.base.cell hz).trans hc)
  have HF := Lib.hid ((M.out.base.frozen hz).trans hf)
  clear hR hc hf
  have t0 : ((n : Int) % 11 == 0) = false := by rw [hn]; rfl
  have t1 : ((n : Int) % 11 == 1) = false := by rw [hn]; rfl
  have t2 : ((n : Int) % 11 == 2) = false := by rw [hn]; rfl
  have t3 : ((n : Int) % 11 == 3) = false := by rw [hn]; rfl
  have t4 : ((n : Int) % 11 == 4) = false := by rw [hn]; rfl
  have t5 : ((n : Int) % 11 == 5) = false := by rw [hn]; rfl
  have t6 : ((n : Int) % 11 == 6) = false := by rw [hn]; rfl
  have t7 : ((n : Int) % 11 == 7) = true := by rw [hn]; rfl
  have g0 : (0 : Int) ≤ n := by omega
  have g1 : (n : Int) ≤ 255 := by omega
  clear h0 hn la ha
  go_enter Try.func36, Try.ntmps36
  go_wp2_with fail
  refine (cC.out _ HC.out HF.out).mono ?_
  rintro r w1 ⟨rfl, hp⟩
  have HP := Lib.hid (Put.after M.out.base hp)
  have h2 := (M.out.nth 1 rfl).put (by show pb ≠ w.heap.size + 1; omega) hp
  have c2 := h2.2.1
  have f2 := h2.2.2
  clear hp h2 M
  go_wp2
  exact bodyPost_ret (v := .agg #[.float .f64 R.lo, .float .f64 R.hi]) (by simp [results, Try.results36, go_sem, c2]) rfl ⟨rfl, (Below.setCell HP.out (by show _ ≤ w.heap.size + 1; omega) _).setCell (by show _ ≤ w.heap.size + 1; omega) _⟩

set_option maxRecDepth 100000 in
set_option maxHeartbeats 1000000 in
theorem asked_nil7 (n : Nat) (al ah bl bh : Nat) (w : World) (h0 : n < 256) (hn : (n : Int) % 11 = 7) :
    Calls Try.prog 36 #[.agg #[.int .u8 n, .float .f64 al, .float .f64 ah, .float .f64 bl, .float .f64 bh], .pointer none] w fun r w' => r = .returned (.agg #[.float .f64 0, .float .f64 0]) ∧ Below w.heap.size w w' := by
  have M := Lib.hid (Mem.two w #[.int .u8 n, .float .f64 al, .float .f64 ah, .float .f64 bl, .float .f64 bh] #[.float .f64 0, .float .f64 0] 41 39)
  have cC := Lib.hid (fun w => cSqrt_nil al ah w)
  have t0 : ((n : Int) % 11 == 0) = false := by rw [hn]; rfl
  have t1 : ((n : Int) % 11 == 1) = false := by rw [hn]; rfl
  have t2 : ((n : Int) % 11 == 2) = false := by rw [hn]; rfl
  have t3 : ((n : Int) % 11 == 3) = false := by rw [hn]; rfl
  have t4 : ((n : Int) % 11 == 4) = false := by rw [hn]; rfl
  have t5 : ((n : Int) % 11 == 5) = false := by rw [hn]; rfl
  have t6 : ((n : Int) % 11 == 6) = false := by rw [hn]; rfl
  have t7 : ((n : Int) % 11 == 7) = true := by rw [hn]; rfl
  have g0 : (0 : Int) ≤ n := by omega
  have g1 : (n : Int) ≤ 255 := by omega
  clear h0 hn
  go_enter Try.func36, Try.ntmps36
  go_wp2_with fail
  refine (cC.out _).mono ?_
  rintro r w1 ⟨rfl, hb⟩
  replace M := Lib.hid (M.out.below hb)
  clear hb
  have c2 := (M.out.nth 1 rfl).2.1
  have f2 := (M.out.nth 1 rfl).2.2
  go_wp2
  exact bodyPost_ret (v := .agg #[.float .f64 0, .float .f64 0]) (by simp [results, Try.results36, go_sem, c2]) rfl ⟨rfl, (Below.setCell M.out.base (by show _ ≤ w.heap.size + 1; omega) _).setCell (by show _ ≤ w.heap.size + 1; omega) _⟩

set_option maxRecDepth 100000 in
set_option maxHeartbeats 1000000 in
theorem asked_8 (e : Int) (n : Nat) (al ah bl bh pb po : Nat) (w : World) (h0 : n < 256) (la : al < 18446744073709551616) (ha : ah < 18446744073709551616) (hc : w.cell? ⟨pb, po, none⟩ = some (.int .i64 e)) (hf : w.frozen? ⟨pb, po, none⟩ = false) (hn : (n : Int) % 11 = 8) :
    Calls Try.prog 36 #[.agg #[.int .u8 n, .float .f64 al, .float .f64 ah, .float .f64 bl, .float .f64 bh], .pointer (some ⟨pb, po, none⟩)] w (Told (askR e al ah bl bh 8) pb po w) := by
  have M := Lib.hid (Mem.two w #[.int .u8 n, .float .f64 al, .float .f64 ah, .float .f64 bl, .float .f64 bh] #[.float .f64 0, .float .f64 0] 41 39)
  obtain ⟨R, hR⟩ : ∃ R, R = askR e al ah bl bh 8 := ⟨_, rfl⟩
  have cC : Hid (∀ w, w.cell? ⟨pb, po, none⟩ = some (.int .i64 e) → w.frozen? ⟨pb, po, none⟩ = false → Calls Try.prog 51 #[.pointer (some ⟨pb, po, none⟩), .agg #[.float .f64 al, .float .f64 ah]] w (Told R pb po w)) := fun w hc hf => by rw [hR]; exact cNeg_any e al ah pb po w la ha hc hf
  rw [← hR]
  have hz : pb < w.heap.size := cell_lt hc
  have HC := Lib.hid ((M.out.base.cell hz).trans hc)
  have HF := Lib.hid ((M.out.base.frozen hz).trans hf)
  clear hR hc hf
  have t0 : ((n : Int) % 11 == 0) = false := by rw [hn]; rfl
  have t1 : ((n : Int) % 11 == 1) = false := by rw [hn]; rfl
  have t2 : ((n : Int) % 11 == 2) = false := by rw [hn]; rfl
  have t3 : ((n : Int) % 11 == 3) = false := by rw [hn]; rfl
  have t4 : ((n : Int) % 11 == 4) = false := by rw [hn]; rfl
  have t5 : ((n : Int) % 11 == 5) = false := by rw [hn]; rfl
  have t6 : ((n : Int) % 11 == 6) = false := by rw [hn]; rfl
  have t7 : ((n : Int) % 11 == 7) = false := by rw [hn]; rfl
  have t8 : ((n : Int) % 11 == 8) = true := by rw [hn]; rfl
  have g0 : (0 : Int) ≤ n := by omega
  have g1 : (n : Int) ≤ 255 := by omega
  clear h0 hn la ha
  go_enter Try.func36, Try.ntmps36
  go_wp2_with fail
  refine (cC.out _ HC.out HF.out).mono ?_
  rintro r w1 ⟨rfl, hp⟩
  have HP := Lib.hid (Put.after M.out.base hp)
  have h2 := (M.out.nth 1 rfl).put (by show pb ≠ w.heap.size + 1; omega) hp
  have c2 := h2.2.1
  have f2 := h2.2.2
  clear hp h2 M
  go_wp2
  exact bodyPost_ret (v := .agg #[.float .f64 R.lo, .float .f64 R.hi]) (by simp [results, Try.results36, go_sem, c2]) rfl ⟨rfl, (Below.setCell HP.out (by show _ ≤ w.heap.size + 1; omega) _).setCell (by show _ ≤ w.heap.size + 1; omega) _⟩

set_option maxRecDepth 100000 in
set_option maxHeartbeats 1000000 in
theorem asked_nil8 (n : Nat) (al ah bl bh : Nat) (w : World) (h0 : n < 256) (hn : (n : Int) % 11 = 8) :
    Calls Try.prog 36 #[.agg #[.int .u8 n, .float .f64 al, .float .f64 ah, .float .f64 bl, .float .f64 bh], .pointer none] w fun r w' => r = .returned (.agg #[.float .f64 0, .float .f64 0]) ∧ Below w.heap.size w w' := by
  have M := Lib.hid (Mem.two w #[.int .u8 n, .float .f64 al, .float .f64 ah, .float .f64 bl, .float .f64 bh] #[.float .f64 0, .float .f64 0] 41 39)
  have cC := Lib.hid (fun w => cNeg_nil al ah w)
  have t0 : ((n : Int) % 11 == 0) = false := by rw [hn]; rfl
  have t1 : ((n : Int) % 11 == 1) = false := by rw [hn]; rfl
  have t2 : ((n : Int) % 11 == 2) = false := by rw [hn]; rfl
  have t3 : ((n : Int) % 11 == 3) = false := by rw [hn]; rfl
  have t4 : ((n : Int) % 11 == 4) = false := by rw [hn]; rfl
  have t5 : ((n : Int) % 11 == 5) = false := by rw [hn]; rfl
  have t6 : ((n : Int) % 11 == 6) = false := by rw [hn]; rfl
  have t7 : ((n : Int) % 11 == 7) = false := by rw [hn]; rfl
  have t8 : ((n : Int) % 11 == 8) = true := by rw [hn]; rfl
  have g0 : (0 : Int) ≤ n := by omega
  have g1 : (n : Int) ≤ 255 := by omega
  clear h0 hn
  go_enter Try.func36, Try.ntmps36
  go_wp2_with fail
  refine (cC.out _).mono ?_
  rintro r w1 ⟨rfl, hb⟩
  replace M := Lib.hid (M.out.below hb)
  clear hb
  have c2 := (M.out.nth 1 rfl).2.1
  have f2 := (M.out.nth 1 rfl).2.2
  go_wp2
  exact bodyPost_ret (v := .agg #[.float .f64 0, .float .f64 0]) (by simp [results, Try.results36, go_sem, c2]) rfl ⟨rfl, (Below.setCell M.out.base (by show _ ≤ w.heap.size + 1; omega) _).setCell (by show _ ≤ w.heap.size + 1; omega) _⟩

set_option maxRecDepth 100000 in
set_option maxHeartbeats 1000000 in
theorem asked_9 (e : Int) (n : Nat) (al ah bl bh pb po : Nat) (w : World) (h0 : n < 256) (la : al < 18446744073709551616) (ha : ah < 18446744073709551616) (hc : w.cell? ⟨pb, po, none⟩ = some (.int .i64 e)) (hf : w.frozen? ⟨pb, po, none⟩ = false) (hn : (n : Int) % 11 = 9) :
    Calls Try.prog 36 #[.agg #[.int .u8 n, .float .f64 al, .float .f64 ah, .float .f64 bl, .float .f64 bh], .pointer (some ⟨pb, po, none⟩)] w (Told (askR e al ah bl bh 9) pb po w) := by
  have M := Lib.hid (Mem.two w #[.int .u8 n, .float .f64 al, .float .f64 ah, .float .f64 bl, .float .f64 bh] #[.float .f64 0, .float .f64 0] 41 39)
  obtain ⟨R, hR⟩ : ∃ R, R = askR e al ah bl bh 9 := ⟨_, rfl⟩
  have cC : Hid (∀ w, w.cell? ⟨pb, po, none⟩ = some (.int .i64 e) → w.frozen? ⟨pb, po, none⟩ = false → Calls Try.prog 92 #[.pointer (some ⟨pb, po, none⟩), .agg #[.float .f64 al, .float .f64 ah]] w (Told R pb po w)) := fun w hc hf => by rw [hR]; exact cAbs_any e al ah pb po w la ha hc hf
  rw [← hR]
  have hz : pb < w.heap.size := cell_lt hc
  have HC := Lib.hid ((M.out.base.cell hz).trans hc)
  have HF := Lib.hid ((M.out.base.frozen hz).trans hf)
  clear hR hc hf
  have t0 : ((n : Int) % 11 == 0) = false := by rw [hn]; rfl
  have t1 : ((n : Int) % 11 == 1) = false := by rw [hn]; rfl
  have t2 : ((n : Int) % 11 == 2) = false := by rw [hn]; rfl
  have t3 : ((n : Int) % 11 == 3) = false := by rw [hn]; rfl
  have t4 : ((n : Int) % 11 == 4) = false := by rw [hn]; rfl
  have t5 : ((n : Int) % 11 == 5) = false := by rw [hn]; rfl
  have t6 : ((n : Int) % 11 == 6) = false := by rw [hn]; rfl
  have t7 : ((n : Int) % 11 == 7) = false := by rw [hn]; rfl
  have t8 : ((n : Int) % 11 == 8) = false := by rw [hn]; rfl
  have t9 : ((n : Int) % 11 == 9) = true := by rw [hn]; rfl
  have g0 : (0 : Int) ≤ n := by omega
  have g1 : (n : Int) ≤ 255 := by omega
  clear h0 hn la ha
  go_enter Try.func36, Try.ntmps36
  go_wp2_with fail
  refine (cC.out _ HC.out HF.out).mono ?_
  rintro r w1 ⟨rfl, hp⟩
  have HP := Lib.hid (Put.after M.out.base hp)
  have h2 := (M.out.nth 1 rfl).put (by show pb ≠ w.heap.size + 1; omega) hp
  have c2 := h2.2.1
  have f2 := h2.2.2
  clear hp h2 M
  go_wp2
  exact bodyPost_ret (v := .agg #[.float .f64 R.lo, .float .f64 R.hi]) (by simp [results, Try.results36, go_sem, c2]) rfl ⟨rfl, (Below.setCell HP.out (by show _ ≤ w.heap.size + 1; omega) _).setCell (by show _ ≤ w.heap.size + 1; omega) _⟩

set_option maxRecDepth 100000 in
set_option maxHeartbeats 1000000 in
theorem asked_nil9 (n : Nat) (al ah bl bh : Nat) (w : World) (h0 : n < 256) (hn : (n : Int) % 11 = 9) :
    Calls Try.prog 36 #[.agg #[.int .u8 n, .float .f64 al, .float .f64 ah, .float .f64 bl, .float .f64 bh], .pointer none] w fun r w' => r = .returned (.agg #[.float .f64 0, .float .f64 0]) ∧ Below w.heap.size w w' := by
  have M := Lib.hid (Mem.two w #[.int .u8 n, .float .f64 al, .float .f64 ah, .float .f64 bl, .float .f64 bh] #[.float .f64 0, .float .f64 0] 41 39)
  have cC := Lib.hid (fun w => cAbs_nil al ah w)
  have t0 : ((n : Int) % 11 == 0) = false := by rw [hn]; rfl
  have t1 : ((n : Int) % 11 == 1) = false := by rw [hn]; rfl
  have t2 : ((n : Int) % 11 == 2) = false := by rw [hn]; rfl
  have t3 : ((n : Int) % 11 == 3) = false := by rw [hn]; rfl
  have t4 : ((n : Int) % 11 == 4) = false := by rw [hn]; rfl
  have t5 : ((n : Int) % 11 == 5) = false := by rw [hn]; rfl
  have t6 : ((n : Int) % 11 == 6) = false := by rw [hn]; rfl
  have t7 : ((n : Int) % 11 == 7) = false := by rw [hn]; rfl
  have t8 : ((n : Int) % 11 == 8) = false := by rw [hn]; rfl
  have t9 : ((n : Int) % 11 == 9) = true := by rw [hn]; rfl
  have g0 : (0 : Int) ≤ n := by omega
  have g1 : (n : Int) ≤ 255 := by omega
  clear h0 hn
  go_enter Try.func36, Try.ntmps36
  go_wp2_with fail
  refine (cC.out _).mono ?_
  rintro r w1 ⟨rfl, hb⟩
  replace M := Lib.hid (M.out.below hb)
  clear hb
  have c2 := (M.out.nth 1 rfl).2.1
  have f2 := (M.out.nth 1 rfl).2.2
  go_wp2
  exact bodyPost_ret (v := .agg #[.float .f64 0, .float .f64 0]) (by simp [results, Try.results36, go_sem, c2]) rfl ⟨rfl, (Below.setCell M.out.base (by show _ ≤ w.heap.size + 1; omega) _).setCell (by show _ ≤ w.heap.size + 1; omega) _⟩

set_option maxRecDepth 100000 in
set_option maxHeartbeats 1000000 in
theorem asked_10 (e : Int) (n : Nat) (al ah bl bh pb po : Nat) (w : World) (h0 : n < 256) (la : al < 18446744073709551616) (hc : w.cell? ⟨pb, po, none⟩ = some (.int .i64 e)) (hf : w.frozen? ⟨pb, po, none⟩ = false) (hn : (n : Int) % 11 = 10) :
    Calls Try.prog 36 #[.agg #[.int .u8 n, .float .f64 al, .float .f64 ah, .float .f64 bl, .float .f64 bh], .pointer (some ⟨pb, po, none⟩)] w (Told (askR e al ah bl bh 10) pb po w) := by
  have M := Lib.hid (Mem.two w #[.int .u8 n, .float .f64 al, .float .f64 ah, .float .f64 bl, .float .f64 bh] #[.float .f64 0, .float .f64 0] 41 39)
  obtain ⟨R, hR⟩ : ∃ R, R = askR e al ah bl bh 10 := ⟨_, rfl⟩
  have cC : Hid (∀ w, w.cell? ⟨pb, po, none⟩ = some (.int .i64 e) → w.frozen? ⟨pb, po, none⟩ = false → Calls Try.prog 52 #[.pointer (some ⟨pb, po, none⟩), .float .f64 al] w (Told R pb po w)) := fun w hc hf => by rw [hR]; exact cNum_any e al pb po w la hc hf
  rw [← hR]
  have hz : pb < w.heap.size := cell_lt hc
  have HC := Lib.hid ((M.out.base.cell hz).trans hc)
  have HF := Lib.hid ((M.out.base.frozen hz).trans hf)
  clear hR hc hf
  have t0 : ((n : Int) % 11 == 0) = false := by rw [hn]; rfl
  have t1 : ((n : Int) % 11 == 1) = false := by rw [hn]; rfl
  have t2 : ((n : Int) % 11 == 2) = false := by rw [hn]; rfl
  have t3 : ((n : Int) % 11 == 3) = false := by rw [hn]; rfl
  have t4 : ((n : Int) % 11 == 4) = false := by rw [hn]; rfl
  have t5 : ((n : Int) % 11 == 5) = false := by rw [hn]; rfl
  have t6 : ((n : Int) % 11 == 6) = false := by rw [hn]; rfl
  have t7 : ((n : Int) % 11 == 7) = false := by rw [hn]; rfl
  have t8 : ((n : Int) % 11 == 8) = false := by rw [hn]; rfl
  have t9 : ((n : Int) % 11 == 9) = false := by rw [hn]; rfl
  have g0 : (0 : Int) ≤ n := by omega
  have g1 : (n : Int) ≤ 255 := by omega
  clear h0 hn la
  go_enter Try.func36, Try.ntmps36
  go_wp2_with fail
  refine (cC.out _ HC.out HF.out).mono ?_
  rintro r w1 ⟨rfl, hp⟩
  have HP := Lib.hid (Put.after M.out.base hp)
  have h2 := (M.out.nth 1 rfl).put (by show pb ≠ w.heap.size + 1; omega) hp
  have c2 := h2.2.1
  have f2 := h2.2.2
  clear hp h2 M
  go_wp2
  exact bodyPost_ret (v := .agg #[.float .f64 R.lo, .float .f64 R.hi]) (by simp [results, Try.results36, go_sem, c2]) rfl ⟨rfl, (Below.setCell HP.out (by show _ ≤ w.heap.size + 1; omega) _).setCell (by show _ ≤ w.heap.size + 1; omega) _⟩

set_option maxRecDepth 100000 in
set_option maxHeartbeats 1000000 in
theorem asked_nil10 (n : Nat) (al ah bl bh : Nat) (w : World) (h0 : n < 256) (hn : (n : Int) % 11 = 10) :
    Calls Try.prog 36 #[.agg #[.int .u8 n, .float .f64 al, .float .f64 ah, .float .f64 bl, .float .f64 bh], .pointer none] w fun r w' => r = .returned (.agg #[.float .f64 0, .float .f64 0]) ∧ Below w.heap.size w w' := by
  have M := Lib.hid (Mem.two w #[.int .u8 n, .float .f64 al, .float .f64 ah, .float .f64 bl, .float .f64 bh] #[.float .f64 0, .float .f64 0] 41 39)
  have cC := Lib.hid (fun w => cNum_nil al w)
  have t0 : ((n : Int) % 11 == 0) = false := by rw [hn]; rfl
  have t1 : ((n : Int) % 11 == 1) = false := by rw [hn]; rfl
  have t2 : ((n : Int) % 11 == 2) = false := by rw [hn]; rfl
  have t3 : ((n : Int) % 11 == 3) = false := by rw [hn]; rfl
  have t4 : ((n : Int) % 11 == 4) = false := by rw [hn]; rfl
  have t5 : ((n : Int) % 11 == 5) = false := by rw [hn]; rfl
  have t6 : ((n : Int) % 11 == 6) = false := by rw [hn]; rfl
  have t7 : ((n : Int) % 11 == 7) = false := by rw [hn]; rfl
  have t8 : ((n : Int) % 11 == 8) = false := by rw [hn]; rfl
  have t9 : ((n : Int) % 11 == 9) = false := by rw [hn]; rfl
  have g0 : (0 : Int) ≤ n := by omega
  have g1 : (n : Int) ≤ 255 := by omega
  clear h0 hn
  go_enter Try.func36, Try.ntmps36
  go_wp2_with fail
  refine (cC.out _).mono ?_
  rintro r w1 ⟨rfl, hb⟩
  replace M := Lib.hid (M.out.below hb)
  clear hb
  have c2 := (M.out.nth 1 rfl).2.1
  have f2 := (M.out.nth 1 rfl).2.2
  go_wp2
  exact bodyPost_ret (v := .agg #[.float .f64 0, .float .f64 0]) (by simp [results, Try.results36, go_sem, c2]) rfl ⟨rfl, (Below.setCell M.out.base (by show _ ≤ w.heap.size + 1; omega) _).setCell (by show _ ≤ w.heap.size + 1; omega) _⟩

theorem asked_any (e : Int) (n : Nat) (al ah bl bh pb po : Nat) (w : World) (h0 : n < 256) (la : al < 18446744073709551616) (ha : ah < 18446744073709551616) (lb : bl < 18446744073709551616) (hb : bh < 18446744073709551616) (hc : w.cell? ⟨pb, po, none⟩ = some (.int .i64 e)) (hf : w.frozen? ⟨pb, po, none⟩ = false) :
    Calls Try.prog 36 #[.agg #[.int .u8 n, .float .f64 al, .float .f64 ah, .float .f64 bl, .float .f64 bh], .pointer (some ⟨pb, po, none⟩)] w (Told (askR e al ah bl bh (n % 11)) pb po w) := by
  have hj : ∃ j, j = n % 11 := ⟨_, rfl⟩
  obtain ⟨j, hj⟩ := hj
  rw [← hj]
  have hn : (n : Int) % 11 = (j : Int) := by omega
  rcases (show j = 0 ∨ j = 1 ∨ j = 2 ∨ j = 3 ∨ j = 4 ∨ j = 5 ∨ j = 6 ∨ j = 7 ∨ j = 8 ∨ j = 9 ∨ j = 10 by omega) with rfl | rfl | rfl | rfl | rfl | rfl | rfl | rfl | rfl | rfl | rfl
  · exact asked_0 e n al ah bl bh pb po w h0 la ha lb hb hc hf hn
  · exact asked_1 e n al ah bl bh pb po w h0 la ha lb hb hc hf hn
  · exact asked_2 e n al ah bl bh pb po w h0 la ha lb hb hc hf hn
  · exact asked_3 e n al ah bl bh pb po w h0 la ha lb hb hc hf hn
  · exact asked_4 e n al ah bl bh pb po w h0 la ha lb hb hc hf hn
  · exact asked_5 e n al ah bl bh pb po w h0 la ha lb hb hc hf hn
  · exact asked_6 e n al ah bl bh pb po w h0 la ha hc hf hn
  · exact asked_7 e n al ah bl bh pb po w h0 la ha hc hf hn
  · exact asked_8 e n al ah bl bh pb po w h0 la ha hc hf hn
  · exact asked_9 e n al ah bl bh pb po w h0 la ha hc hf hn
  · exact asked_10 e n al ah bl bh pb po w h0 la hc hf hn

theorem asked_nil (n : Nat) (al ah bl bh : Nat) (w : World) (h0 : n < 256) :
    Calls Try.prog 36 #[.agg #[.int .u8 n, .float .f64 al, .float .f64 ah, .float .f64 bl, .float .f64 bh], .pointer none] w fun r w' => r = .returned (.agg #[.float .f64 0, .float .f64 0]) ∧ Below w.heap.size w w' := by
  have hj : ∃ j, j = n % 11 := ⟨_, rfl⟩
  obtain ⟨j, hj⟩ := hj
  have hn : (n : Int) % 11 = (j : Int) := by omega
  rcases (show j = 0 ∨ j = 1 ∨ j = 2 ∨ j = 3 ∨ j = 4 ∨ j = 5 ∨ j = 6 ∨ j = 7 ∨ j = 8 ∨ j = 9 ∨ j = 10 by omega) with rfl | rfl | rfl | rfl | rfl | rfl | rfl | rfl | rfl | rfl | rfl
  · exact asked_nil0 n al ah bl bh w h0 hn
  · exact asked_nil1 n al ah bl bh w h0 hn
  · exact asked_nil2 n al ah bl bh w h0 hn
  · exact asked_nil3 n al ah bl bh w h0 hn
  · exact asked_nil4 n al ah bl bh w h0 hn
  · exact asked_nil5 n al ah bl bh w h0 hn
  · exact asked_nil6 n al ah bl bh w h0 hn
  · exact asked_nil7 n al ah bl bh w h0 hn
  · exact asked_nil8 n al ah bl bh w h0 hn
  · exact asked_nil9 n al ah bl bh w h0 hn
  · exact asked_nil10 n al ah bl bh w h0 hn

end Go.Proofs.Ytpgbcdplicodmaa
