
/- The walk of the law IvalStays. -/
import Derived.Test.YtddgcdpmnfdpdaaStaysM
import Derived.LoopTactic
namespace Go.Proofs.Ytddgcdpmnfdpdaa
open Go.RowKit
attribute [local go_sem] run_store_float

/-- What is known of one op, in the world at hand. -/
def OpAt (w : World) (g : Addr) (n al ah bl bh : Nat) : Prop := w.cell? g = some (.int .u8 n) ∧ w.cell? ⟨g.block, g.off + 1, none⟩ = some (.float .f64 al) ∧ w.cell? ⟨g.block, g.off + 2, none⟩ = some (.float .f64 ah) ∧ w.cell? ⟨g.block, g.off + 3, none⟩ = some (.float .f64 bl) ∧ w.cell? ⟨g.block, g.off + 4, none⟩ = some (.float .f64 bh) ∧
  n < 256 ∧ al < 18446744073709551616 ∧ ah < 18446744073709551616 ∧ bl < 18446744073709551616 ∧ bh < 18446744073709551616 ∧ g.block < w.heap.size

theorem OpAt.below {w w' : World} {g : Addr} {n al ah bl bh : Nat} (h : OpAt w g n al ah bl bh) (hb : Below w.heap.size w w') : OpAt w' g n al ah bl bh := by
  obtain ⟨h0, h1, h2, h3, h4, l0, l1, l2, l3, l4, l5⟩ := h
  exact ⟨(hb.cell (p := g) l5).trans h0, (hb.cell (p := ⟨g.block, g.off + 1, none⟩) l5).trans h1, (hb.cell (p := ⟨g.block, g.off + 2, none⟩) l5).trans h2, (hb.cell (p := ⟨g.block, g.off + 3, none⟩) l5).trans h3, (hb.cell (p := ⟨g.block, g.off + 4, none⟩) l5).trans h4, l0, l1, l2, l3, l4, Nat.lt_of_lt_of_le l5 hb.size⟩

theorem l_same0 (w : World) : Calls Try.prog 40 #[.agg #[.float .f64 0, .float .f64 0], .agg #[.float .f64 0, .float .f64 0]] w fun r w' => r = .returned (.bool true) ∧ Below w.heap.size w w' := l_same 0 0 w

set_option maxRecDepth 100000 in
set_option maxHeartbeats 16000000 in
theorem stays_walk (a : Addr) (len cap m : Nat) (w : World) (hm : m ≤ len) (hm2 : m ≤ 30) (hc : len ≤ cap)
    (hmin : ∀ ts t w, (Builtin.min_ ts t #[.int .i64 len, .int .i64 30]).run Try.prog w = .ok (.int .i64 m) w)
    (hcell : Hid (∀ i, i < len → ∃ n al ah bl bh, OpAt w (a.add (i * 5)) n al ah bl bh)) :
    Calls Try.prog 7 #[.slice (some a) len cap] w fun r w' => r = .returned (.bool true) ∧ Below w.heap.size w w' := by
  have M0 := Lib.hid ((Mem.nil w).made #[.int .i64 0] 45)
  go_enter Try.func7, Try.ntmps7
  go_wp2_with fail
  go_loopw [17] (fun i wr => StayRel w w.heap.size m i wr) (fun i _ => m - (intOf i).toNat)
  case atStart => exact ⟨0, 0, Nat.zero_le _, rfl, M0.out.base, M0.out.nth 0 rfl⟩
  case round =>
    obtain ⟨k, e, hk, rfl, hb, hc0⟩ := hrel
    have HB := Lib.hid hb
    have HC := Lib.hid hc0
    clear hb hc0 hmin M0
    by_cases hlt : k < m
    · obtain ⟨n, al, ah, bl, bh, hO⟩ := hcell.out k (by omega)
      obtain ⟨k0, k1, k2, k3, k4, l0, l1, l2, l3, l4, l5⟩ := hO.below HB.out
      have cR : Hid (∀ pb w', w'.cell? ⟨pb, 0, none⟩ = some (.int .i64 e) → w'.frozen? ⟨pb, 0, none⟩ = false → Calls Try.prog 38 #[.agg #[.int .u8 n, .float .f64 al, .float .f64 ah, .float .f64 bl, .float .f64 bh], .pointer (some ⟨pb, 0, none⟩)] w' (Told (askR e al ah bl bh (n % 11)) pb 0 w')) := Lib.hid fun pb w' h1 h2 => asked_any e n al ah bl bh pb 0 w' l0 l1 l2 l3 l4 h1 h2
      have cS : Hid (∀ pb w', w'.cell? ⟨pb, 0, none⟩ = some (.int .i64 0) → w'.frozen? ⟨pb, 0, none⟩ = false → Calls Try.prog 38 #[.agg #[.int .u8 n, .float .f64 al, .float .f64 ah, .float .f64 bl, .float .f64 bh], .pointer (some ⟨pb, 0, none⟩)] w' (Told (askR 0 al ah bl bh (n % 11)) pb 0 w')) := Lib.hid fun pb w' h1 h2 => asked_any 0 n al ah bl bh pb 0 w' l0 l1 l2 l3 l4 h1 h2
      have cN := Lib.hid fun w' => asked_nil n al ah bl bh w' l0
      have hN := Lib.hid (ask_nil e al ah bl bh (n % 11) (Nat.mod_lt _ (by decide)))
      have hE := Lib.hid (ask_err e al ah bl bh (n % 11))
      have hI : Hid (e = 0 → askR e al ah bl bh (n % 11) = askR 0 al ah bl bh (n % 11)) := Lib.hid fun h => by rw [h]
      obtain ⟨R, hR⟩ : ∃ R, R = askR e al ah bl bh (n % 11) := ⟨_, rfl⟩
      obtain ⟨S, hS⟩ : ∃ S, S = askR 0 al ah bl bh (n % 11) := ⟨_, rfl⟩
      rw [← hR] at cR hN hE hI
      rw [← hS] at cS hI
      clear hR hS hO l0 l1 l2 l3 l4 l5 hcell
      go_wp2_with fail
      refine (err_any e w.heap.size 0 _ (HC.out.below (bel1 _ _)).pc).mono ?_
      rintro rr ww ⟨rfl, rfl⟩
      clear k0 k1 k2 k3 k4
      by_cases he : e = 0
      · have hRS : R = S := hI.out he
        subst hRS
        subst he
        clear hE hI
        have M := Lib.hid (St.fresh (x := #[.int .u8 n, .float .f64 al, .float .f64 ah, .float .f64 bl, .float .f64 bh]) HB.out HC.out (Nat.le_refl _) 41 45)
        go_upto_region 8 with fail
        obtain ⟨k0, k1, k2, k3, k4⟩ := ((M.out.drew).mem.blocks (wr.heap.size, #[.int .u8 n, .float .f64 al, .float .f64 ah, .float .f64 bl, .float .f64 bh]) (by simp)).five
        have zc := ((M.out.drew).mem.nth 0 rfl).2.1
        have zf := ((M.out.drew).mem.nth 0 rfl).2.2
        have y0 := ((M.out.drew).mem.nth 0 rfl).1
        (try have zd := ((M.out.drew).mem.nth 1 rfl).2.1)
        (try have zg := ((M.out.drew).mem.nth 1 rfl).2.2)
        (try have y1 := ((M.out.drew).mem.nth 1 rfl).1)
        (try have y2 := (M.out.drew).two.1)
        (try have y3 := (M.out.drew).two.2)
        have zn := ((M.out.drew).mem.blocks (wr.heap.size, #[.int .u8 n, .float .f64 al, .float .f64 ah, .float .f64 bl, .float .f64 bh]) (by simp)).1
        go_cut [9, 10] from 18 to 64 (StayC w w.heap.size (wr.heap.size + 1) R.e R.e R.lo R.hi R.lo R.hi wr.heap.size #[.int .u8 n, .float .f64 al, .float .f64 ah, .float .f64 bl, .float .f64 bh])
        case first =>
          go_region_held3 (fun w' => w'.cell? ⟨wr.heap.size, 0, none⟩ = some (.int .u8 n) ∧ w'.cell? ⟨wr.heap.size, 1, none⟩ = some (.float .f64 al) ∧ w'.cell? ⟨wr.heap.size, 2, none⟩ = some (.float .f64 ah) ∧ w'.cell? ⟨wr.heap.size, 3, none⟩ = some (.float .f64 bl) ∧ w'.cell? ⟨wr.heap.size, 4, none⟩ = some (.float .f64 bh)) (((try dsimp only); (repeat' apply And.intro); all_goals (repeat (first | (with_reducible assumption) | ((with_reducible refine keep_undrew ?_); (with_reducible assumption)) | (with_reducible refine keep_drew ?_) | (with_reducible refine keep_alloc _ ?_) | (with_reducible refine keep_set _ (by first | (with_reducible assumption) | omega) ?_)))))
            (first
              | (go_at_call 38; (with_reducible refine (cR.out _ _ (M.out).hc.pc (M.out).hc.pf).mono ?_); rintro rr w7 hT; obtain ⟨rfl, hp⟩ := hT.open; have M' := Lib.hid ((M.out).putc hp); clear M hp hT; clear k0 k1 k2 k3 k4 zc zf y0 zn; (try clear zd zg y1 y2 y3); have M := M'; clear M'; obtain ⟨k0, k1, k2, k3, k4⟩ := ((M.out).mem.blocks (wr.heap.size, #[.int .u8 n, .float .f64 al, .float .f64 ah, .float .f64 bl, .float .f64 bh]) (by simp)).five; have zc := ((M.out).mem.nth 0 rfl).2.1; have zf := ((M.out).mem.nth 0 rfl).2.2; have y0 := ((M.out).mem.nth 0 rfl).1; (try have zd := ((M.out).mem.nth 1 rfl).2.1); (try have zg := ((M.out).mem.nth 1 rfl).2.2); (try have y1 := ((M.out).mem.nth 1 rfl).1); (try have y2 := (M.out).two.1); (try have y3 := (M.out).two.2); have zn := ((M.out).mem.blocks (wr.heap.size, #[.int .u8 n, .float .f64 al, .float .f64 ah, .float .f64 bl, .float .f64 bh]) (by simp)).1)
              | (go_at_call 38; (with_reducible refine (cR.out _ _ (M.out.drew).hc.pc (M.out.drew).hc.pf).mono ?_); rintro rr w7 hT; obtain ⟨rfl, hp⟩ := hT.open; have M' := Lib.hid ((M.out.drew).putc hp); clear M hp hT; clear k0 k1 k2 k3 k4 zc zf y0 zn; (try clear zd zg y1 y2 y3); have M := M'; clear M'; obtain ⟨k0, k1, k2, k3, k4⟩ := ((M.out).mem.blocks (wr.heap.size, #[.int .u8 n, .float .f64 al, .float .f64 ah, .float .f64 bl, .float .f64 bh]) (by simp)).five; have zc := ((M.out).mem.nth 0 rfl).2.1; have zf := ((M.out).mem.nth 0 rfl).2.2; have y0 := ((M.out).mem.nth 0 rfl).1; (try have zd := ((M.out).mem.nth 1 rfl).2.1); (try have zg := ((M.out).mem.nth 1 rfl).2.2); (try have y1 := ((M.out).mem.nth 1 rfl).1); (try have y2 := (M.out).two.1); (try have y3 := (M.out).two.2); have zn := ((M.out).mem.blocks (wr.heap.size, #[.int .u8 n, .float .f64 al, .float .f64 ah, .float .f64 bl, .float .f64 bh]) (by simp)).1)
              | (go_at_call 38; (with_reducible refine (cR.out _ _ ((M.out.made _ _)).hc.pc ((M.out.made _ _)).hc.pf).mono ?_); rintro rr w7 hT; obtain ⟨rfl, hp⟩ := hT.open; have M' := Lib.hid (((M.out.made _ _)).putc hp); have zp := zn; (try simp only [World.size_alloc] at M' zp); clear M hp hT; clear k0 k1 k2 k3 k4 zc zf y0 zn; (try clear zd zg y1 y2 y3); have M := M'; clear M'; obtain ⟨k0, k1, k2, k3, k4⟩ := ((M.out).mem.blocks (wr.heap.size, #[.int .u8 n, .float .f64 al, .float .f64 ah, .float .f64 bl, .float .f64 bh]) (by simp)).five; have zc := ((M.out).mem.nth 0 rfl).2.1; have zf := ((M.out).mem.nth 0 rfl).2.2; have y0 := ((M.out).mem.nth 0 rfl).1; (try have zd := ((M.out).mem.nth 1 rfl).2.1); (try have zg := ((M.out).mem.nth 1 rfl).2.2); (try have y1 := ((M.out).mem.nth 1 rfl).1); (try have y2 := (M.out).two.1); (try have y3 := (M.out).two.2); have zn := ((M.out).mem.blocks (wr.heap.size, #[.int .u8 n, .float .f64 al, .float .f64 ah, .float .f64 bl, .float .f64 bh]) (by simp)).1)
              | (go_at_call 38; (with_reducible refine (cR.out _ _ ((M.out.made _ _).drew).hc.pc ((M.out.made _ _).drew).hc.pf).mono ?_); rintro rr w7 hT; obtain ⟨rfl, hp⟩ := hT.open; have M' := Lib.hid (((M.out.made _ _).drew).putc hp); have zp := zn; (try simp only [World.size_alloc, World.size_drew] at M' zp); clear M hp hT; clear k0 k1 k2 k3 k4 zc zf y0 zn; (try clear zd zg y1 y2 y3); have M := M'; clear M'; obtain ⟨k0, k1, k2, k3, k4⟩ := ((M.out).mem.blocks (wr.heap.size, #[.int .u8 n, .float .f64 al, .float .f64 ah, .float .f64 bl, .float .f64 bh]) (by simp)).five; have zc := ((M.out).mem.nth 0 rfl).2.1; have zf := ((M.out).mem.nth 0 rfl).2.2; have y0 := ((M.out).mem.nth 0 rfl).1; (try have zd := ((M.out).mem.nth 1 rfl).2.1); (try have zg := ((M.out).mem.nth 1 rfl).2.2); (try have y1 := ((M.out).mem.nth 1 rfl).1); (try have y2 := (M.out).two.1); (try have y3 := (M.out).two.2); have zn := ((M.out).mem.blocks (wr.heap.size, #[.int .u8 n, .float .f64 al, .float .f64 ah, .float .f64 bl, .float .f64 bh]) (by simp)).1)
              | (go_at_call 38; (with_reducible refine (cR.out _ _ (((M.out.made _ _).made _ _)).hc.pc (((M.out.made _ _).made _ _)).hc.pf).mono ?_); rintro rr w7 hT; obtain ⟨rfl, hp⟩ := hT.open; have M' := Lib.hid ((((M.out.made _ _).made _ _)).putc hp); have zp := zn; (try simp only [World.size_alloc] at M' zp); clear M hp hT; clear k0 k1 k2 k3 k4 zc zf y0 zn; (try clear zd zg y1 y2 y3); have M := M'; clear M'; obtain ⟨k0, k1, k2, k3, k4⟩ := ((M.out).mem.blocks (wr.heap.size, #[.int .u8 n, .float .f64 al, .float .f64 ah, .float .f64 bl, .float .f64 bh]) (by simp)).five; have zc := ((M.out).mem.nth 0 rfl).2.1; have zf := ((M.out).mem.nth 0 rfl).2.2; have y0 := ((M.out).mem.nth 0 rfl).1; (try have zd := ((M.out).mem.nth 1 rfl).2.1); (try have zg := ((M.out).mem.nth 1 rfl).2.2); (try have y1 := ((M.out).mem.nth 1 rfl).1); (try have y2 := (M.out).two.1); (try have y3 := (M.out).two.2); have zn := ((M.out).mem.blocks (wr.heap.size, #[.int .u8 n, .float .f64 al, .float .f64 ah, .float .f64 bl, .float .f64 bh]) (by simp)).1)
              | (go_at_call 38; (with_reducible refine (cR.out _ _ (((M.out.made _ _).made _ _).drew).hc.pc (((M.out.made _ _).made _ _).drew).hc.pf).mono ?_); rintro rr w7 hT; obtain ⟨rfl, hp⟩ := hT.open; have M' := Lib.hid ((((M.out.made _ _).made _ _).drew).putc hp); have zp := zn; (try simp only [World.size_alloc, World.size_drew] at M' zp); clear M hp hT; clear k0 k1 k2 k3 k4 zc zf y0 zn; (try clear zd zg y1 y2 y3); have M := M'; clear M'; obtain ⟨k0, k1, k2, k3, k4⟩ := ((M.out).mem.blocks (wr.heap.size, #[.int .u8 n, .float .f64 al, .float .f64 ah, .float .f64 bl, .float .f64 bh]) (by simp)).five; have zc := ((M.out).mem.nth 0 rfl).2.1; have zf := ((M.out).mem.nth 0 rfl).2.2; have y0 := ((M.out).mem.nth 0 rfl).1; (try have zd := ((M.out).mem.nth 1 rfl).2.1); (try have zg := ((M.out).mem.nth 1 rfl).2.2); (try have y1 := ((M.out).mem.nth 1 rfl).1); (try have y2 := (M.out).two.1); (try have y3 := (M.out).two.2); have zn := ((M.out).mem.blocks (wr.heap.size, #[.int .u8 n, .float .f64 al, .float .f64 ah, .float .f64 bl, .float .f64 bh]) (by simp)).1)
              | (go_at_call 38; (with_reducible refine (cS.out _ _ (M.out).hd.pc (M.out).hd.pf).mono ?_); rintro rr w7 hT; obtain ⟨rfl, hp⟩ := hT.open; have M' := Lib.hid ((M.out).putd hp); clear M hp hT; clear k0 k1 k2 k3 k4 zc zf y0 zn; (try clear zd zg y1 y2 y3); have M := M'; clear M'; obtain ⟨k0, k1, k2, k3, k4⟩ := ((M.out).mem.blocks (wr.heap.size, #[.int .u8 n, .float .f64 al, .float .f64 ah, .float .f64 bl, .float .f64 bh]) (by simp)).five; have zc := ((M.out).mem.nth 0 rfl).2.1; have zf := ((M.out).mem.nth 0 rfl).2.2; have y0 := ((M.out).mem.nth 0 rfl).1; (try have zd := ((M.out).mem.nth 1 rfl).2.1); (try have zg := ((M.out).mem.nth 1 rfl).2.2); (try have y1 := ((M.out).mem.nth 1 rfl).1); (try have y2 := (M.out).two.1); (try have y3 := (M.out).two.2); have zn := ((M.out).mem.blocks (wr.heap.size, #[.int .u8 n, .float .f64 al, .float .f64 ah, .float .f64 bl, .float .f64 bh]) (by simp)).1)
              | (go_at_call 38; (with_reducible refine (cS.out _ _ (M.out.drew).hd.pc (M.out.drew).hd.pf).mono ?_); rintro rr w7 hT; obtain ⟨rfl, hp⟩ := hT.open; have M' := Lib.hid ((M.out.drew).putd hp); clear M hp hT; clear k0 k1 k2 k3 k4 zc zf y0 zn; (try clear zd zg y1 y2 y3); have M := M'; clear M'; obtain ⟨k0, k1, k2, k3, k4⟩ := ((M.out).mem.blocks (wr.heap.size, #[.int .u8 n, .float .f64 al, .float .f64 ah, .float .f64 bl, .float .f64 bh]) (by simp)).five; have zc := ((M.out).mem.nth 0 rfl).2.1; have zf := ((M.out).mem.nth 0 rfl).2.2; have y0 := ((M.out).mem.nth 0 rfl).1; (try have zd := ((M.out).mem.nth 1 rfl).2.1); (try have zg := ((M.out).mem.nth 1 rfl).2.2); (try have y1 := ((M.out).mem.nth 1 rfl).1); (try have y2 := (M.out).two.1); (try have y3 := (M.out).two.2); have zn := ((M.out).mem.blocks (wr.heap.size, #[.int .u8 n, .float .f64 al, .float .f64 ah, .float .f64 bl, .float .f64 bh]) (by simp)).1)
              | (go_at_call 38; (with_reducible refine (cS.out _ _ ((M.out.made _ _)).hd.pc ((M.out.made _ _)).hd.pf).mono ?_); rintro rr w7 hT; obtain ⟨rfl, hp⟩ := hT.open; have M' := Lib.hid (((M.out.made _ _)).putd hp); have zp := zn; (try simp only [World.size_alloc] at M' zp); clear M hp hT; clear k0 k1 k2 k3 k4 zc zf y0 zn; (try clear zd zg y1 y2 y3); have M := M'; clear M'; obtain ⟨k0, k1, k2, k3, k4⟩ := ((M.out).mem.blocks (wr.heap.size, #[.int .u8 n, .float .f64 al, .float .f64 ah, .float .f64 bl, .float .f64 bh]) (by simp)).five; have zc := ((M.out).mem.nth 0 rfl).2.1; have zf := ((M.out).mem.nth 0 rfl).2.2; have y0 := ((M.out).mem.nth 0 rfl).1; (try have zd := ((M.out).mem.nth 1 rfl).2.1); (try have zg := ((M.out).mem.nth 1 rfl).2.2); (try have y1 := ((M.out).mem.nth 1 rfl).1); (try have y2 := (M.out).two.1); (try have y3 := (M.out).two.2); have zn := ((M.out).mem.blocks (wr.heap.size, #[.int .u8 n, .float .f64 al, .float .f64 ah, .float .f64 bl, .float .f64 bh]) (by simp)).1)
              | (go_at_call 38; (with_reducible refine (cS.out _ _ ((M.out.made _ _).drew).hd.pc ((M.out.made _ _).drew).hd.pf).mono ?_); rintro rr w7 hT; obtain ⟨rfl, hp⟩ := hT.open; have M' := Lib.hid (((M.out.made _ _).drew).putd hp); have zp := zn; (try simp only [World.size_alloc, World.size_drew] at M' zp); clear M hp hT; clear k0 k1 k2 k3 k4 zc zf y0 zn; (try clear zd zg y1 y2 y3); have M := M'; clear M'; obtain ⟨k0, k1, k2, k3, k4⟩ := ((M.out).mem.blocks (wr.heap.size, #[.int .u8 n, .float .f64 al, .float .f64 ah, .float .f64 bl, .float .f64 bh]) (by simp)).five; have zc := ((M.out).mem.nth 0 rfl).2.1; have zf := ((M.out).mem.nth 0 rfl).2.2; have y0 := ((M.out).mem.nth 0 rfl).1; (try have zd := ((M.out).mem.nth 1 rfl).2.1); (try have zg := ((M.out).mem.nth 1 rfl).2.2); (try have y1 := ((M.out).mem.nth 1 rfl).1); (try have y2 := (M.out).two.1); (try have y3 := (M.out).two.2); have zn := ((M.out).mem.blocks (wr.heap.size, #[.int .u8 n, .float .f64 al, .float .f64 ah, .float .f64 bl, .float .f64 bh]) (by simp)).1)
              | (go_at_call 38; (with_reducible refine (cS.out _ _ (((M.out.made _ _).made _ _)).hd.pc (((M.out.made _ _).made _ _)).hd.pf).mono ?_); rintro rr w7 hT; obtain ⟨rfl, hp⟩ := hT.open; have M' := Lib.hid ((((M.out.made _ _).made _ _)).putd hp); have zp := zn; (try simp only [World.size_alloc] at M' zp); clear M hp hT; clear k0 k1 k2 k3 k4 zc zf y0 zn; (try clear zd zg y1 y2 y3); have M := M'; clear M'; obtain ⟨k0, k1, k2, k3, k4⟩ := ((M.out).mem.blocks (wr.heap.size, #[.int .u8 n, .float .f64 al, .float .f64 ah, .float .f64 bl, .float .f64 bh]) (by simp)).five; have zc := ((M.out).mem.nth 0 rfl).2.1; have zf := ((M.out).mem.nth 0 rfl).2.2; have y0 := ((M.out).mem.nth 0 rfl).1; (try have zd := ((M.out).mem.nth 1 rfl).2.1); (try have zg := ((M.out).mem.nth 1 rfl).2.2); (try have y1 := ((M.out).mem.nth 1 rfl).1); (try have y2 := (M.out).two.1); (try have y3 := (M.out).two.2); have zn := ((M.out).mem.blocks (wr.heap.size, #[.int .u8 n, .float .f64 al, .float .f64 ah, .float .f64 bl, .float .f64 bh]) (by simp)).1)
              | (go_at_call 38; (with_reducible refine (cS.out _ _ (((M.out.made _ _).made _ _).drew).hd.pc (((M.out.made _ _).made _ _).drew).hd.pf).mono ?_); rintro rr w7 hT; obtain ⟨rfl, hp⟩ := hT.open; have M' := Lib.hid ((((M.out.made _ _).made _ _).drew).putd hp); have zp := zn; (try simp only [World.size_alloc, World.size_drew] at M' zp); clear M hp hT; clear k0 k1 k2 k3 k4 zc zf y0 zn; (try clear zd zg y1 y2 y3); have M := M'; clear M'; obtain ⟨k0, k1, k2, k3, k4⟩ := ((M.out).mem.blocks (wr.heap.size, #[.int .u8 n, .float .f64 al, .float .f64 ah, .float .f64 bl, .float .f64 bh]) (by simp)).five; have zc := ((M.out).mem.nth 0 rfl).2.1; have zf := ((M.out).mem.nth 0 rfl).2.2; have y0 := ((M.out).mem.nth 0 rfl).1; (try have zd := ((M.out).mem.nth 1 rfl).2.1); (try have zg := ((M.out).mem.nth 1 rfl).2.2); (try have y1 := ((M.out).mem.nth 1 rfl).1); (try have y2 := (M.out).two.1); (try have y3 := (M.out).two.2); have zn := ((M.out).mem.blocks (wr.heap.size, #[.int .u8 n, .float .f64 al, .float .f64 ah, .float .f64 bl, .float .f64 bh]) (by simp)).1))
          all_goals (go_wp2_with fail; go_meet)
          all_goals (refine ⟨?_, ?_⟩)
          all_goals first | exact LessC.both M.out | exact LessC.both' M.out | exact LessC.one M.out | exact LessC.one' M.out | exact LessC.two M.out | exact LessC.two' M.out | exact ((M.out.mem.blocks (wr.heap.size, #[.int .u8 n, .float .f64 al, .float .f64 ah, .float .f64 bl, .float .f64 bh]) (by simp)).below (bel1 _ _)).below (bel1 _ _) | exact (Has1.two2 (M.out.mem.blocks (wr.heap.size, #[.int .u8 n, .float .f64 al, .float .f64 ah, .float .f64 bl, .float .f64 bh]) (by simp)) (by first | (with_reducible assumption) | omega) _ _).below (bel1 _ _) | exact Has1.two2 (Has1.two2 (M.out.mem.blocks (wr.heap.size, #[.int .u8 n, .float .f64 al, .float .f64 ah, .float .f64 bl, .float .f64 bh]) (by simp)) (by first | (with_reducible assumption) | omega) _ _) (by first | (with_reducible assumption) | omega) _ _
        case rest =>
          obtain ⟨w8, rfl⟩ : ∃ x : World, x = wc := ⟨_, rfl⟩
          obtain ⟨⟨i, j, rfl, rfl, hM⟩, hO⟩ := hcut
          clear M; clear k0 k1 k2 k3 k4 zc zf y0 zn; (try clear zd zg y1 y2 y3); clear cR cS
          have M := Lib.hid hM
          have H6 := Lib.hid hO
          clear hM hO
          have q1 := (M.out.nth 2 rfl).2.1
          have q2 := (M.out.nth 3 rfl).2.1
          have q3 := H6.out.2.1
          go_wp2_with fail
          refine (err_any R.e _ 0 _ (M.out.nth 0 rfl).pc).mono ?_
          rintro rr ww ⟨rfl, rfl⟩
          go_wp2_with fail
          refine (err_any R.e _ 0 _ (M.out.nth 1 rfl).pc).mono ?_
          rintro rr ww ⟨rfl, rfl⟩
          go_wp2_with fail
          refine (l_same _ _ _).mono ?_
          rintro rr w9 ⟨rfl, hb⟩
          replace M := Lib.hid (M.out.below hb)
          replace H6 := Lib.hid (H6.out.below hb)
          clear hb q1 q2 q3
          have q1 := (M.out.nth 2 rfl).2.1
          have q2 := (M.out.nth 3 rfl).2.1
          have q3 := H6.out.2.1
          go_wp2_with fail
          refine (err_any R.e _ 0 _ (M.out.nth 0 rfl).pc).mono ?_
          rintro rr ww ⟨rfl, rfl⟩
          by_cases h9 : R.e = 0
          · have g9 : (R.e != 0) = false := by rw [h9]; rfl
            clear h9 hN
            go_wp2_with fail
            refine (cN.out _).mono ?_
            rintro rr w10 ⟨rfl, hb⟩
            replace M := Lib.hid (M.out.below hb)
            clear hb H6 q1 q2 q3
            go_wp2_with fail
            refine (l_same _ _ _).mono ?_
            rintro rr w11 ⟨rfl, hb⟩
            replace M := Lib.hid (M.out.below hb)
            clear hb
            have e17 : wrap64 ((k : Int) + 1) = (k : Int) + 1 := wrap64_in _ (by omega) (by omega)
            go_wp2
            go_roundw
            case rel => exact ⟨k + 1, _, by omega, congrArg (Value.int .i64) (by omega), M.out.base, M.out.nth 0 rfl⟩
            case measure => simp [intOf]; omega
          · obtain ⟨n1, n2⟩ := hN.out h9
            have g9 : (R.e != 0) = true := by rw [bne_iff_ne]; exact h9
            have N1 := Lib.hid n1
            have N2 := Lib.hid n2
            have cZ : Hid (∀ w', Calls Try.prog 40 #[.agg #[.float .f64 R.lo, .float .f64 R.hi], .agg #[.float .f64 0, .float .f64 0]] w' fun r w'' => r = .returned (.bool true) ∧ Below w'.heap.size w' w'') := Lib.hid fun w' => by rw [N1.out, N2.out]; exact l_same 0 0 w'
            clear h9 hN n1 n2
            go_wp2_with fail
            refine (cZ.out _).mono ?_
            rintro rr w9 ⟨rfl, hb⟩
            replace M := Lib.hid (M.out.below hb)
            replace H6 := Lib.hid (H6.out.below hb)
            clear hb q1 q2 q3
            have q1 := (M.out.nth 2 rfl).2.1
            have q2 := (M.out.nth 3 rfl).2.1
            have q3 := H6.out.2.1
            go_wp2_with fail
            refine (cN.out _).mono ?_
            rintro rr w10 ⟨rfl, hb⟩
            replace M := Lib.hid (M.out.below hb)
            clear hb H6 q1 q2 q3
            go_wp2_with fail
            refine (l_same _ _ _).mono ?_
            rintro rr w11 ⟨rfl, hb⟩
            replace M := Lib.hid (M.out.below hb)
            clear hb
            have e17 : wrap64 ((k : Int) + 1) = (k : Int) + 1 := wrap64_in _ (by omega) (by omega)
            go_wp2
            go_roundw
            case rel => exact ⟨k + 1, _, by omega, congrArg (Value.int .i64) (by omega), M.out.base, M.out.nth 0 rfl⟩
            case measure => simp [intOf]; omega
      · have hRe : R = ⟨e, 0, 0⟩ := hE.out he
        subst hRe
        clear hE hI hN
        have g8 : (e != 0) = true := by rw [bne_iff_ne]; exact he
        clear he
        have M := Lib.hid (St.fresh (x := #[.int .u8 n, .float .f64 al, .float .f64 ah, .float .f64 bl, .float .f64 bh]) HB.out HC.out (Nat.le_refl _) 41 45)
        go_upto_region 8 with fail
        obtain ⟨k0, k1, k2, k3, k4⟩ := ((M.out.drew).mem.blocks (wr.heap.size, #[.int .u8 n, .float .f64 al, .float .f64 ah, .float .f64 bl, .float .f64 bh]) (by simp)).five
        have zc := ((M.out.drew).mem.nth 0 rfl).2.1
        have zf := ((M.out.drew).mem.nth 0 rfl).2.2
        have y0 := ((M.out.drew).mem.nth 0 rfl).1
        (try have zd := ((M.out.drew).mem.nth 1 rfl).2.1)
        (try have zg := ((M.out.drew).mem.nth 1 rfl).2.2)
        (try have y1 := ((M.out.drew).mem.nth 1 rfl).1)
        (try have y2 := (M.out.drew).two.1)
        (try have y3 := (M.out.drew).two.2)
        have zn := ((M.out.drew).mem.blocks (wr.heap.size, #[.int .u8 n, .float .f64 al, .float .f64 ah, .float .f64 bl, .float .f64 bh]) (by simp)).1
        go_cut [9, 10] from 18 to 64 (StayC w w.heap.size (wr.heap.size + 1) e S.e 0 0 S.lo S.hi wr.heap.size #[.int .u8 n, .float .f64 al, .float .f64 ah, .float .f64 bl, .float .f64 bh])
        case first =>
          go_region_held3 (fun w' => w'.cell? ⟨wr.heap.size, 0, none⟩ = some (.int .u8 n) ∧ w'.cell? ⟨wr.heap.size, 1, none⟩ = some (.float .f64 al) ∧ w'.cell? ⟨wr.heap.size, 2, none⟩ = some (.float .f64 ah) ∧ w'.cell? ⟨wr.heap.size, 3, none⟩ = some (.float .f64 bl) ∧ w'.cell? ⟨wr.heap.size, 4, none⟩ = some (.float .f64 bh)) (((try dsimp only); (repeat' apply And.intro); all_goals (repeat (first | (with_reducible assumption) | ((with_reducible refine keep_undrew ?_); (with_reducible assumption)) | (with_reducible refine keep_drew ?_) | (with_reducible refine keep_alloc _ ?_) | (with_reducible refine keep_set _ (by first | (with_reducible assumption) | omega) ?_)))))
            (first
              | (go_at_call 38; (with_reducible refine (cR.out _ _ (M.out).hc.pc (M.out).hc.pf).mono ?_); rintro rr w7 hT; obtain ⟨rfl, hp⟩ := hT.open; have M' := Lib.hid ((M.out).putc hp); clear M hp hT; clear k0 k1 k2 k3 k4 zc zf y0 zn; (try clear zd zg y1 y2 y3); have M := M'; clear M'; obtain ⟨k0, k1, k2, k3, k4⟩ := ((M.out).mem.blocks (wr.heap.size, #[.int .u8 n, .float .f64 al, .float .f64 ah, .float .f64 bl, .float .f64 bh]) (by simp)).five; have zc := ((M.out).mem.nth 0 rfl).2.1; have zf := ((M.out).mem.nth 0 rfl).2.2; have y0 := ((M.out).mem.nth 0 rfl).1; (try have zd := ((M.out).mem.nth 1 rfl).2.1); (try have zg := ((M.out).mem.nth 1 rfl).2.2); (try have y1 := ((M.out).mem.nth 1 rfl).1); (try have y2 := (M.out).two.1); (try have y3 := (M.out).two.2); have zn := ((M.out).mem.blocks (wr.heap.size, #[.int .u8 n, .float .f64 al, .float .f64 ah, .float .f64 bl, .float .f64 bh]) (by simp)).1)
              | (go_at_call 38; (with_reducible refine (cR.out _ _ (M.out.drew).hc.pc (M.out.drew).hc.pf).mono ?_); rintro rr w7 hT; obtain ⟨rfl, hp⟩ := hT.open; have M' := Lib.hid ((M.out.drew).putc hp); clear M hp hT; clear k0 k1 k2 k3 k4 zc zf y0 zn; (try clear zd zg y1 y2 y3); have M := M'; clear M'; obtain ⟨k0, k1, k2, k3, k4⟩ := ((M.out).mem.blocks (wr.heap.size, #[.int .u8 n, .float .f64 al, .float .f64 ah, .float .f64 bl, .float .f64 bh]) (by simp)).five; have zc := ((M.out).mem.nth 0 rfl).2.1; have zf := ((M.out).mem.nth 0 rfl).2.2; have y0 := ((M.out).mem.nth 0 rfl).1; (try have zd := ((M.out).mem.nth 1 rfl).2.1); (try have zg := ((M.out).mem.nth 1 rfl).2.2); (try have y1 := ((M.out).mem.nth 1 rfl).1); (try have y2 := (M.out).two.1); (try have y3 := (M.out).two.2); have zn := ((M.out).mem.blocks (wr.heap.size, #[.int .u8 n, .float .f64 al, .float .f64 ah, .float .f64 bl, .float .f64 bh]) (by simp)).1)
              | (go_at_call 38; (with_reducible refine (cR.out _ _ ((M.out.made _ _)).hc.pc ((M.out.made _ _)).hc.pf).mono ?_); rintro rr w7 hT; obtain ⟨rfl, hp⟩ := hT.open; have M' := Lib.hid (((M.out.made _ _)).putc hp); have zp := zn; (try simp only [World.size_alloc] at M' zp); clear M hp hT; clear k0 k1 k2 k3 k4 zc zf y0 zn; (try clear zd zg y1 y2 y3); have M := M'; clear M'; obtain ⟨k0, k1, k2, k3, k4⟩ := ((M.out).mem.blocks (wr.heap.size, #[.int .u8 n, .float .f64 al, .float .f64 ah, .float .f64 bl, .float .f64 bh]) (by simp)).five; have zc := ((M.out).mem.nth 0 rfl).2.1; have zf := ((M.out).mem.nth 0 rfl).2.2; have y0 := ((M.out).mem.nth 0 rfl).1; (try have zd := ((M.out).mem.nth 1 rfl).2.1); (try have zg := ((M.out).mem.nth 1 rfl).2.2); (try have y1 := ((M.out).mem.nth 1 rfl).1); (try have y2 := (M.out).two.1); (try have y3 := (M.out).two.2); have zn := ((M.out).mem.blocks (wr.heap.size, #[.int .u8 n, .float .f64 al, .float .f64 ah, .float .f64 bl, .float .f64 bh]) (by simp)).1)
              | (go_at_call 38; (with_reducible refine (cR.out _ _ ((M.out.made _ _).drew).hc.pc ((M.out.made _ _).drew).hc.pf).mono ?_); rintro rr w7 hT; obtain ⟨rfl, hp⟩ := hT.open; have M' := Lib.hid (((M.out.made _ _).drew).putc hp); have zp := zn; (try simp only [World.size_alloc, World.size_drew] at M' zp); clear M hp hT; clear k0 k1 k2 k3 k4 zc zf y0 zn; (try clear zd zg y1 y2 y3); have M := M'; clear M'; obtain ⟨k0, k1, k2, k3, k4⟩ := ((M.out).mem.blocks (wr.heap.size, #[.int .u8 n, .float .f64 al, .float .f64 ah, .float .f64 bl, .float .f64 bh]) (by simp)).five; have zc := ((M.out).mem.nth 0 rfl).2.1; have zf := ((M.out).mem.nth 0 rfl).2.2; have y0 := ((M.out).mem.nth 0 rfl).1; (try have zd := ((M.out).mem.nth 1 rfl).2.1); (try have zg := ((M.out).mem.nth 1 rfl).2.2); (try have y1 := ((M.out).mem.nth 1 rfl).1); (try have y2 := (M.out).two.1); (try have y3 := (M.out).two.2); have zn := ((M.out).mem.blocks (wr.heap.size, #[.int .u8 n, .float .f64 al, .float .f64 ah, .float .f64 bl, .float .f64 bh]) (by simp)).1)
              | (go_at_call 38; (with_reducible refine (cR.out _ _ (((M.out.made _ _).made _ _)).hc.pc (((M.out.made _ _).made _ _)).hc.pf).mono ?_); rintro rr w7 hT; obtain ⟨rfl, hp⟩ := hT.open; have M' := Lib.hid ((((M.out.made _ _).made _ _)).putc hp); have zp := zn; (try simp only [World.size_alloc] at M' zp); clear M hp hT; clear k0 k1 k2 k3 k4 zc zf y0 zn; (try clear zd zg y1 y2 y3); have M := M'; clear M'; obtain ⟨k0, k1, k2, k3, k4⟩ := ((M.out).mem.blocks (wr.heap.size, #[.int .u8 n, .float .f64 al, .float .f64 ah, .float .f64 bl, .float .f64 bh]) (by simp)).five; have zc := ((M.out).mem.nth 0 rfl).2.1; have zf := ((M.out).mem.nth 0 rfl).2.2; have y0 := ((M.out).mem.nth 0 rfl).1; (try have zd := ((M.out).mem.nth 1 rfl).2.1); (try have zg := ((M.out).mem.nth 1 rfl).2.2); (try have y1 := ((M.out).mem.nth 1 rfl).1); (try have y2 := (M.out).two.1); (try have y3 := (M.out).two.2); have zn := ((M.out).mem.blocks (wr.heap.size, #[.int .u8 n, .float .f64 al, .float .f64 ah, .float .f64 bl, .float .f64 bh]) (by simp)).1)
              | (go_at_call 38; (with_reducible refine (cR.out _ _ (((M.out.made _ _).made _ _).drew).hc.pc (((M.out.made _ _).made _ _).drew).hc.pf).mono ?_); rintro rr w7 hT; obtain ⟨rfl, hp⟩ := hT.open; have M' := Lib.hid ((((M.out.made _ _).made _ _).drew).putc hp); have zp := zn; (try simp only [World.size_alloc, World.size_drew] at M' zp); clear M hp hT; clear k0 k1 k2 k3 k4 zc zf y0 zn; (try clear zd zg y1 y2 y3); have M := M'; clear M'; obtain ⟨k0, k1, k2, k3, k4⟩ := ((M.out).mem.blocks (wr.heap.size, #[.int .u8 n, .float .f64 al, .float .f64 ah, .float .f64 bl, .float .f64 bh]) (by simp)).five; have zc := ((M.out).mem.nth 0 rfl).2.1; have zf := ((M.out).mem.nth 0 rfl).2.2; have y0 := ((M.out).mem.nth 0 rfl).1; (try have zd := ((M.out).mem.nth 1 rfl).2.1); (try have zg := ((M.out).mem.nth 1 rfl).2.2); (try have y1 := ((M.out).mem.nth 1 rfl).1); (try have y2 := (M.out).two.1); (try have y3 := (M.out).two.2); have zn := ((M.out).mem.blocks (wr.heap.size, #[.int .u8 n, .float .f64 al, .float .f64 ah, .float .f64 bl, .float .f64 bh]) (by simp)).1)
              | (go_at_call 38; (with_reducible refine (cS.out _ _ (M.out).hd.pc (M.out).hd.pf).mono ?_); rintro rr w7 hT; obtain ⟨rfl, hp⟩ := hT.open; have M' := Lib.hid ((M.out).putd hp); clear M hp hT; clear k0 k1 k2 k3 k4 zc zf y0 zn; (try clear zd zg y1 y2 y3); have M := M'; clear M'; obtain ⟨k0, k1, k2, k3, k4⟩ := ((M.out).mem.blocks (wr.heap.size, #[.int .u8 n, .float .f64 al, .float .f64 ah, .float .f64 bl, .float .f64 bh]) (by simp)).five; have zc := ((M.out).mem.nth 0 rfl).2.1; have zf := ((M.out).mem.nth 0 rfl).2.2; have y0 := ((M.out).mem.nth 0 rfl).1; (try have zd := ((M.out).mem.nth 1 rfl).2.1); (try have zg := ((M.out).mem.nth 1 rfl).2.2); (try have y1 := ((M.out).mem.nth 1 rfl).1); (try have y2 := (M.out).two.1); (try have y3 := (M.out).two.2); have zn := ((M.out).mem.blocks (wr.heap.size, #[.int .u8 n, .float .f64 al, .float .f64 ah, .float .f64 bl, .float .f64 bh]) (by simp)).1)
              | (go_at_call 38; (with_reducible refine (cS.out _ _ (M.out.drew).hd.pc (M.out.drew).hd.pf).mono ?_); rintro rr w7 hT; obtain ⟨rfl, hp⟩ := hT.open; have M' := Lib.hid ((M.out.drew).putd hp); clear M hp hT; clear k0 k1 k2 k3 k4 zc zf y0 zn; (try clear zd zg y1 y2 y3); have M := M'; clear M'; obtain ⟨k0, k1, k2, k3, k4⟩ := ((M.out).mem.blocks (wr.heap.size, #[.int .u8 n, .float .f64 al, .float .f64 ah, .float .f64 bl, .float .f64 bh]) (by simp)).five; have zc := ((M.out).mem.nth 0 rfl).2.1; have zf := ((M.out).mem.nth 0 rfl).2.2; have y0 := ((M.out).mem.nth 0 rfl).1; (try have zd := ((M.out).mem.nth 1 rfl).2.1); (try have zg := ((M.out).mem.nth 1 rfl).2.2); (try have y1 := ((M.out).mem.nth 1 rfl).1); (try have y2 := (M.out).two.1); (try have y3 := (M.out).two.2); have zn := ((M.out).mem.blocks (wr.heap.size, #[.int .u8 n, .float .f64 al, .float .f64 ah, .float .f64 bl, .float .f64 bh]) (by simp)).1)
              | (go_at_call 38; (with_reducible refine (cS.out _ _ ((M.out.made _ _)).hd.pc ((M.out.made _ _)).hd.pf).mono ?_); rintro rr w7 hT; obtain ⟨rfl, hp⟩ := hT.open; have M' := Lib.hid (((M.out.made _ _)).putd hp); have zp := zn; (try simp only [World.size_alloc] at M' zp); clear M hp hT; clear k0 k1 k2 k3 k4 zc zf y0 zn; (try clear zd zg y1 y2 y3); have M := M'; clear M'; obtain ⟨k0, k1, k2, k3, k4⟩ := ((M.out).mem.blocks (wr.heap.size, #[.int .u8 n, .float .f64 al, .float .f64 ah, .float .f64 bl, .float .f64 bh]) (by simp)).five; have zc := ((M.out).mem.nth 0 rfl).2.1; have zf := ((M.out).mem.nth 0 rfl).2.2; have y0 := ((M.out).mem.nth 0 rfl).1; (try have zd := ((M.out).mem.nth 1 rfl).2.1); (try have zg := ((M.out).mem.nth 1 rfl).2.2); (try have y1 := ((M.out).mem.nth 1 rfl).1); (try have y2 := (M.out).two.1); (try have y3 := (M.out).two.2); have zn := ((M.out).mem.blocks (wr.heap.size, #[.int .u8 n, .float .f64 al, .float .f64 ah, .float .f64 bl, .float .f64 bh]) (by simp)).1)
              | (go_at_call 38; (with_reducible refine (cS.out _ _ ((M.out.made _ _).drew).hd.pc ((M.out.made _ _).drew).hd.pf).mono ?_); rintro rr w7 hT; obtain ⟨rfl, hp⟩ := hT.open; have M' := Lib.hid (((M.out.made _ _).drew).putd hp); have zp := zn; (try simp only [World.size_alloc, World.size_drew] at M' zp); clear M hp hT; clear k0 k1 k2 k3 k4 zc zf y0 zn; (try clear zd zg y1 y2 y3); have M := M'; clear M'; obtain ⟨k0, k1, k2, k3, k4⟩ := ((M.out).mem.blocks (wr.heap.size, #[.int .u8 n, .float .f64 al, .float .f64 ah, .float .f64 bl, .float .f64 bh]) (by simp)).five; have zc := ((M.out).mem.nth 0 rfl).2.1; have zf := ((M.out).mem.nth 0 rfl).2.2; have y0 := ((M.out).mem.nth 0 rfl).1; (try have zd := ((M.out).mem.nth 1 rfl).2.1); (try have zg := ((M.out).mem.nth 1 rfl).2.2); (try have y1 := ((M.out).mem.nth 1 rfl).1); (try have y2 := (M.out).two.1); (try have y3 := (M.out).two.2); have zn := ((M.out).mem.blocks (wr.heap.size, #[.int .u8 n, .float .f64 al, .float .f64 ah, .float .f64 bl, .float .f64 bh]) (by simp)).1)
              | (go_at_call 38; (with_reducible refine (cS.out _ _ (((M.out.made _ _).made _ _)).hd.pc (((M.out.made _ _).made _ _)).hd.pf).mono ?_); rintro rr w7 hT; obtain ⟨rfl, hp⟩ := hT.open; have M' := Lib.hid ((((M.out.made _ _).made _ _)).putd hp); have zp := zn; (try simp only [World.size_alloc] at M' zp); clear M hp hT; clear k0 k1 k2 k3 k4 zc zf y0 zn; (try clear zd zg y1 y2 y3); have M := M'; clear M'; obtain ⟨k0, k1, k2, k3, k4⟩ := ((M.out).mem.blocks (wr.heap.size, #[.int .u8 n, .float .f64 al, .float .f64 ah, .float .f64 bl, .float .f64 bh]) (by simp)).five; have zc := ((M.out).mem.nth 0 rfl).2.1; have zf := ((M.out).mem.nth 0 rfl).2.2; have y0 := ((M.out).mem.nth 0 rfl).1; (try have zd := ((M.out).mem.nth 1 rfl).2.1); (try have zg := ((M.out).mem.nth 1 rfl).2.2); (try have y1 := ((M.out).mem.nth 1 rfl).1); (try have y2 := (M.out).two.1); (try have y3 := (M.out).two.2); have zn := ((M.out).mem.blocks (wr.heap.size, #[.int .u8 n, .float .f64 al, .float .f64 ah, .float .f64 bl, .float .f64 bh]) (by simp)).1)
              | (go_at_call 38; (with_reducible refine (cS.out _ _ (((M.out.made _ _).made _ _).drew).hd.pc (((M.out.made _ _).made _ _).drew).hd.pf).mono ?_); rintro rr w7 hT; obtain ⟨rfl, hp⟩ := hT.open; have M' := Lib.hid ((((M.out.made _ _).made _ _).drew).putd hp); have zp := zn; (try simp only [World.size_alloc, World.size_drew] at M' zp); clear M hp hT; clear k0 k1 k2 k3 k4 zc zf y0 zn; (try clear zd zg y1 y2 y3); have M := M'; clear M'; obtain ⟨k0, k1, k2, k3, k4⟩ := ((M.out).mem.blocks (wr.heap.size, #[.int .u8 n, .float .f64 al, .float .f64 ah, .float .f64 bl, .float .f64 bh]) (by simp)).five; have zc := ((M.out).mem.nth 0 rfl).2.1; have zf := ((M.out).mem.nth 0 rfl).2.2; have y0 := ((M.out).mem.nth 0 rfl).1; (try have zd := ((M.out).mem.nth 1 rfl).2.1); (try have zg := ((M.out).mem.nth 1 rfl).2.2); (try have y1 := ((M.out).mem.nth 1 rfl).1); (try have y2 := (M.out).two.1); (try have y3 := (M.out).two.2); have zn := ((M.out).mem.blocks (wr.heap.size, #[.int .u8 n, .float .f64 al, .float .f64 ah, .float .f64 bl, .float .f64 bh]) (by simp)).1))
          all_goals (go_wp2_with fail; go_meet)
          all_goals (refine ⟨?_, ?_⟩)
          all_goals first | exact LessC.both M.out | exact LessC.both' M.out | exact LessC.one M.out | exact LessC.one' M.out | exact LessC.two M.out | exact LessC.two' M.out | exact ((M.out.mem.blocks (wr.heap.size, #[.int .u8 n, .float .f64 al, .float .f64 ah, .float .f64 bl, .float .f64 bh]) (by simp)).below (bel1 _ _)).below (bel1 _ _) | exact (Has1.two2 (M.out.mem.blocks (wr.heap.size, #[.int .u8 n, .float .f64 al, .float .f64 ah, .float .f64 bl, .float .f64 bh]) (by simp)) (by first | (with_reducible assumption) | omega) _ _).below (bel1 _ _) | exact Has1.two2 (Has1.two2 (M.out.mem.blocks (wr.heap.size, #[.int .u8 n, .float .f64 al, .float .f64 ah, .float .f64 bl, .float .f64 bh]) (by simp)) (by first | (with_reducible assumption) | omega) _ _) (by first | (with_reducible assumption) | omega) _ _
        case rest =>
          obtain ⟨w8, rfl⟩ : ∃ x : World, x = wc := ⟨_, rfl⟩
          obtain ⟨⟨i, j, rfl, rfl, hM⟩, hO⟩ := hcut
          clear M; clear k0 k1 k2 k3 k4 zc zf y0 zn; (try clear zd zg y1 y2 y3); clear cR cS
          have M := Lib.hid hM
          have H6 := Lib.hid hO
          clear hM hO
          have q1 := (M.out.nth 2 rfl).2.1
          have q2 := (M.out.nth 3 rfl).2.1
          have q3 := H6.out.2.1
          go_wp2_with fail
          refine (err_any e _ 0 _ (M.out.nth 0 rfl).pc).mono ?_
          rintro rr ww ⟨rfl, rfl⟩
          go_wp2_with fail
          refine (l_same _ _ _).mono ?_
          rintro rr w9 ⟨rfl, hb⟩
          replace M := Lib.hid (M.out.below hb)
          replace H6 := Lib.hid (H6.out.below hb)
          clear hb q1 q2 q3
          have q1 := (M.out.nth 2 rfl).2.1
          have q2 := (M.out.nth 3 rfl).2.1
          have q3 := H6.out.2.1
          go_wp2_with fail
          refine (cN.out _).mono ?_
          rintro rr w10 ⟨rfl, hb⟩
          replace M := Lib.hid (M.out.below hb)
          clear hb H6 q1 q2 q3
          go_wp2_with fail
          refine (l_same _ _ _).mono ?_
          rintro rr w11 ⟨rfl, hb⟩
          replace M := Lib.hid (M.out.below hb)
          clear hb
          have e17 : wrap64 ((k : Int) + 1) = (k : Int) + 1 := wrap64_in _ (by omega) (by omega)
          go_wp2
          go_roundw
          case rel => exact ⟨k + 1, _, by omega, congrArg (Value.int .i64) (by omega), M.out.base, M.out.nth 0 rfl⟩
          case measure => simp [intOf]; omega
    · have hkm : k = m := by omega
      subst hkm
      go_wp2_with fail
      refine (err_nil _).mono ?_
      rintro rr ww ⟨rfl, rfl⟩
      go_wp2_with fail
      refine (awake2_any _).mono ?_
      rintro rr w12 ⟨rfl, hb⟩
      have HB2 := Lib.hid (HB.out.trans (hb.mono HB.out.size))
      clear hb
      go_wp2
      go_ret
      exact ⟨rfl, HB2.out⟩

end Go.Proofs.Ytddgcdpmnfdpdaa
