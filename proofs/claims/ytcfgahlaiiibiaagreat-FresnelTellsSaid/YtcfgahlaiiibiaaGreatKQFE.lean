/- FresnelTells: for all that it is given. -/
import Derived.Test.YtcfgahlaiiibiaaGreatKQFD
import Derived.Test.YtcfgahlaiiibiaaGreatKQTR
import Derived.Test.YtcfgahlaiiibiaaGreatKQFC
import Derived.Deep.RegionHeld3
namespace Go.Proofs.YtcfgahlaiiibiaaGreat
open Go.RowKit


theorem rc_sqrt {a : Res} (fa : Fit a) (fr : Fit (sqrtR a)) (pb : Nat) : Calc1 73 pb a.lo a.hi (sqrtR a).lo (sqrtR a).hi := fun v h => by
  have c := rSqrt_any 0 a.lo a.hi pb v fa.lo fa.hi h
  rw [step_one fa] at c
  exact told_none fr.e c
theorem rc_max {a b : Res} (fa : Fit a) (fb : Fit b) (fr : Fit (maxR a b)) (pb : Nat) : Calc2 78 pb a.lo a.hi b.lo b.hi (maxR a b).lo (maxR a b).hi := fun v h => by
  have c := rMax_any 0 a.lo a.hi b.lo b.hi pb v fa.lo fa.hi fb.lo fb.hi h
  rw [step_two fa fb] at c
  exact told_none fr.e c
theorem rdiv_bad {a b : Res} (fa : Fit a) (fb : Fit b) (he : (divR a b).e ≠ 0) (pb : Nat) : CD2 47 pb 0 (divR a b).e a.lo a.hi b.lo b.hi 0 0 := fun v h => by
  have c := rDiv_any 0 a.lo a.hi b.lo b.hi pb v fa.lo fa.hi fb.lo fb.hi h
  rw [step_two fa fb] at c
  refine c.mono fun _ _ ⟨h1, h2⟩ => ⟨?_, h2⟩
  rw [h1]
  show Ending.returned (.agg #[.float .f64 (divR a b).lo, .float .f64 (divR a b).hi]) = _
  rw [(div_nil fa fb he).1, (div_nil fa fb he).2]
theorem kept_fit {a : Res} (f : Fit a) (v : World) : Calls Tryz.prog 75 #[.agg #[.float .f64 a.lo, .float .f64 a.hi], .float .f64 0, .float .f64 4607182418800017408] v fun r w' => r = .returned (.agg #[.float .f64 (clampR a).lo, .float .f64 (clampR a).hi]) ∧ Below v.heap.size v w' := kept_any a.lo a.hi v f.lo f.hi f.rlo f.rhi
theorem kept_nil (v : World) : Calls Tryz.prog 75 #[.agg #[.float .f64 0, .float .f64 0], .float .f64 0, .float .f64 4607182418800017408] v fun r w' => r = .returned (.agg #[.float .f64 0, .float .f64 0]) ∧ Below v.heap.size v w' := by
  have h := kept_any 0 0 v (by decide) (by decide) (by decide) (by decide)
  rw [show clampW 0 = 0 from by decide +kernel] at h
  exact h
theorem re_num {e : Int} (he : e ≠ 0) {x : Nat} (lx : x < 18446744073709551616) (pb : Nat) (v : World) (h : Has1 v (pb, #[.int .i64 e])) :
    Calls Tryz.prog 44 #[.pointer (some ⟨pb, 0, none⟩), .float .f64 x] v fun r w' => r = .returned (.agg #[.float .f64 0, .float .f64 0]) ∧ Put ⟨pb, 0, none⟩ (.int .i64 e) v w' := by
  have c := rNum_any e x pb v lx h
  rw [stepI_err _ _ _ (by simpa using he)] at c
  exact c.mono fun _ _ ⟨h1, h2⟩ => ⟨h1, h2⟩

theorem re_mul {e : Int} (he : e ≠ 0) {al ah bl bh : Nat} (la : al < 18446744073709551616) (ha : ah < 18446744073709551616) (lb : bl < 18446744073709551616) (hb : bh < 18446744073709551616) (pb : Nat) (v : World) (h : Has1 v (pb, #[.int .i64 e])) :
    Calls Tryz.prog 74 #[.pointer (some ⟨pb, 0, none⟩), .agg #[.float .f64 al, .float .f64 ah], .agg #[.float .f64 bl, .float .f64 bh]] v fun r w' => r = .returned (.agg #[.float .f64 0, .float .f64 0]) ∧ Put ⟨pb, 0, none⟩ (.int .i64 e) v w' := by
  have c := rMul_any e al ah bl bh pb v la ha lb hb h
  rw [stepI_err _ _ _ (by simpa using he)] at c
  exact c.mono fun _ _ ⟨h1, h2⟩ => ⟨h1, h2⟩
theorem re_add {e : Int} (he : e ≠ 0) {al ah bl bh : Nat} (la : al < 18446744073709551616) (ha : ah < 18446744073709551616) (lb : bl < 18446744073709551616) (hb : bh < 18446744073709551616) (pb : Nat) (v : World) (h : Has1 v (pb, #[.int .i64 e])) :
    Calls Tryz.prog 70 #[.pointer (some ⟨pb, 0, none⟩), .agg #[.float .f64 al, .float .f64 ah], .agg #[.float .f64 bl, .float .f64 bh]] v fun r w' => r = .returned (.agg #[.float .f64 0, .float .f64 0]) ∧ Put ⟨pb, 0, none⟩ (.int .i64 e) v w' := by
  have c := rAdd_any e al ah bl bh pb v la ha lb hb h
  rw [stepI_err _ _ _ (by simpa using he)] at c
  exact c.mono fun _ _ ⟨h1, h2⟩ => ⟨h1, h2⟩

set_option maxHeartbeats 4000000 in
theorem rdiel_any {c n : Res} (i0 : In c bigC) (i1 : In n bigN) (w : World) :
    Calls Tryz.prog 19 #[.agg #[.float .f64 c.lo, .float .f64 c.hi], .agg #[.float .f64 n.lo, .float .f64 n.hi]] w fun r w' => r = .returned (.tuple #[.agg #[.float .f64 (Di.out c n).lo, .float .f64 (Di.out c n).hi], .int .i64 0]) ∧ Below w.heap.size w w' := by
  have P := Di.parts Di.big i0 i1
  have D := P.fits i0.fit i1.fit
  exact rdiel_walk c.lo c.hi n.lo n.hi (Di.s2 c n).lo (Di.s2 c n).hi (Di.s3 c n).lo (Di.s3 c n).hi (Di.s4 c n).lo (Di.s4 c n).hi (Di.s5 c n).lo (Di.s5 c n).hi (Di.g c n).lo (Di.g c n).hi (Di.less c n).lo (Di.less c n).hi (Di.more c n).lo (Di.more c n).hi (Di.pq c n).lo (Di.pq c n).hi (Di.p c n).lo (Di.p c n).hi (Di.m11 c n).lo (Di.m11 c n).hi (Di.over c n).lo (Di.over c n).hi (Di.m13 c n).lo (Di.m13 c n).hi (Di.under c n).lo (Di.under c n).hi (Di.qq c n).lo (Di.qq c n).hi (Di.q c n).lo (Di.q c n).hi (Di.hp c n).lo (Di.hp c n).hi (Di.oq c n).lo (Di.oq c n).hi (Di.f c n).lo (Di.f c n).hi (Di.out c n).lo (Di.out c n).hi w
    (Lib.hid fun v => by have c := rRight_any c.lo c.hi v i0.fit.lo i0.fit.hi; rw [i0.fit.iv] at c; exact c)
    (Lib.hid fun v => by have c := rRight_any n.lo n.hi v i1.fit.lo i1.fit.hi; rw [i1.fit.iv] at c; exact c)
    (Lib.hid fun v => by have c := within6_any c.lo c.hi bigC.lo bigC.hi v i0.fit.lo i0.fit.hi i0.fit.rlo i0.fit.rhi (by decide) (by decide) (by decide) (by decide); rw [ok_in i0] at c; exact c)
    (Lib.hid fun v => by have c := within6_any n.lo n.hi bigN.lo bigN.hi v i1.fit.lo i1.fit.hi i1.fit.rlo i1.fit.rhi (by decide) (by decide) (by decide) (by decide); rw [ok_in i1] at c; exact c)
    (Lib.hid fun pb => rc_sqr D.fn D.s2' pb)
    (Lib.hid fun pb => rc_num (one_fit (by decide) (by decide) : Fit (oneR 4607182418800017408)) pb)
    (Lib.hid fun pb => rc_sub D.s2' (one_fit (by decide) (by decide) : Fit (oneR 4607182418800017408)) D.s3' pb)
    (Lib.hid fun pb => rc_sqr D.fc D.s4' pb)
    (Lib.hid fun pb => rc_add D.s3' D.s4' D.s5' pb)
    (Lib.hid fun pb => rc_sqrt D.s5' D.g' pb)
    (Lib.hid fun pb => rc_sub D.g' D.fc D.less' pb)
    (Lib.hid fun pb => rc_add D.g' D.fc D.more' pb)
    (Lib.hid fun pb => rc_div D.less' D.more' D.pq' pb)
    (Lib.hid fun pb => rc_sqr D.pq' D.p' pb)
    (Lib.hid fun pb => rc_mul D.fc D.more' D.m11' pb)
    (Lib.hid fun pb => rc_num (one_fit (by decide) (by decide) : Fit (oneR 4607182418800017408)) pb)
    (Lib.hid fun pb => rc_sub D.m11' (one_fit (by decide) (by decide) : Fit (oneR 4607182418800017408)) D.over' pb)
    (Lib.hid fun pb => rc_mul D.fc D.less' D.m13' pb)
    (Lib.hid fun pb => rc_num (one_fit (by decide) (by decide) : Fit (oneR 4607182418800017408)) pb)
    (Lib.hid fun pb => rc_add D.m13' (one_fit (by decide) (by decide) : Fit (oneR 4607182418800017408)) D.under' pb)
    (Lib.hid fun pb => rc_div D.over' D.under' D.qq' pb)
    (Lib.hid fun pb => rc_sqr D.qq' D.q' pb)
    (Lib.hid fun pb => rc_num (one_fit (by decide) (by decide) : Fit (oneR 4602678819172646912)) pb)
    (Lib.hid fun pb => rc_mul (one_fit (by decide) (by decide) : Fit (oneR 4602678819172646912)) D.p' D.hp' pb)
    (Lib.hid fun pb => rc_num (one_fit (by decide) (by decide) : Fit (oneR 4607182418800017408)) pb)
    (Lib.hid fun pb => rc_add (one_fit (by decide) (by decide) : Fit (oneR 4607182418800017408)) D.q' D.oq' pb)
    (Lib.hid fun pb => rc_mul D.hp' D.oq' D.f' pb)
    (Lib.hid fun v => kept_fit D.f' v)

set_option maxHeartbeats 4000000 in
theorem rcond_some {c h k : Res} (i0 : In c bigC) (i1 : In h bigM) (i2 : In k bigM) (w : World) (he : (Co.r33 c h k).e = 0) :
    Calls Tryz.prog 21 #[.agg #[.float .f64 c.lo, .float .f64 c.hi], .agg #[.float .f64 h.lo, .float .f64 h.hi], .agg #[.float .f64 k.lo, .float .f64 k.hi]] w fun r w' => r = .returned (.tuple #[.agg #[.float .f64 (Co.f c h k).lo, .float .f64 (Co.f c h k).hi], .int .i64 0]) ∧ Below w.heap.size w w' := by
  have P := Co.parts Co.big i0 i1 i2
  have D := P.fits i0.fit i1.fit i2.fit
  have L := D.last he
  exact rcond_walk c.lo c.hi h.lo h.hi k.lo k.hi (Co.c2 c h k).lo (Co.c2 c h k).hi (Co.s3 c h k).lo (Co.s3 c h k).hi (Co.s2 c h k).lo (Co.s2 c h k).hi (Co.e2 c h k).lo (Co.e2 c h k).hi (Co.k2 c h k).lo (Co.k2 c h k).hi (Co.ek c h k).lo (Co.ek c h k).hi (Co.e2 c h k).lo (Co.e2 c h k).hi (Co.k2 c h k).lo (Co.k2 c h k).hi (Co.t11 c h k).lo (Co.t11 c h k).hi (Co.t0 c h k).lo (Co.t0 c h k).hi (Co.q13 c h k).lo (Co.q13 c h k).hi (Co.m15 c h k).lo (Co.m15 c h k).hi (Co.a16 c h k).lo (Co.a16 c h k).hi (Co.ab c h k).lo (Co.ab c h k).hi (Co.a18 c h k).lo (Co.a18 c h k).hi (Co.x20 c h k).lo (Co.x20 c h k).hi (Co.m21 c h k).lo (Co.m21 c h k).hi (Co.a c h k).lo (Co.a c h k).hi (Co.t1 c h k).lo (Co.t1 c h k).hi (Co.m25 c h k).lo (Co.m25 c h k).hi (Co.t2 c h k).lo (Co.t2 c h k).hi (Co.n27 c h k).lo (Co.n27 c h k).hi (Co.d27 c h k).lo (Co.d27 c h k).hi (Co.r27 c h k).lo (Co.r27 c h k).hi (Co.rs c h k).lo (Co.rs c h k).hi (Co.m29 c h k).lo (Co.m29 c h k).hi (Co.q30 c h k).lo (Co.q30 c h k).hi (Co.t3 c h k).lo (Co.t3 c h k).hi (Co.t4 c h k).lo (Co.t4 c h k).hi (Co.n33 c h k).lo (Co.n33 c h k).hi (Co.d33 c h k).lo (Co.d33 c h k).hi (Co.r33 c h k).lo (Co.r33 c h k).hi (Co.m34 c h k).lo (Co.m34 c h k).hi (Co.rp c h k).lo (Co.rp c h k).hi 4602678819172646912 4602678819172646912 (Co.a36 c h k).lo (Co.a36 c h k).hi (Co.f c h k).lo (Co.f c h k).hi 0 w
    (Lib.hid fun v => by have c := rRight_any c.lo c.hi v i0.fit.lo i0.fit.hi; rw [i0.fit.iv] at c; exact c)
    (Lib.hid fun v => by have c := rRight_any h.lo h.hi v i1.fit.lo i1.fit.hi; rw [i1.fit.iv] at c; exact c)
    (Lib.hid fun v => by have c := rRight_any k.lo k.hi v i2.fit.lo i2.fit.hi; rw [i2.fit.iv] at c; exact c)
    (Lib.hid fun v => by have c := within6_any c.lo c.hi bigC.lo bigC.hi v i0.fit.lo i0.fit.hi i0.fit.rlo i0.fit.rhi (by decide) (by decide) (by decide) (by decide); rw [ok_in i0] at c; exact c)
    (Lib.hid fun v => by have c := within6_any h.lo h.hi bigM.lo bigM.hi v i1.fit.lo i1.fit.hi i1.fit.rlo i1.fit.rhi (by decide) (by decide) (by decide) (by decide); rw [ok_in i1] at c; exact c)
    (Lib.hid fun v => by have c := within6_any k.lo k.hi bigM.lo bigM.hi v i2.fit.lo i2.fit.hi i2.fit.rlo i2.fit.rhi (by decide) (by decide) (by decide) (by decide); rw [ok_in i2] at c; exact c)
    (Lib.hid fun pb => rc_sqr D.fc D.c2' pb)
    (Lib.hid fun pb => rc_num (one_fit (by decide) (by decide) : Fit (oneR 4607182418800017408)) pb)
    (Lib.hid fun pb => rc_sub (one_fit (by decide) (by decide) : Fit (oneR 4607182418800017408)) D.c2' D.s3' pb)
    (Lib.hid fun v => kept_fit D.s3' v)
    (Lib.hid fun pb => rc_sqr D.fh D.e2' pb)
    (Lib.hid fun pb => rc_sqr D.fk D.k2' pb)
    (Lib.hid fun pb => rc_mul D.e2' D.k2' D.ek' pb)
    (Lib.hid fun pb => rc_sqr D.fh D.e2' pb)
    (Lib.hid fun pb => rc_sqr D.fk D.k2' pb)
    (Lib.hid fun pb => rc_sub D.e2' D.k2' D.t11' pb)
    (Lib.hid fun pb => rc_sub D.t11' D.s2' D.t0' pb)
    (Lib.hid fun pb => rc_sqr D.t0' D.q13' pb)
    (Lib.hid fun pb => rc_num (one_fit (by decide) (by decide) : Fit (oneR 4616189618054758400)) pb)
    (Lib.hid fun pb => rc_mul (one_fit (by decide) (by decide) : Fit (oneR 4616189618054758400)) D.ek' D.m15' pb)
    (Lib.hid fun pb => rc_add D.q13' D.m15' D.a16' pb)
    (Lib.hid fun pb => rc_sqrt D.a16' D.ab' pb)
    (Lib.hid fun pb => rc_num (one_fit (by decide) (by decide) : Fit (oneR 4602678819172646912)) pb)
    (Lib.hid fun pb => rc_add D.ab' D.t0' D.a18' pb)
    (Lib.hid fun pb => rc_num (one_fit (by decide) (by decide) : Fit (oneR 0)) pb)
    (Lib.hid fun pb => rc_max D.a18' (one_fit (by decide) (by decide) : Fit (oneR 0)) D.x20' pb)
    (Lib.hid fun pb => rc_mul (one_fit (by decide) (by decide) : Fit (oneR 4602678819172646912)) D.x20' D.m21' pb)
    (Lib.hid fun pb => rc_sqrt D.m21' D.a' pb)
    (Lib.hid fun pb => rc_add D.ab' D.c2' D.t1' pb)
    (Lib.hid fun pb => rc_num (one_fit (by decide) (by decide) : Fit (oneR 4611686018427387904)) pb)
    (Lib.hid fun pb => rc_mul (one_fit (by decide) (by decide) : Fit (oneR 4611686018427387904)) D.a' D.m25' pb)
    (Lib.hid fun pb => rc_mul D.m25' D.fc D.t2' pb)
    (Lib.hid fun pb => rc_sub D.t1' D.t2' D.n27' pb)
    (Lib.hid fun pb => rc_add D.t1' D.t2' D.d27' pb)
    (Lib.hid fun pb => rc_div D.n27' D.d27' D.r27' pb)
    (Lib.hid fun v => kept_fit D.r27' v)
    (Lib.hid fun pb => rc_mul D.c2' D.ab' D.m29' pb)
    (Lib.hid fun pb => rc_sqr D.s2' D.q30' pb)
    (Lib.hid fun pb => rc_add D.m29' D.q30' D.t3' pb)
    (Lib.hid fun pb => rc_mul D.t2' D.s2' D.t4' pb)
    (Lib.hid fun pb => rc_sub D.t3' D.t4' D.n33' pb)
    (Lib.hid fun pb => rc_add D.t3' D.t4' D.d33' pb)
    (Lib.hid fun pb => rc_div D.n33' D.d33' L.r33' pb)
    (Lib.hid fun pb => rc_mul D.rs' L.r33' L.m34' pb)
    (Lib.hid fun v => kept_fit L.m34' v)
    (Lib.hid fun pb => rc_num (one_fit (by decide) (by decide) : Fit (oneR 4602678819172646912)) pb)
    (Lib.hid fun pb => rc_add D.rs' L.rp' L.a36' pb)
    (Lib.hid fun pb => rc_mul (one_fit (by decide) (by decide) : Fit (oneR 4602678819172646912)) L.a36' L.f' pb)
    (fun hne => absurd rfl hne)

set_option maxHeartbeats 4000000 in
theorem rcond_none {c h k : Res} (i0 : In c bigC) (i1 : In h bigM) (i2 : In k bigM) (w : World) (he : (Co.r33 c h k).e ≠ 0) :
    Calls Tryz.prog 21 #[.agg #[.float .f64 c.lo, .float .f64 c.hi], .agg #[.float .f64 h.lo, .float .f64 h.hi], .agg #[.float .f64 k.lo, .float .f64 k.hi]] w fun r w' => r = .returned (.tuple #[.agg #[.float .f64 0, .float .f64 0], .int .i64 (Co.r33 c h k).e]) ∧ Below w.heap.size w w' := by
  have P := Co.parts Co.big i0 i1 i2
  have D := P.fits i0.fit i1.fit i2.fit
  exact rcond_walk c.lo c.hi h.lo h.hi k.lo k.hi (Co.c2 c h k).lo (Co.c2 c h k).hi (Co.s3 c h k).lo (Co.s3 c h k).hi (Co.s2 c h k).lo (Co.s2 c h k).hi (Co.e2 c h k).lo (Co.e2 c h k).hi (Co.k2 c h k).lo (Co.k2 c h k).hi (Co.ek c h k).lo (Co.ek c h k).hi (Co.e2 c h k).lo (Co.e2 c h k).hi (Co.k2 c h k).lo (Co.k2 c h k).hi (Co.t11 c h k).lo (Co.t11 c h k).hi (Co.t0 c h k).lo (Co.t0 c h k).hi (Co.q13 c h k).lo (Co.q13 c h k).hi (Co.m15 c h k).lo (Co.m15 c h k).hi (Co.a16 c h k).lo (Co.a16 c h k).hi (Co.ab c h k).lo (Co.ab c h k).hi (Co.a18 c h k).lo (Co.a18 c h k).hi (Co.x20 c h k).lo (Co.x20 c h k).hi (Co.m21 c h k).lo (Co.m21 c h k).hi (Co.a c h k).lo (Co.a c h k).hi (Co.t1 c h k).lo (Co.t1 c h k).hi (Co.m25 c h k).lo (Co.m25 c h k).hi (Co.t2 c h k).lo (Co.t2 c h k).hi (Co.n27 c h k).lo (Co.n27 c h k).hi (Co.d27 c h k).lo (Co.d27 c h k).hi (Co.r27 c h k).lo (Co.r27 c h k).hi (Co.rs c h k).lo (Co.rs c h k).hi (Co.m29 c h k).lo (Co.m29 c h k).hi (Co.q30 c h k).lo (Co.q30 c h k).hi (Co.t3 c h k).lo (Co.t3 c h k).hi (Co.t4 c h k).lo (Co.t4 c h k).hi (Co.n33 c h k).lo (Co.n33 c h k).hi (Co.d33 c h k).lo (Co.d33 c h k).hi 0 0 0 0 0 0 0 0 0 0 0 0 (Co.r33 c h k).e w
    (Lib.hid fun v => by have c := rRight_any c.lo c.hi v i0.fit.lo i0.fit.hi; rw [i0.fit.iv] at c; exact c)
    (Lib.hid fun v => by have c := rRight_any h.lo h.hi v i1.fit.lo i1.fit.hi; rw [i1.fit.iv] at c; exact c)
    (Lib.hid fun v => by have c := rRight_any k.lo k.hi v i2.fit.lo i2.fit.hi; rw [i2.fit.iv] at c; exact c)
    (Lib.hid fun v => by have c := within6_any c.lo c.hi bigC.lo bigC.hi v i0.fit.lo i0.fit.hi i0.fit.rlo i0.fit.rhi (by decide) (by decide) (by decide) (by decide); rw [ok_in i0] at c; exact c)
    (Lib.hid fun v => by have c := within6_any h.lo h.hi bigM.lo bigM.hi v i1.fit.lo i1.fit.hi i1.fit.rlo i1.fit.rhi (by decide) (by decide) (by decide) (by decide); rw [ok_in i1] at c; exact c)
    (Lib.hid fun v => by have c := within6_any k.lo k.hi bigM.lo bigM.hi v i2.fit.lo i2.fit.hi i2.fit.rlo i2.fit.rhi (by decide) (by decide) (by decide) (by decide); rw [ok_in i2] at c; exact c)
    (Lib.hid fun pb => rc_sqr D.fc D.c2' pb)
    (Lib.hid fun pb => rc_num (one_fit (by decide) (by decide) : Fit (oneR 4607182418800017408)) pb)
    (Lib.hid fun pb => rc_sub (one_fit (by decide) (by decide) : Fit (oneR 4607182418800017408)) D.c2' D.s3' pb)
    (Lib.hid fun v => kept_fit D.s3' v)
    (Lib.hid fun pb => rc_sqr D.fh D.e2' pb)
    (Lib.hid fun pb => rc_sqr D.fk D.k2' pb)
    (Lib.hid fun pb => rc_mul D.e2' D.k2' D.ek' pb)
    (Lib.hid fun pb => rc_sqr D.fh D.e2' pb)
    (Lib.hid fun pb => rc_sqr D.fk D.k2' pb)
    (Lib.hid fun pb => rc_sub D.e2' D.k2' D.t11' pb)
    (Lib.hid fun pb => rc_sub D.t11' D.s2' D.t0' pb)
    (Lib.hid fun pb => rc_sqr D.t0' D.q13' pb)
    (Lib.hid fun pb => rc_num (one_fit (by decide) (by decide) : Fit (oneR 4616189618054758400)) pb)
    (Lib.hid fun pb => rc_mul (one_fit (by decide) (by decide) : Fit (oneR 4616189618054758400)) D.ek' D.m15' pb)
    (Lib.hid fun pb => rc_add D.q13' D.m15' D.a16' pb)
    (Lib.hid fun pb => rc_sqrt D.a16' D.ab' pb)
    (Lib.hid fun pb => rc_num (one_fit (by decide) (by decide) : Fit (oneR 4602678819172646912)) pb)
    (Lib.hid fun pb => rc_add D.ab' D.t0' D.a18' pb)
    (Lib.hid fun pb => rc_num (one_fit (by decide) (by decide) : Fit (oneR 0)) pb)
    (Lib.hid fun pb => rc_max D.a18' (one_fit (by decide) (by decide) : Fit (oneR 0)) D.x20' pb)
    (Lib.hid fun pb => rc_mul (one_fit (by decide) (by decide) : Fit (oneR 4602678819172646912)) D.x20' D.m21' pb)
    (Lib.hid fun pb => rc_sqrt D.m21' D.a' pb)
    (Lib.hid fun pb => rc_add D.ab' D.c2' D.t1' pb)
    (Lib.hid fun pb => rc_num (one_fit (by decide) (by decide) : Fit (oneR 4611686018427387904)) pb)
    (Lib.hid fun pb => rc_mul (one_fit (by decide) (by decide) : Fit (oneR 4611686018427387904)) D.a' D.m25' pb)
    (Lib.hid fun pb => rc_mul D.m25' D.fc D.t2' pb)
    (Lib.hid fun pb => rc_sub D.t1' D.t2' D.n27' pb)
    (Lib.hid fun pb => rc_add D.t1' D.t2' D.d27' pb)
    (Lib.hid fun pb => rc_div D.n27' D.d27' D.r27' pb)
    (Lib.hid fun v => kept_fit D.r27' v)
    (Lib.hid fun pb => rc_mul D.c2' D.ab' D.m29' pb)
    (Lib.hid fun pb => rc_sqr D.s2' D.q30' pb)
    (Lib.hid fun pb => rc_add D.m29' D.q30' D.t3' pb)
    (Lib.hid fun pb => rc_mul D.t2' D.s2' D.t4' pb)
    (Lib.hid fun pb => rc_sub D.t3' D.t4' D.n33' pb)
    (Lib.hid fun pb => rc_add D.t3' D.t4' D.d33' pb)
    (Lib.hid fun pb v h => rdiv_bad D.n33' D.d33' he pb v h)
    (Lib.hid fun pb v h => re_mul he D.rs'.lo D.rs'.hi (by decide) (by decide) pb v h)
    (Lib.hid fun v => kept_nil v)
    (Lib.hid fun pb v h => re_num he (by decide) pb v h)
    (Lib.hid fun pb v h => re_add he D.rs'.lo D.rs'.hi (by decide) (by decide) pb v h)
    (Lib.hid fun pb v h => re_mul he (by decide) (by decide) (by decide) (by decide) pb v h)
    (fun hne => ⟨rfl, rfl⟩)

end Go.Proofs.YtcfgahlaiiibiaaGreat

namespace Go.Proofs.YtcfgahlaiiibiaaGreat
open Go.RowKit
attribute [local go_sem] run_store_float

set_option maxRecDepth 100000 in
theorem run_eq_iv6 (a b c d : Nat) (w : World) : (Op.equalIn 10000 24 (.agg #[.float .f64 a, .float .f64 b]) (.agg #[.float .f64 c, .float .f64 d])).run Tryz.prog w = .ok (Op.floatEq .f64 a c && Op.floatEq .f64 b d) w := by
  have hu := run_underlying Tryz.underlying24 (w := w)
  show (Op.equalIn (9999 + 1) 24 _ _).run Tryz.prog w = _
  rw [Op.equalIn]
  simp only [Sem.run_bind, hu, Result.andThen]
  have hf := run_underlying Tryz.underlying22 (w := w)
  have e : ∀ (x y : Nat), (Op.equalIn 9999 22 (.float .f64 x) (.float .f64 y)).run Tryz.prog w = .ok (Op.floatEq .f64 x y) w := fun x y => by
    show (Op.equalIn (9998 + 1) 22 _ _).run Tryz.prog w = _
    rw [Op.equalIn]
    simp only [Sem.run_bind, hf, Result.andThen]
    simp [go_sem]
  have hs : Tryz.prog.stoodInHeld 24 = false := by kernel_rfl
  simp [hs, Result.andThen, go_sem, e, part]
  cases Op.floatEq .f64 a c <;> simp [go_sem, e]
  cases Op.floatEq .f64 b d <;> simp [go_sem]

set_option maxRecDepth 100000 in
set_option maxHeartbeats 4000000 in
theorem fres_even (c0l c0h n0l n0h e0l e0h k0l k0h u0 u1 u2 u3 u4 u5 cl ch nl nh el eh kl kh xl xh yl yh : Nat) (p q : Int) (w : World)
    (s1 : Hid (∀ w, Calls Tryz.prog 17 #[.float .f64 0, .float .f64 4607182418800017408, .int .u32 u0, .int .u32 u1] w fun r w' => r = .returned (.agg #[.float .f64 cl, .float .f64 ch]) ∧ Below w.heap.size w w'))
    (s2 : Hid (∀ w, Calls Tryz.prog 17 #[.float .f64 4607463893776728064, .float .f64 4616189618054758400, .int .u32 u2, .int .u32 u3] w fun r w' => r = .returned (.agg #[.float .f64 nl, .float .f64 nh]) ∧ Below w.heap.size w w'))
    (s3 : Hid (∀ w, Calls Tryz.prog 17 #[.float .f64 4589168020290535424, .float .f64 4625196817309499392, .int .u32 u3, .int .u32 u4] w fun r w' => r = .returned (.agg #[.float .f64 el, .float .f64 eh]) ∧ Below w.heap.size w w'))
    (s4 : Hid (∀ w, Calls Tryz.prog 17 #[.float .f64 4589168020290535424, .float .f64 4625196817309499392, .int .u32 u2, .int .u32 u5] w fun r w' => r = .returned (.agg #[.float .f64 kl, .float .f64 kh]) ∧ Below w.heap.size w w'))
    (d1 : Hid (∀ w, Calls Tryz.prog 18 #[.agg #[.float .f64 cl, .float .f64 ch], .agg #[.float .f64 nl, .float .f64 nh]] w fun r w' => r = .returned (.tuple #[.agg #[.float .f64 xl, .float .f64 xh], .int .i64 p]) ∧ Below w.heap.size w w'))
    (d2 : Hid (∀ w, Calls Tryz.prog 19 #[.agg #[.float .f64 cl, .float .f64 ch], .agg #[.float .f64 nl, .float .f64 nh]] w fun r w' => r = .returned (.tuple #[.agg #[.float .f64 xl, .float .f64 xh], .int .i64 p]) ∧ Below w.heap.size w w'))
    (d3 : Hid (∀ w, Calls Tryz.prog 20 #[.agg #[.float .f64 cl, .float .f64 ch], .agg #[.float .f64 el, .float .f64 eh], .agg #[.float .f64 kl, .float .f64 kh]] w fun r w' => r = .returned (.tuple #[.agg #[.float .f64 yl, .float .f64 yh], .int .i64 q]) ∧ Below w.heap.size w w'))
    (d4 : Hid (∀ w, Calls Tryz.prog 21 #[.agg #[.float .f64 cl, .float .f64 ch], .agg #[.float .f64 el, .float .f64 eh], .agg #[.float .f64 kl, .float .f64 kh]] w fun r w' => r = .returned (.tuple #[.agg #[.float .f64 yl, .float .f64 yh], .int .i64 q]) ∧ Below w.heap.size w w'))
    (cA : Hid (∀ w, Calls Tryz.prog 22 #[] w fun r w' => r = .returned (.bool true) ∧ Below w.heap.size w w'))
    (q1 : Op.floatEq .f64 xl xl = true) (q2 : Op.floatEq .f64 xh xh = true) (q3 : Op.floatEq .f64 yl yl = true) (q4 : Op.floatEq .f64 yh yh = true)
    (t : ((u0 : Int) % 2 == 0) = true) :
    Calls Tryz.prog 5 #[.agg #[.float .f64 c0l, .float .f64 c0h], .agg #[.float .f64 n0l, .float .f64 n0h], .agg #[.float .f64 e0l, .float .f64 e0h], .agg #[.float .f64 k0l, .float .f64 k0h], .agg #[.int .u32 u0, .int .u32 u1, .int .u32 u2, .int .u32 u3, .int .u32 u4, .int .u32 u5]] w fun r w' => r = .returned (.bool true) ∧ Below w.heap.size w w' := by
  have M := Lib.hid ((((((Own.nil w).made #[.float .f64 c0l, .float .f64 c0h] 24).made #[.float .f64 n0l, .float .f64 n0h] 24).made #[.float .f64 e0l, .float .f64 e0h] 24).made #[.float .f64 k0l, .float .f64 k0h] 24).made #[.int .u32 u0, .int .u32 u1, .int .u32 u2, .int .u32 u3, .int .u32 u4, .int .u32 u5] 50)
  simp only [World.size_alloc] at M
  obtain ⟨m1, m2, m3, m4, m5, m6⟩ := (M.out.nth 0 rfl).six
  go_enter Tryz.func5, Tryz.ntmps5
  go_upto_region 2 with fail
  clear m1 m2 m3 m4 m5 m6
  replace M := Lib.hid M.out.drew
  revert M
  generalize (((((w.alloc (.cells #[.float .f64 c0l, .float .f64 c0h] 24)).alloc (.cells #[.float .f64 n0l, .float .f64 n0h] 24)).alloc (.cells #[.float .f64 e0l, .float .f64 e0h] 24)).alloc (.cells #[.float .f64 k0l, .float .f64 k0h] 24)).alloc (.cells #[.int .u32 u0, .int .u32 u1, .int .u32 u2, .int .u32 u3, .int .u32 u4, .int .u32 u5] 50)) = W0
  intro M
  obtain ⟨m1, m2, m3, m4, m5, m6⟩ := (M.out.nth 0 rfl).six
  have kc := (M.out.nth 4 rfl).2.1
  have kf := (M.out.nth 4 rfl).2.2
  have kd := (M.out.nth 3 rfl).2.1
  have ke := (M.out.nth 3 rfl).2.2
  go_region_held3 (fun w' => w'.cell? ⟨w.heap.size + 1 + 1 + 1 + 1, 0, none⟩ = some (.int .u32 u0) ∧ w'.cell? ⟨w.heap.size + 1 + 1 + 1 + 1, 1, none⟩ = some (.int .u32 u1) ∧ w'.cell? ⟨w.heap.size + 1 + 1 + 1 + 1, 2, none⟩ = some (.int .u32 u2) ∧ w'.cell? ⟨w.heap.size + 1 + 1 + 1 + 1, 3, none⟩ = some (.int .u32 u3) ∧ w'.cell? ⟨w.heap.size + 1 + 1 + 1 + 1, 4, none⟩ = some (.int .u32 u4) ∧ w'.cell? ⟨w.heap.size + 1 + 1 + 1 + 1, 5, none⟩ = some (.int .u32 u5)) (((try dsimp only); (repeat' apply And.intro); all_goals (repeat (first | (with_reducible assumption) | ((with_reducible refine keep_undrew ?_); (with_reducible assumption)) | (with_reducible refine keep_drew ?_) | (with_reducible refine keep_set _ (by first | (with_reducible assumption) | omega) ?_)))))
    (first
      | (go_at_call 17; (with_reducible refine (s1.out _).mono ?_); rintro rr w5 ⟨rfl, hb⟩; replace M := Lib.hid (M.out.below hb); clear hb m1 m2 m3 m4 m5 m6 kc kf kd ke; obtain ⟨m1, m2, m3, m4, m5, m6⟩ := (M.out.nth 0 rfl).six; have kc := (M.out.nth 4 rfl).2.1; have kf := (M.out.nth 4 rfl).2.2; have kd := (M.out.nth 3 rfl).2.1; have ke := (M.out.nth 3 rfl).2.2)
      | (go_at_call 17; (with_reducible refine (s2.out _).mono ?_); rintro rr w5 ⟨rfl, hb⟩; replace M := Lib.hid (M.out.below hb); clear hb m1 m2 m3 m4 m5 m6 kc kf kd ke; obtain ⟨m1, m2, m3, m4, m5, m6⟩ := (M.out.nth 0 rfl).six; have kc := (M.out.nth 4 rfl).2.1; have kf := (M.out.nth 4 rfl).2.2; have kd := (M.out.nth 3 rfl).2.1; have ke := (M.out.nth 3 rfl).2.2))
  replace M := Lib.hid ((M.out.set2 4 rfl (.float .f64 cl) (.float .f64 ch)).set2 3 rfl (.float .f64 nl) (.float .f64 nh))
  clear m1 m2 m3 m4 m5 m6 kc kf kd ke
  revert M
  generalize ((((w5.setCell ⟨w.heap.size, 0, none⟩ (.float .f64 cl)).setCell ⟨w.heap.size, 1, none⟩ (.float .f64 ch)).setCell ⟨w.heap.size + 1, 0, none⟩ (.float .f64 nl)).setCell ⟨w.heap.size + 1, 1, none⟩ (.float .f64 nh)) = W2
  intro M
  obtain ⟨m1, m2, m3, m4, m5, m6⟩ := (M.out.nth 0 rfl).six
  go_upto_region 3 with fail
  clear m1 m2 m3 m4 m5 m6
  replace M := Lib.hid M.out.drew
  obtain ⟨m1, m2, m3, m4, m5, m6⟩ := (M.out.nth 0 rfl).six
  have kc := (M.out.nth 2 rfl).2.1
  have kf := (M.out.nth 2 rfl).2.2
  have kd := (M.out.nth 1 rfl).2.1
  have ke := (M.out.nth 1 rfl).2.2
  go_region_held3 (fun w' => w'.cell? ⟨w.heap.size + 1 + 1 + 1 + 1, 0, none⟩ = some (.int .u32 u0) ∧ w'.cell? ⟨w.heap.size + 1 + 1 + 1 + 1, 1, none⟩ = some (.int .u32 u1) ∧ w'.cell? ⟨w.heap.size + 1 + 1 + 1 + 1, 2, none⟩ = some (.int .u32 u2) ∧ w'.cell? ⟨w.heap.size + 1 + 1 + 1 + 1, 3, none⟩ = some (.int .u32 u3) ∧ w'.cell? ⟨w.heap.size + 1 + 1 + 1 + 1, 4, none⟩ = some (.int .u32 u4) ∧ w'.cell? ⟨w.heap.size + 1 + 1 + 1 + 1, 5, none⟩ = some (.int .u32 u5)) (((try dsimp only); (repeat' apply And.intro); all_goals (repeat (first | (with_reducible assumption) | ((with_reducible refine keep_undrew ?_); (with_reducible assumption)) | (with_reducible refine keep_drew ?_) | (with_reducible refine keep_set _ (by first | (with_reducible assumption) | omega) ?_)))))
    (first
      | (go_at_call 17; (with_reducible refine (s3.out _).mono ?_); rintro rr w5 ⟨rfl, hb⟩; replace M := Lib.hid (M.out.below hb); clear hb m1 m2 m3 m4 m5 m6 kc kf kd ke; obtain ⟨m1, m2, m3, m4, m5, m6⟩ := (M.out.nth 0 rfl).six; have kc := (M.out.nth 2 rfl).2.1; have kf := (M.out.nth 2 rfl).2.2; have kd := (M.out.nth 1 rfl).2.1; have ke := (M.out.nth 1 rfl).2.2)
      | (go_at_call 17; (with_reducible refine (s4.out _).mono ?_); rintro rr w5 ⟨rfl, hb⟩; replace M := Lib.hid (M.out.below hb); clear hb m1 m2 m3 m4 m5 m6 kc kf kd ke; obtain ⟨m1, m2, m3, m4, m5, m6⟩ := (M.out.nth 0 rfl).six; have kc := (M.out.nth 2 rfl).2.1; have kf := (M.out.nth 2 rfl).2.2; have kd := (M.out.nth 1 rfl).2.1; have ke := (M.out.nth 1 rfl).2.2))
  replace M := Lib.hid ((M.out.set2 2 rfl (.float .f64 el) (.float .f64 eh)).set2 1 rfl (.float .f64 kl) (.float .f64 kh))
  clear m1 m2 m3 m4 m5 m6 kc kf kd ke
  revert M
  generalize ((((w5.setCell ⟨w.heap.size + 1 + 1, 0, none⟩ (.float .f64 el)).setCell ⟨w.heap.size + 1 + 1, 1, none⟩ (.float .f64 eh)).setCell ⟨w.heap.size + 1 + 1 + 1, 0, none⟩ (.float .f64 kl)).setCell ⟨w.heap.size + 1 + 1 + 1, 1, none⟩ (.float .f64 kh)) = W3
  intro M
  obtain ⟨k1, k2⟩ := (M.out.nth 4 rfl).two
  obtain ⟨k3, k4⟩ := (M.out.nth 3 rfl).two
  go_wp2_with fail
  refine (d1.out _).mono ?_
  rintro r v1 ⟨rfl, hb⟩
  replace M := Lib.hid ((M.out.below hb).made #[.float .f64 xl, .float .f64 xh] 24)
  clear hb k1 k2 k3 k4
  obtain ⟨k1, k2⟩ := (M.out.nth 5 rfl).two
  obtain ⟨k3, k4⟩ := (M.out.nth 4 rfl).two
  go_wp2_with fail
  refine (d2.out _).mono ?_
  rintro r v2 ⟨rfl, hb⟩
  replace M := Lib.hid ((M.out.below hb).made #[.float .f64 xl, .float .f64 xh] 24)
  clear hb k1 k2 k3 k4
  obtain ⟨k1, k2⟩ := (M.out.nth 6 rfl).two
  obtain ⟨k3, k4⟩ := (M.out.nth 4 rfl).two
  obtain ⟨k5, k6⟩ := (M.out.nth 3 rfl).two
  go_wp2_with fail
  refine (d3.out _).mono ?_
  rintro r v3 ⟨rfl, hb⟩
  replace M := Lib.hid ((M.out.below hb).made #[.float .f64 yl, .float .f64 yh] 24)
  clear hb k1 k2 k3 k4 k5 k6
  obtain ⟨k1, k2⟩ := (M.out.nth 7 rfl).two
  obtain ⟨k3, k4⟩ := (M.out.nth 5 rfl).two
  obtain ⟨k5, k6⟩ := (M.out.nth 4 rfl).two
  go_wp2_with fail
  refine (d4.out _).mono ?_
  rintro r v4 ⟨rfl, hb⟩
  replace M := Lib.hid ((M.out.below hb).made #[.float .f64 yl, .float .f64 yh] 24)
  clear hb k1 k2 k3 k4 k5 k6
  obtain ⟨k1, k2⟩ := (M.out.nth 3 rfl).two
  obtain ⟨k3, k4⟩ := (M.out.nth 2 rfl).two
  obtain ⟨k5, k6⟩ := (M.out.nth 1 rfl).two
  obtain ⟨k7, k8⟩ := (M.out.nth 0 rfl).two
  have hq := run_eq_iv6
  go_wp2_with fail
  refine (cA.out _).mono ?_
  rintro r v5 ⟨rfl, hb⟩
  replace M := Lib.hid (M.out.below hb)
  clear hb k1 k2 k3 k4 k5 k6 k7 k8
  go_wp2
  go_ret
  exact ⟨rfl, M.out.base⟩

set_option maxRecDepth 100000 in
set_option maxHeartbeats 4000000 in
theorem fres_odd (c0l c0h n0l n0h e0l e0h k0l k0h u0 u1 u2 u3 u4 u5 xl xh yl yh : Nat) (p q : Int) (w : World)
    (d1 : Hid (∀ w, Calls Tryz.prog 18 #[.agg #[.float .f64 c0l, .float .f64 c0h], .agg #[.float .f64 n0l, .float .f64 n0h]] w fun r w' => r = .returned (.tuple #[.agg #[.float .f64 xl, .float .f64 xh], .int .i64 p]) ∧ Below w.heap.size w w'))
    (d2 : Hid (∀ w, Calls Tryz.prog 19 #[.agg #[.float .f64 c0l, .float .f64 c0h], .agg #[.float .f64 n0l, .float .f64 n0h]] w fun r w' => r = .returned (.tuple #[.agg #[.float .f64 xl, .float .f64 xh], .int .i64 p]) ∧ Below w.heap.size w w'))
    (d3 : Hid (∀ w, Calls Tryz.prog 20 #[.agg #[.float .f64 c0l, .float .f64 c0h], .agg #[.float .f64 e0l, .float .f64 e0h], .agg #[.float .f64 k0l, .float .f64 k0h]] w fun r w' => r = .returned (.tuple #[.agg #[.float .f64 yl, .float .f64 yh], .int .i64 q]) ∧ Below w.heap.size w w'))
    (d4 : Hid (∀ w, Calls Tryz.prog 21 #[.agg #[.float .f64 c0l, .float .f64 c0h], .agg #[.float .f64 e0l, .float .f64 e0h], .agg #[.float .f64 k0l, .float .f64 k0h]] w fun r w' => r = .returned (.tuple #[.agg #[.float .f64 yl, .float .f64 yh], .int .i64 q]) ∧ Below w.heap.size w w'))
    (cA : Hid (∀ w, Calls Tryz.prog 22 #[] w fun r w' => r = .returned (.bool true) ∧ Below w.heap.size w w'))
    (q1 : Op.floatEq .f64 xl xl = true) (q2 : Op.floatEq .f64 xh xh = true) (q3 : Op.floatEq .f64 yl yl = true) (q4 : Op.floatEq .f64 yh yh = true)
    (t : ((u0 : Int) % 2 == 0) = false) :
    Calls Tryz.prog 5 #[.agg #[.float .f64 c0l, .float .f64 c0h], .agg #[.float .f64 n0l, .float .f64 n0h], .agg #[.float .f64 e0l, .float .f64 e0h], .agg #[.float .f64 k0l, .float .f64 k0h], .agg #[.int .u32 u0, .int .u32 u1, .int .u32 u2, .int .u32 u3, .int .u32 u4, .int .u32 u5]] w fun r w' => r = .returned (.bool true) ∧ Below w.heap.size w w' := by
  have M := Lib.hid ((((((Own.nil w).made #[.float .f64 c0l, .float .f64 c0h] 24).made #[.float .f64 n0l, .float .f64 n0h] 24).made #[.float .f64 e0l, .float .f64 e0h] 24).made #[.float .f64 k0l, .float .f64 k0h] 24).made #[.int .u32 u0, .int .u32 u1, .int .u32 u2, .int .u32 u3, .int .u32 u4, .int .u32 u5] 50)
  simp only [World.size_alloc] at M
  obtain ⟨m1, m2, m3, m4, m5, m6⟩ := (M.out.nth 0 rfl).six
  go_enter Tryz.func5, Tryz.ntmps5
  obtain ⟨k1, k2⟩ := (M.out.nth 4 rfl).two
  obtain ⟨k3, k4⟩ := (M.out.nth 3 rfl).two
  go_wp2_with fail
  refine (d1.out _).mono ?_
  rintro r v1 ⟨rfl, hb⟩
  replace M := Lib.hid ((M.out.below hb).made #[.float .f64 xl, .float .f64 xh] 24)
  clear hb k1 k2 k3 k4 m1 m2 m3 m4 m5 m6
  obtain ⟨k1, k2⟩ := (M.out.nth 5 rfl).two
  obtain ⟨k3, k4⟩ := (M.out.nth 4 rfl).two
  go_wp2_with fail
  refine (d2.out _).mono ?_
  rintro r v2 ⟨rfl, hb⟩
  replace M := Lib.hid ((M.out.below hb).made #[.float .f64 xl, .float .f64 xh] 24)
  clear hb k1 k2 k3 k4
  obtain ⟨k1, k2⟩ := (M.out.nth 6 rfl).two
  obtain ⟨k3, k4⟩ := (M.out.nth 4 rfl).two
  obtain ⟨k5, k6⟩ := (M.out.nth 3 rfl).two
  go_wp2_with fail
  refine (d3.out _).mono ?_
  rintro r v3 ⟨rfl, hb⟩
  replace M := Lib.hid ((M.out.below hb).made #[.float .f64 yl, .float .f64 yh] 24)
  clear hb k1 k2 k3 k4 k5 k6
  obtain ⟨k1, k2⟩ := (M.out.nth 7 rfl).two
  obtain ⟨k3, k4⟩ := (M.out.nth 5 rfl).two
  obtain ⟨k5, k6⟩ := (M.out.nth 4 rfl).two
  go_wp2_with fail
  refine (d4.out _).mono ?_
  rintro r v4 ⟨rfl, hb⟩
  replace M := Lib.hid ((M.out.below hb).made #[.float .f64 yl, .float .f64 yh] 24)
  clear hb k1 k2 k3 k4 k5 k6
  obtain ⟨k1, k2⟩ := (M.out.nth 3 rfl).two
  obtain ⟨k3, k4⟩ := (M.out.nth 2 rfl).two
  obtain ⟨k5, k6⟩ := (M.out.nth 1 rfl).two
  obtain ⟨k7, k8⟩ := (M.out.nth 0 rfl).two
  have hq := run_eq_iv6
  go_wp2_with fail
  refine (cA.out _).mono ?_
  rintro r v5 ⟨rfl, hb⟩
  replace M := Lib.hid (M.out.below hb)
  clear hb k1 k2 k3 k4 k5 k6 k7 k8
  go_wp2
  go_ret
  exact ⟨rfl, M.out.base⟩

end Go.Proofs.YtcfgahlaiiibiaaGreat

namespace Go.Proofs.YtcfgahlaiiibiaaGreat
open Go.RowKit

theorem eq_self {x : Nat} (lx : x < 18446744073709551616) (rx : rightB x = true) : Op.floatEq .f64 x x = true := by
  have h := order_eq x x lx lx rx rx
  rw [decide_eq_true rfl] at h
  exact h
theorem ok_parts {lo hi a b : Nat} (h : okB lo hi a b = true) : val lo ≤ val a ∧ val b ≤ val hi := by
  unfold okB at h
  simpa using h
theorem arg_in {a b : Nat} {A : Res} (la : a < 18446744073709551616) (lb : b < 18446744073709551616) (h : ivR a b = true) (ho : okB A.lo A.hi a b = true) : In ⟨0, a, b⟩ A := ⟨⟨rfl, la, lb, h⟩, (ok_parts ho).1, (ok_parts ho).2⟩
theorem lt_not {a lo : Nat} (la : a < 18446744073709551616) (ll : lo < 18446744073709551616) (ra : rightB a = true) (rl : rightB lo = true) : (FloatKind.f64.format.order a lo == some Ordering.lt) = !decide (val lo ≤ val a) := by
  rw [order_lt a lo la ll ra rl]
  by_cases g : val lo ≤ val a
  · rw [decide_eq_true g, decide_eq_false (by omega)]; rfl
  · rw [decide_eq_false g, decide_eq_true (by omega)]; rfl
theorem gt_not {a hi : Nat} (la : a < 18446744073709551616) (lh : hi < 18446744073709551616) (ra : rightB a = true) (rh : rightB hi = true) : (FloatKind.f64.format.order a hi == some Ordering.gt) = !decide (val a ≤ val hi) := by
  rw [order_gt a hi la lh ra rh]
  by_cases g : val a ≤ val hi
  · rw [decide_eq_true g, decide_eq_false (by omega)]; rfl
  · rw [decide_eq_false g, decide_eq_true (by omega)]; rfl

abbrev DielC (f : FuncId) (al ah bl bh l h : Nat) (e : Int) : Prop := ∀ w, Calls Tryz.prog f #[.agg #[.float .f64 al, .float .f64 ah], .agg #[.float .f64 bl, .float .f64 bh]] w fun r w' => r = .returned (.tuple #[.agg #[.float .f64 l, .float .f64 h], .int .i64 e]) ∧ Below w.heap.size w w'
abbrev CondC (f : FuncId) (al ah bl bh cl ch l h : Nat) (e : Int) : Prop := ∀ w, Calls Tryz.prog f #[.agg #[.float .f64 al, .float .f64 ah], .agg #[.float .f64 bl, .float .f64 bh], .agg #[.float .f64 cl, .float .f64 ch]] w fun r w' => r = .returned (.tuple #[.agg #[.float .f64 l, .float .f64 h], .int .i64 e]) ∧ Below w.heap.size w w'

theorem pair_diel (al ah bl bh : Nat) (h0 : al < 18446744073709551616) (h1 : ah < 18446744073709551616) (h2 : bl < 18446744073709551616) (h3 : bh < 18446744073709551616) :
    ∃ l h e, Op.floatEq .f64 l l = true ∧ Op.floatEq .f64 h h = true ∧ DielC 18 al ah bl bh l h e ∧ DielC 19 al ah bl bh l h e := by
  have z : Op.floatEq .f64 0 0 = true := eq_self (by decide) (by decide)
  cases hR : (ivR al ah && ivR bl bh)
  · refine ⟨0, 0, 20, z, z, fun w => diel_fail al ah bl bh 20 rfl w (Lib.hid fun q v h => ?_), fun w => rdiel_bad1 al ah bl bh _ _ w (Lib.hid hR) (Lib.hid fun v => rRight_any al ah v h0 h1) (Lib.hid fun v => rRight_any bl bh v h2 h3)⟩
    have c := check2_walk q al ah 0 4607182418800017408 bl bh 4607463893776728064 4616189618054758400 _ _ _ _ _ _ v h (Lib.hid fun w => ivRight_any al ah w h0 h1) (Lib.hid fun w => ivRight_any bl bh w h2 h3) rfl rfl rfl rfl
    rw [hR, if_neg Bool.false_ne_true] at c
    exact c
  · rw [Bool.and_eq_true] at hR
    obtain ⟨r0, r1⟩ := hR
    obtain ⟨a1, a2, a3⟩ := ivR_parts r0
    obtain ⟨b1, b2, b3⟩ := ivR_parts r1
    cases hO : (okB 0 4607182418800017408 al ah && okB 4607463893776728064 4616189618054758400 bl bh)
    · refine ⟨0, 0, 2, z, z, fun w => diel_fail al ah bl bh 2 rfl w (Lib.hid fun q v h => ?_), fun w => rdiel_bad2 al ah bl bh _ _ w (Lib.hid hO) (Lib.hid fun v => by have c := rRight_any al ah v h0 h1; rw [r0] at c; exact c) (Lib.hid fun v => by have c := rRight_any bl bh v h2 h3; rw [r1] at c; exact c)
        (Lib.hid fun v => within6_any al ah 0 4607182418800017408 v h0 h1 a1 a2 (by decide) (by decide) (by decide) (by decide)) (Lib.hid fun v => within6_any bl bh 4607463893776728064 4616189618054758400 v h2 h3 b1 b2 (by decide) (by decide) (by decide) (by decide))⟩
      have c := check2_walk q al ah 0 4607182418800017408 bl bh 4607463893776728064 4616189618054758400 true true _ _ _ _ v h (Lib.hid fun w => by have c := ivRight_any al ah w h0 h1; rw [r0] at c; exact c) (Lib.hid fun w => by have c := ivRight_any bl bh w h2 h3; rw [r1] at c; exact c) rfl rfl rfl rfl
      rw [lt_not h0 (by decide) a1 (by decide), gt_not h1 (by decide) a2 (by decide), lt_not h2 (by decide) b1 (by decide), gt_not h3 (by decide) b2 (by decide), if_pos (show (true && true) = true from rfl), if_pos ?_] at c
      · exact c
      · unfold okB at hO
        revert hO
        cases decide (val 0 ≤ val al) <;> cases decide (val ah ≤ val 4607182418800017408) <;> cases decide (val 4607463893776728064 ≤ val bl) <;> cases decide (val bh ≤ val 4616189618054758400) <;> simp
    · rw [Bool.and_eq_true] at hO
      have i0 : In ⟨0, al, ah⟩ bigC := arg_in h0 h1 r0 hO.1
      have i1 : In ⟨0, bl, bh⟩ bigN := arg_in h2 h3 r1 hO.2
      have D := (Di.parts Di.big i0 i1).out'.fit
      exact ⟨_, _, 0, eq_self D.lo D.rlo, eq_self D.hi D.rhi, fun w => diel_any i0 i1 w, fun w => rdiel_any i0 i1 w⟩

theorem pair_cond (al ah bl bh cl ch : Nat) (h0 : al < 18446744073709551616) (h1 : ah < 18446744073709551616) (h2 : bl < 18446744073709551616) (h3 : bh < 18446744073709551616) (h4 : cl < 18446744073709551616) (h5 : ch < 18446744073709551616) :
    ∃ l h e, Op.floatEq .f64 l l = true ∧ Op.floatEq .f64 h h = true ∧ CondC 20 al ah bl bh cl ch l h e ∧ CondC 21 al ah bl bh cl ch l h e := by
  have z : Op.floatEq .f64 0 0 = true := eq_self (by decide) (by decide)
  cases hR : (ivR al ah && ivR bl bh && ivR cl ch)
  · refine ⟨0, 0, 20, z, z, fun w => cond_fail al ah bl bh cl ch 20 rfl w (Lib.hid fun q v h => ?_), fun w => rcond_bad1 al ah bl bh cl ch _ _ _ w (Lib.hid hR) (Lib.hid fun v => rRight_any al ah v h0 h1) (Lib.hid fun v => rRight_any bl bh v h2 h3) (Lib.hid fun v => rRight_any cl ch v h4 h5)⟩
    have c := check3_walk q al ah 0 4607182418800017408 bl bh 4589168020290535424 4625196817309499392 cl ch 4589168020290535424 4625196817309499392 _ _ _ _ _ _ _ _ _ v h (Lib.hid fun w => ivRight_any al ah w h0 h1) (Lib.hid fun w => ivRight_any bl bh w h2 h3) (Lib.hid fun w => ivRight_any cl ch w h4 h5) rfl rfl rfl rfl rfl rfl
    rw [hR, if_neg Bool.false_ne_true] at c
    exact c
  · rw [Bool.and_eq_true, Bool.and_eq_true] at hR
    obtain ⟨⟨r0, r1⟩, r2⟩ := hR
    obtain ⟨a1, a2, a3⟩ := ivR_parts r0
    obtain ⟨b1, b2, b3⟩ := ivR_parts r1
    obtain ⟨c1, c2, c3⟩ := ivR_parts r2
    cases hO : (okB 0 4607182418800017408 al ah && okB 4589168020290535424 4625196817309499392 bl bh && okB 4589168020290535424 4625196817309499392 cl ch)
    · refine ⟨0, 0, 2, z, z, fun w => cond_fail al ah bl bh cl ch 2 rfl w (Lib.hid fun q v h => ?_), fun w => rcond_bad2 al ah bl bh cl ch _ _ _ w (Lib.hid hO) (Lib.hid fun v => by have c := rRight_any al ah v h0 h1; rw [r0] at c; exact c) (Lib.hid fun v => by have c := rRight_any bl bh v h2 h3; rw [r1] at c; exact c) (Lib.hid fun v => by have c := rRight_any cl ch v h4 h5; rw [r2] at c; exact c)
        (Lib.hid fun v => within6_any al ah 0 4607182418800017408 v h0 h1 a1 a2 (by decide) (by decide) (by decide) (by decide)) (Lib.hid fun v => within6_any bl bh 4589168020290535424 4625196817309499392 v h2 h3 b1 b2 (by decide) (by decide) (by decide) (by decide)) (Lib.hid fun v => within6_any cl ch 4589168020290535424 4625196817309499392 v h4 h5 c1 c2 (by decide) (by decide) (by decide) (by decide))⟩
      have c := check3_walk q al ah 0 4607182418800017408 bl bh 4589168020290535424 4625196817309499392 cl ch 4589168020290535424 4625196817309499392 true true true _ _ _ _ _ _ v h (Lib.hid fun w => by have c := ivRight_any al ah w h0 h1; rw [r0] at c; exact c) (Lib.hid fun w => by have c := ivRight_any bl bh w h2 h3; rw [r1] at c; exact c) (Lib.hid fun w => by have c := ivRight_any cl ch w h4 h5; rw [r2] at c; exact c) rfl rfl rfl rfl rfl rfl
      rw [lt_not h0 (by decide) a1 (by decide), gt_not h1 (by decide) a2 (by decide), lt_not h2 (by decide) b1 (by decide), gt_not h3 (by decide) b2 (by decide), lt_not h4 (by decide) c1 (by decide), gt_not h5 (by decide) c2 (by decide), if_pos (show (true && true && true) = true from rfl), if_pos ?_] at c
      · exact c
      · unfold okB at hO
        revert hO
        cases decide (val 0 ≤ val al) <;> cases decide (val ah ≤ val 4607182418800017408) <;> cases decide (val 4589168020290535424 ≤ val bl) <;> cases decide (val bh ≤ val 4625196817309499392) <;> cases decide (val 4589168020290535424 ≤ val cl) <;> cases decide (val ch ≤ val 4625196817309499392) <;> simp
    · rw [Bool.and_eq_true, Bool.and_eq_true] at hO
      have i0 : In ⟨0, al, ah⟩ bigC := arg_in h0 h1 r0 hO.1.1
      have i1 : In ⟨0, bl, bh⟩ bigM := arg_in h2 h3 r1 hO.1.2
      have i2 : In ⟨0, cl, ch⟩ bigM := arg_in h4 h5 r2 hO.2
      by_cases he : (Co.r33 ⟨0, al, ah⟩ ⟨0, bl, bh⟩ ⟨0, cl, ch⟩).e = 0
      · have D := ((Co.parts Co.big i0 i1 i2).fits i0.fit i1.fit i2.fit).last he
        exact ⟨_, _, 0, eq_self D.f'.lo D.f'.rlo, eq_self D.f'.hi D.f'.rhi, fun w => cond_some i0 i1 i2 w he, fun w => rcond_some i0 i1 i2 w he⟩
      · exact ⟨0, 0, _, z, z, fun w => cond_none i0 i1 i2 w he, fun w => rcond_none i0 i1 i2 w he⟩

theorem fresTells_any (c0l c0h n0l n0h e0l e0h k0l k0h u0 u1 u2 u3 u4 u5 : Nat) (w : World) (b0 : c0l < 18446744073709551616) (b1 : c0h < 18446744073709551616) (b2 : n0l < 18446744073709551616) (b3 : n0h < 18446744073709551616) (b4 : e0l < 18446744073709551616) (b5 : e0h < 18446744073709551616) (b6 : k0l < 18446744073709551616) (b7 : k0h < 18446744073709551616)
    (g0 : u0 < 4294967296) (g1 : u1 < 4294967296) (g2 : u2 < 4294967296) (g3 : u3 < 4294967296) (g4 : u4 < 4294967296) (g5 : u5 < 4294967296) :
    Calls Tryz.prog 5 #[.agg #[.float .f64 c0l, .float .f64 c0h], .agg #[.float .f64 n0l, .float .f64 n0h], .agg #[.float .f64 e0l, .float .f64 e0h], .agg #[.float .f64 k0l, .float .f64 k0h], .agg #[.int .u32 u0, .int .u32 u1, .int .u32 u2, .int .u32 u3, .int .u32 u4, .int .u32 u5]] w fun r w' => r = .returned (.bool true) ∧ Below w.heap.size w w' := by
  cases ev : ((u0 : Int) % 2 == 0)
  · obtain ⟨xl, xh, p, x1, x2, x3, x4⟩ := pair_diel c0l c0h n0l n0h b0 b1 b2 b3
    obtain ⟨yl, yh, q, y1, y2, y3, y4⟩ := pair_cond c0l c0h e0l e0h k0l k0h b0 b1 b4 b5 b6 b7
    exact fres_odd c0l c0h n0l n0h e0l e0h k0l k0h u0 u1 u2 u3 u4 u5 xl xh yl yh p q w (Lib.hid x3) (Lib.hid x4) (Lib.hid y3) (Lib.hid y4) (Lib.hid awake6_any) x1 x2 y1 y2 ev
  · obtain ⟨c, ic, s1⟩ := span_any 0 4607182418800017408 u0 u1 (by decide) (by decide) (by decide) (by decide) (by decide +kernel) (by decide +kernel) (by decide +kernel) g0 g1
    obtain ⟨n, ni, s2⟩ := span_any 4607463893776728064 4616189618054758400 u2 u3 (by decide) (by decide) (by decide) (by decide) (by decide +kernel) (by decide +kernel) (by decide +kernel) g2 g3
    obtain ⟨e, ie, s3⟩ := span_any 4589168020290535424 4625196817309499392 u3 u4 (by decide) (by decide) (by decide) (by decide) (by decide +kernel) (by decide +kernel) (by decide +kernel) g3 g4
    obtain ⟨k, ik, s4⟩ := span_any 4589168020290535424 4625196817309499392 u2 u5 (by decide) (by decide) (by decide) (by decide) (by decide +kernel) (by decide +kernel) (by decide +kernel) g2 g5
    obtain ⟨xl, xh, p, x1, x2, x3, x4⟩ := pair_diel c.lo c.hi n.lo n.hi ic.fit.lo ic.fit.hi ni.fit.lo ni.fit.hi
    obtain ⟨yl, yh, q, y1, y2, y3, y4⟩ := pair_cond c.lo c.hi e.lo e.hi k.lo k.hi ic.fit.lo ic.fit.hi ie.fit.lo ie.fit.hi ik.fit.lo ik.fit.hi
    exact fres_even c0l c0h n0l n0h e0l e0h k0l k0h u0 u1 u2 u3 u4 u5 c.lo c.hi n.lo n.hi e.lo e.hi k.lo k.hi xl xh yl yh p q w (Lib.hid s1) (Lib.hid s2) (Lib.hid s3) (Lib.hid s4) (Lib.hid x3) (Lib.hid x4) (Lib.hid y3) (Lib.hid y4) (Lib.hid awake6_any) x1 x2 y1 y2 ev

end Go.Proofs.YtcfgahlaiiibiaaGreat
