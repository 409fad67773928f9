/- What the claim stands on, part 16: QFD. -/
import Derived.Test.YtnaomilkgfkegaaGreatWA13
import Derived.Test.YtnaomilkgfkegaaGreatWA14
set_option maxHeartbeats 4000000
set_option maxRecDepth 100000
namespace Go.Proofs.YtnaomilkgfkegaaGreat
section
open Go.RowKit
theorem calc_sqrt {a:Res} (fa:Fit a) (fr:Fit (sqrtR a)) (pb:Nat):Calc1 30 pb a.lo a.hi (sqrtR a).lo (sqrtR a).hi:=fun v h=>by
 have c:=cSqrt_any 0 a.lo a.hi pb 0 v fa.lo fa.hi h.pc h.pf
 rw [step_one fa] at c
 exact told_none fr.e c
theorem calc_max {a b:Res} (fa:Fit a) (fb:Fit b) (fr:Fit (maxR a b)) (pb:Nat):Calc2 33 pb a.lo a.hi b.lo b.hi (maxR a b).lo (maxR a b).hi:=fun v h=>by
 have c:=cMax_any 0 a.lo a.hi b.lo b.hi pb 0 v fa.lo fa.hi fb.lo fb.hi h.pc h.pf
 rw [step_two fa fb] at c
 exact told_none fr.e c
theorem div_told {a b:Res} (fa:Fit a) (fb:Fit b) (pb:Nat):CD2 60 pb 0 (divR a b).e a.lo a.hi b.lo b.hi (divR a b).lo (divR a b).hi:=fun v h=>by
 have c:=cDiv_any 0 a.lo a.hi b.lo b.hi pb 0 v fa.lo fa.hi fb.lo fb.hi h.pc h.pf
 rw [step_two fa fb] at c
 exact c.mono fun _ _ ⟨h1,h2⟩=>⟨h1,h2⟩
theorem div_nil {a b:Res} (fa:Fit a) (fb:Fit b) (h:(divR a b).e≠0):(divR a b).lo=0∧(divR a b).hi=0:=by
 have n:Nil0 (askR 0 a.lo a.hi b.lo b.hi 3):=ask_nil 0 a.lo a.hi b.lo b.hi 3 (by decide)
 have e:askR 0 a.lo a.hi b.lo b.hi 3=divR a b:=by
   show stepI 0 (ivR a.lo a.hi&&ivR b.lo b.hi) (divR a b)=divR a b
   exact step_two fa fb _
 rw [e] at n
 exact n h
theorem ratio_any {a b:Res} (fa:Fit a) (fb:Fit b) (fs:Fit (subR a b)) (ft:Fit (addR a b)) (pb:Nat):CD2 209 pb 0 (divR (subR a b) (addR a b)).e a.lo a.hi b.lo b.hi (divR (subR a b) (addR a b)).lo (divR (subR a b) (addR a b)).hi:=fun v h =>
 ratio_walk _ _ _ _ _ _ _ _ _ _ 0 0 0 _ pb v h (Lib.hid (calc_sub fa fb fs pb)) (Lib.hid (calc_add fa fb ft pb)) (Lib.hid (div_told fs ft pb))
theorem ratio_ok {a b:Res} (fa:Fit a) (fb:Fit b) (fs:Fit (subR a b)) (ft:Fit (addR a b)) (fr:Fit (divR (subR a b) (addR a b))) (pb:Nat):CD2 209 pb 0 0 a.lo a.hi b.lo b.hi (divR (subR a b) (addR a b)).lo (divR (subR a b) (addR a b)).hi:=by
 have h:=ratio_any fa fb fs ft pb
 rw [fr.e] at h
 exact h
theorem ratio_bad {a b:Res} (fa:Fit a) (fb:Fit b) (fs:Fit (subR a b)) (ft:Fit (addR a b)) (he:(divR (subR a b) (addR a b)).e≠0) (pb:Nat):CD2 209 pb 0 (divR (subR a b) (addR a b)).e a.lo a.hi b.lo b.hi 0 0:=by
 have h:=ratio_any fa fb fs ft pb
 rw [(div_nil fs ft he).1,(div_nil fs ft he).2] at h
 exact h
theorem clamped_fit {a:Res} (f:Fit a) (v:World):Calls Tryz.prog 202 #[.agg #[a.lo,a.hi]] v (Rt (.agg #[.float .f64 (clampR a).lo,.float .f64 (clampR a).hi]) v):=clamped_any a.lo a.hi v f.lo f.hi f.rlo f.rhi
theorem clamped_nil (v:World):Calls Tryz.prog 202 #[.agg #[(),()]] v (Rt (.agg #[(),()]) v):=by
 have h:=clamped_any 0 0 v (by decide) (by decide) (by decide) (by decide)
 rw [show clampW 0=0 from by decide +kernel] at h
 exact h
theorem lt_in {a A:Res} (i:In a A) (fA:Fit A):(FloatKind.f64.format.order a.lo A.lo == some Ordering.lt)=false:=by
 rw [order_lt a.lo A.lo i.fit.lo fA.lo i.fit.rlo fA.rlo]; have:=i.lo; exact decide_eq_false (by omega)
theorem gt_in {a A:Res} (i:In a A) (fA:Fit A):(FloatKind.f64.format.order a.hi A.hi == some Ordering.gt)=false:=by
 rw [order_gt a.hi A.hi i.fit.hi fA.hi i.fit.rhi fA.rhi]; have:=i.hi; exact decide_eq_false (by omega)
theorem right_in {a:Res} (f:Fit a) (w:World):Calls Tryz.prog 46 #[.agg #[a.lo,a.hi]] w (Rt (.bool true) w):=by
 have h:=ivRight_any a.lo a.hi w f.lo f.hi
 rw [f.iv] at h
 exact h
theorem c_fit:Fit bigC:=.of (by decide +kernel)
theorem n_fit:Fit bigN:=.of (by decide +kernel)
theorem m_fit:Fit bigM:=.of (by decide +kernel)
theorem check2_ok {c n:Res} (i0:In c bigC) (i1:In n bigN) (q:Nat) (v:World) (h:Has1 v (q,#[c.lo,c.hi,(),(4607182418800017408:Nat),n.lo,n.hi,(4607463893776728064:Nat),(4616189618054758400:Nat)])) :
   Calls Tryz.prog 201 #[.slice (some ⟨q,0,none⟩) 2 2] v (Rt (.int .i64 0) v):=
 check2_walk q c.lo c.hi 0 4607182418800017408 n.lo n.hi 4607463893776728064 4616189618054758400 true true false false false false v h (Lib.hid (right_in i0.fit)) (Lib.hid (right_in i1.fit)) (lt_in i0 c_fit) (gt_in i0 c_fit) (lt_in i1 n_fit) (gt_in i1 n_fit)
theorem check3_ok {c h k:Res} (i0:In c bigC) (i1:In h bigM) (i2:In k bigM) (q:Nat) (v:World) (hA:Has1 v (q,#[c.lo,c.hi,(),(4607182418800017408:Nat),h.lo,h.hi,(4589168020290535424:Nat),(4625196817309499392:Nat),k.lo,k.hi,(4589168020290535424:Nat),(4625196817309499392:Nat)])) :
   Calls Tryz.prog 201 #[.slice (some ⟨q,0,none⟩) 3 3] v (Rt (.int .i64 0) v):=
 check3_walk q c.lo c.hi 0 4607182418800017408 h.lo h.hi 4589168020290535424 4625196817309499392 k.lo k.hi 4589168020290535424 4625196817309499392 true true true false false false false false false v hA (Lib.hid (right_in i0.fit)) (Lib.hid (right_in i1.fit)) (Lib.hid (right_in i2.fit)) (lt_in i0 c_fit) (gt_in i0 c_fit) (lt_in i1 m_fit) (gt_in i1 m_fit) (lt_in i2 m_fit) (gt_in i2 m_fit)
theorem ne_mul {e:Int} (he:e≠0) {al ah bl bh:Nat} (la:al < 18446744073709551616) (ha:ah < 18446744073709551616) (lb:bl < 18446744073709551616) (hb:bh < 18446744073709551616) (pb:Nat) (v:World) (h:Has1 v (pb,#[.int .i64 e])) :
   Calls Tryz.prog 32 #[.pointer (some ⟨pb,0,none⟩),.agg #[al,ah],.agg #[bl,bh]] v fun r w'=>r = .returned (.agg #[(),()])∧Put ⟨pb,0,none⟩ (.int .i64 e) v w':=by
 have c:=cMul_any e al ah bl bh pb 0 v la ha lb hb h.pc h.pf
 rw [stepI_err _ _ _ (by simpa using he)] at c
 exact c.mono fun _ _ ⟨h1,h2⟩=>⟨h1,h2⟩
theorem ne_add {e:Int} (he:e≠0) {al ah bl bh:Nat} (la:al < 18446744073709551616) (ha:ah < 18446744073709551616) (lb:bl < 18446744073709551616) (hb:bh < 18446744073709551616) (pb:Nat) (v:World) (h:Has1 v (pb,#[.int .i64 e])) :
   Calls Tryz.prog 103 #[.pointer (some ⟨pb,0,none⟩),.agg #[al,ah],.agg #[bl,bh]] v fun r w'=>r = .returned (.agg #[(),()])∧Put ⟨pb,0,none⟩ (.int .i64 e) v w':=by
 have c:=cAdd_any e al ah bl bh pb 0 v la ha lb hb h.pc h.pf
 rw [stepI_err _ _ _ (by simpa using he)] at c
 exact c.mono fun _ _ ⟨h1,h2⟩=>⟨h1,h2⟩
theorem diel_any {c n:Res} (i0:In c bigC) (i1:In n bigN) (w:World) :
   Calls Tryz.prog 188 #[.agg #[c.lo,c.hi],.agg #[n.lo,n.hi]] w (Rt (.tuple #[.agg #[.float .f64 (Di.out c n).lo,.float .f64 (Di.out c n).hi],true]) w):=by
 have P:=Di.parts Di.big i0 i1
 have D:=P.fits i0.fit i1.fit
 exact diel_walk c.lo c.hi n.lo n.hi (Di.s2 c n).lo (Di.s2 c n).hi (Di.s3 c n).lo (Di.s3 c n).hi (Di.s4 c n).lo (Di.s4 c n).hi (Di.s5 c n).lo (Di.s5 c n).hi (Di.g c n).lo (Di.g c n).hi (Di.more c n).lo (Di.more c n).hi (Di.less c n).lo (Di.less c n).hi (Di.pq c n).lo (Di.pq c n).hi (Di.p c n).lo (Di.p c n).hi (Di.m11 c n).lo (Di.m11 c n).hi (Di.over c n).lo (Di.over c n).hi (Di.m13 c n).lo (Di.m13 c n).hi (Di.under c n).lo (Di.under c n).hi (Di.qq c n).lo (Di.qq c n).hi (Di.q c n).lo (Di.q c n).hi (Di.hp c n).lo (Di.hp c n).hi (Di.oq c n).lo (Di.oq c n).hi (Di.f c n).lo (Di.f c n).hi (Di.out c n).lo (Di.out c n).hi w
   (Lib.hid fun q v h=>check2_ok i0 i1 q v h)
   (Lib.hid fun pb=>calc_num (one_fit (by decide) (by decide):Fit (oneR 4607182418800017408)) pb)
   (Lib.hid fun pb=>calc_sqr D.fn D.s2' pb)
   (Lib.hid fun pb=>calc_sub D.s2' (one_fit (by decide) (by decide):Fit (oneR 4607182418800017408)) D.s3' pb)
   (Lib.hid fun pb=>calc_sqr D.fc D.s4' pb)
   (Lib.hid fun pb=>calc_add D.s3' D.s4' D.s5' pb)
   (Lib.hid fun pb=>calc_sqrt D.s5' D.g' pb)
   (Lib.hid fun pb=>calc_add D.g' D.fc D.more' pb)
   (Lib.hid fun pb=>calc_sub D.g' D.fc D.less' pb)
   (Lib.hid fun pb=>calc_div D.less' D.more' D.pq' pb)
   (Lib.hid fun pb=>calc_sqr D.pq' D.p' pb)
   (Lib.hid fun pb=>calc_mul D.fc D.more' D.m11' pb)
   (Lib.hid fun pb=>calc_sub D.m11' (one_fit (by decide) (by decide):Fit (oneR 4607182418800017408)) D.over' pb)
   (Lib.hid fun pb=>calc_mul D.fc D.less' D.m13' pb)
   (Lib.hid fun pb=>calc_add D.m13' (one_fit (by decide) (by decide):Fit (oneR 4607182418800017408)) D.under' pb)
   (Lib.hid fun pb=>calc_div D.over' D.under' D.qq' pb)
   (Lib.hid fun pb=>calc_sqr D.qq' D.q' pb)
   (Lib.hid fun pb=>calc_num (one_fit (by decide) (by decide):Fit (oneR 4602678819172646912)) pb)
   (Lib.hid fun pb=>calc_mul (one_fit (by decide) (by decide):Fit (oneR 4602678819172646912)) D.p' D.hp' pb)
   (Lib.hid fun pb=>calc_add (one_fit (by decide) (by decide):Fit (oneR 4607182418800017408)) D.q' D.oq' pb)
   (Lib.hid fun pb=>calc_mul D.hp' D.oq' D.f' pb)
   (Lib.hid fun v=>clamped_fit D.f' v)
theorem cond_some {c h k:Res} (i0:In c bigC) (i1:In h bigM) (i2:In k bigM) (w:World) (he:(Co.r33 c h k).e=0) :
   Calls Tryz.prog 191 #[.agg #[c.lo,c.hi],.agg #[h.lo,h.hi],.agg #[k.lo,k.hi]] w (Rt (.tuple #[.agg #[.float .f64 (Co.f c h k).lo,.float .f64 (Co.f c h k).hi],true]) w):=by
 have P:=Co.parts Co.big i0 i1 i2
 have D:=P.fits i0.fit i1.fit i2.fit
 have L:=D.last he
 exact cond_walk c.lo c.hi h.lo h.hi k.lo k.hi (Co.c2 c h k).lo (Co.c2 c h k).hi (Co.s3 c h k).lo (Co.s3 c h k).hi (Co.s2 c h k).lo (Co.s2 c h k).hi (Co.e2 c h k).lo (Co.e2 c h k).hi (Co.k2 c h k).lo (Co.k2 c h k).hi (Co.ek c h k).lo (Co.ek c h k).hi (Co.e2 c h k).lo (Co.e2 c h k).hi (Co.k2 c h k).lo (Co.k2 c h k).hi (Co.t11 c h k).lo (Co.t11 c h k).hi (Co.t0 c h k).lo (Co.t0 c h k).hi (Co.q13 c h k).lo (Co.q13 c h k).hi (Co.m15 c h k).lo (Co.m15 c h k).hi (Co.a16 c h k).lo (Co.a16 c h k).hi (Co.ab c h k).lo (Co.ab c h k).hi (Co.a18 c h k).lo (Co.a18 c h k).hi (Co.x20 c h k).lo (Co.x20 c h k).hi (Co.m21 c h k).lo (Co.m21 c h k).hi (Co.a c h k).lo (Co.a c h k).hi (Co.t1 c h k).lo (Co.t1 c h k).hi (Co.m25 c h k).lo (Co.m25 c h k).hi (Co.t2 c h k).lo (Co.t2 c h k).hi (Co.r27 c h k).lo (Co.r27 c h k).hi (Co.rs c h k).lo (Co.rs c h k).hi (Co.m29 c h k).lo (Co.m29 c h k).hi (Co.q30 c h k).lo (Co.q30 c h k).hi (Co.t3 c h k).lo (Co.t3 c h k).hi (Co.t4 c h k).lo (Co.t4 c h k).hi (Co.r33 c h k).lo (Co.r33 c h k).hi (Co.m34 c h k).lo (Co.m34 c h k).hi (Co.rp c h k).lo (Co.rp c h k).hi (Co.a36 c h k).lo (Co.a36 c h k).hi (Co.f c h k).lo (Co.f c h k).hi 0 w
   (Lib.hid fun q v h=>check3_ok i0 i1 i2 q v h)
   (Lib.hid fun pb=>calc_num (one_fit (by decide) (by decide):Fit (oneR 4602678819172646912)) pb)
   (Lib.hid fun pb=>calc_sqr D.fc D.c2' pb)
   (Lib.hid fun pb=>calc_num (one_fit (by decide) (by decide):Fit (oneR 4607182418800017408)) pb)
   (Lib.hid fun pb=>calc_sub (one_fit (by decide) (by decide):Fit (oneR 4607182418800017408)) D.c2' D.s3' pb)
   (Lib.hid fun v=>clamped_fit D.s3' v)
   (Lib.hid fun pb=>calc_sqr D.fh D.e2' pb)
   (Lib.hid fun pb=>calc_sqr D.fk D.k2' pb)
   (Lib.hid fun pb=>calc_mul D.e2' D.k2' D.ek' pb)
   (Lib.hid fun pb=>calc_sqr D.fh D.e2' pb)
   (Lib.hid fun pb=>calc_sqr D.fk D.k2' pb)
   (Lib.hid fun pb=>calc_sub D.e2' D.k2' D.t11' pb)
   (Lib.hid fun pb=>calc_sub D.t11' D.s2' D.t0' pb)
   (Lib.hid fun pb=>calc_sqr D.t0' D.q13' pb)
   (Lib.hid fun pb=>calc_num (one_fit (by decide) (by decide):Fit (oneR 4616189618054758400)) pb)
   (Lib.hid fun pb=>calc_mul (one_fit (by decide) (by decide):Fit (oneR 4616189618054758400)) D.ek' D.m15' pb)
   (Lib.hid fun pb=>calc_add D.q13' D.m15' D.a16' pb)
   (Lib.hid fun pb=>calc_sqrt D.a16' D.ab' pb)
   (Lib.hid fun pb=>calc_add D.ab' D.t0' D.a18' pb)
   (Lib.hid fun pb=>calc_num (one_fit (by decide) (by decide):Fit (oneR 0)) pb)
   (Lib.hid fun pb=>calc_max D.a18' (one_fit (by decide) (by decide):Fit (oneR 0)) D.x20' pb)
   (Lib.hid fun pb=>calc_mul (one_fit (by decide) (by decide):Fit (oneR 4602678819172646912)) D.x20' D.m21' pb)
   (Lib.hid fun pb=>calc_sqrt D.m21' D.a' pb)
   (Lib.hid fun pb=>calc_add D.ab' D.c2' D.t1' pb)
   (Lib.hid fun pb=>calc_num (one_fit (by decide) (by decide):Fit (oneR 4611686018427387904)) pb)
   (Lib.hid fun pb=>calc_mul (one_fit (by decide) (by decide):Fit (oneR 4611686018427387904)) D.a' D.m25' pb)
   (Lib.hid fun pb=>calc_mul D.m25' D.fc D.t2' pb)
   (Lib.hid fun pb v h=>ratio_ok D.t1' D.t2' D.n27' D.d27' D.r27' pb v h)
   (Lib.hid fun v=>clamped_fit D.r27' v)
   (Lib.hid fun pb=>calc_mul D.c2' D.ab' D.m29' pb)
   (Lib.hid fun pb=>calc_sqr D.s2' D.q30' pb)
   (Lib.hid fun pb=>calc_add D.m29' D.q30' D.t3' pb)
   (Lib.hid fun pb=>calc_mul D.t2' D.s2' D.t4' pb)
   (Lib.hid fun pb v h=>ratio_ok D.t3' D.t4' D.n33' D.d33' L.r33' pb v h)
   (Lib.hid fun pb=>calc_mul D.rs' L.r33' L.m34' pb)
   (Lib.hid fun v=>clamped_fit L.m34' v)
   (Lib.hid fun pb=>calc_add D.rs' L.rp' L.a36' pb)
   (Lib.hid fun pb=>calc_mul (one_fit (by decide) (by decide):Fit (oneR 4602678819172646912)) L.a36' L.f' pb)
theorem cond_none {c h k:Res} (i0:In c bigC) (i1:In h bigM) (i2:In k bigM) (w:World) (he:(Co.r33 c h k).e≠0) :
   Calls Tryz.prog 191 #[.agg #[c.lo,c.hi],.agg #[h.lo,h.hi],.agg #[k.lo,k.hi]] w (Rt (.tuple #[.agg #[(),()],.int .i64 (Co.r33 c h k).e]) w):=by
 have P:=Co.parts Co.big i0 i1 i2
 have D:=P.fits i0.fit i1.fit i2.fit
 exact cond_walk c.lo c.hi h.lo h.hi k.lo k.hi (Co.c2 c h k).lo (Co.c2 c h k).hi (Co.s3 c h k).lo (Co.s3 c h k).hi (Co.s2 c h k).lo (Co.s2 c h k).hi (Co.e2 c h k).lo (Co.e2 c h k).hi (Co.k2 c h k).lo (Co.k2 c h k).hi (Co.ek c h k).lo (Co.ek c h k).hi (Co.e2 c h k).lo (Co.e2 c h k).hi (Co.k2 c h k).lo (Co.k2 c h k).hi (Co.t11 c h k).lo (Co.t11 c h k).hi (Co.t0 c h k).lo (Co.t0 c h k).hi (Co.q13 c h k).lo (Co.q13 c h k).hi (Co.m15 c h k).lo (Co.m15 c h k).hi (Co.a16 c h k).lo (Co.a16 c h k).hi (Co.ab c h k).lo (Co.ab c h k).hi (Co.a18 c h k).lo (Co.a18 c h k).hi (Co.x20 c h k).lo (Co.x20 c h k).hi (Co.m21 c h k).lo (Co.m21 c h k).hi (Co.a c h k).lo (Co.a c h k).hi (Co.t1 c h k).lo (Co.t1 c h k).hi (Co.m25 c h k).lo (Co.m25 c h k).hi (Co.t2 c h k).lo (Co.t2 c h k).hi (Co.r27 c h k).lo (Co.r27 c h k).hi (Co.rs c h k).lo (Co.rs c h k).hi (Co.m29 c h k).lo (Co.m29 c h k).hi (Co.q30 c h k).lo (Co.q30 c h k).hi (Co.t3 c h k).lo (Co.t3 c h k).hi (Co.t4 c h k).lo (Co.t4 c h k).hi 0 0 0 0 0 0 0 0 0 0 (Co.r33 c h k).e w
   (Lib.hid fun q v h=>check3_ok i0 i1 i2 q v h)
   (Lib.hid fun pb=>calc_num (one_fit (by decide) (by decide):Fit (oneR 4602678819172646912)) pb)
   (Lib.hid fun pb=>calc_sqr D.fc D.c2' pb)
   (Lib.hid fun pb=>calc_num (one_fit (by decide) (by decide):Fit (oneR 4607182418800017408)) pb)
   (Lib.hid fun pb=>calc_sub (one_fit (by decide) (by decide):Fit (oneR 4607182418800017408)) D.c2' D.s3' pb)
   (Lib.hid fun v=>clamped_fit D.s3' v)
   (Lib.hid fun pb=>calc_sqr D.fh D.e2' pb)
   (Lib.hid fun pb=>calc_sqr D.fk D.k2' pb)
   (Lib.hid fun pb=>calc_mul D.e2' D.k2' D.ek' pb)
   (Lib.hid fun pb=>calc_sqr D.fh D.e2' pb)
   (Lib.hid fun pb=>calc_sqr D.fk D.k2' pb)
   (Lib.hid fun pb=>calc_sub D.e2' D.k2' D.t11' pb)
   (Lib.hid fun pb=>calc_sub D.t11' D.s2' D.t0' pb)
   (Lib.hid fun pb=>calc_sqr D.t0' D.q13' pb)
   (Lib.hid fun pb=>calc_num (one_fit (by decide) (by decide):Fit (oneR 4616189618054758400)) pb)
   (Lib.hid fun pb=>calc_mul (one_fit (by decide) (by decide):Fit (oneR 4616189618054758400)) D.ek' D.m15' pb)
   (Lib.hid fun pb=>calc_add D.q13' D.m15' D.a16' pb)
   (Lib.hid fun pb=>calc_sqrt D.a16' D.ab' pb)
   (Lib.hid fun pb=>calc_add D.ab' D.t0' D.a18' pb)
   (Lib.hid fun pb=>calc_num (one_fit (by decide) (by decide):Fit (oneR 0)) pb)
   (Lib.hid fun pb=>calc_max D.a18' (one_fit (by decide) (by decide):Fit (oneR 0)) D.x20' pb)
   (Lib.hid fun pb=>calc_mul (one_fit (by decide) (by decide):Fit (oneR 4602678819172646912)) D.x20' D.m21' pb)
   (Lib.hid fun pb=>calc_sqrt D.m21' D.a' pb)
   (Lib.hid fun pb=>calc_add D.ab' D.c2' D.t1' pb)
   (Lib.hid fun pb=>calc_num (one_fit (by decide) (by decide):Fit (oneR 4611686018427387904)) pb)
   (Lib.hid fun pb=>calc_mul (one_fit (by decide) (by decide):Fit (oneR 4611686018427387904)) D.a' D.m25' pb)
   (Lib.hid fun pb=>calc_mul D.m25' D.fc D.t2' pb)
   (Lib.hid fun pb v h=>ratio_ok D.t1' D.t2' D.n27' D.d27' D.r27' pb v h)
   (Lib.hid fun v=>clamped_fit D.r27' v)
   (Lib.hid fun pb=>calc_mul D.c2' D.ab' D.m29' pb)
   (Lib.hid fun pb=>calc_sqr D.s2' D.q30' pb)
   (Lib.hid fun pb=>calc_add D.m29' D.q30' D.t3' pb)
   (Lib.hid fun pb=>calc_mul D.t2' D.s2' D.t4' pb)
   (Lib.hid fun pb v h=>ratio_bad D.t3' D.t4' D.n33' D.d33' he pb v h)
   (Lib.hid fun pb v h=>ne_mul he D.rs'.lo D.rs'.hi (by decide) (by decide) pb v h)
   (Lib.hid fun v=>clamped_nil v)
   (Lib.hid fun pb v h=>ne_add he D.rs'.lo D.rs'.hi (by decide) (by decide) pb v h)
   (Lib.hid fun pb v h=>ne_mul he (one_fit (by decide) (by decide):Fit (oneR 4602678819172646912)).lo (one_fit (by decide) (by decide):Fit (oneR 4602678819172646912)).hi (by decide) (by decide) pb v h)
end
section
open Go.RowKit
attribute [local go_sem] run_store_float
theorem near_between {s:Nat} {T:Int} {c c' r:Nat} {e e':Int} (hs:0 < s) (hD:Down s T c e) (hU:Up s T c' e') (hB:Beside s T r) {x0 y0:Nat} (lx:x0 < 18446744073709551616) (rx:rightB x0=true) (hx:val x0*(s:Int)≤T) (ly:y0 < 18446744073709551616) (ry:rightB y0=true) (hy:T≤val y0*(s:Int)) :
   r < 18446744073709551616∧rung r < 9218868437227405312∧val x0≤val r∧val r≤val y0:=by
 have hs':(0:Int) < (s:Int):=by omega
 rcases hD with ⟨d0,d1,d2,d3,d4⟩ | ⟨_,_,d3⟩
 · rcases hU with ⟨u0,u1,u2,u3,u4⟩ | ⟨_,_,u3⟩
   · obtain⟨b1,b2,b3⟩:=hB c c' (Or.inl ⟨rfl,d1,d2,d3,d4⟩) (Or.inl ⟨rfl,u1,u2,u3,u4⟩)
     have h1:=d4 x0 lx rx hx
     have h2:=u4 y0 ly ry hy
     have h3:val c≤val y0:=Int.le_of_mul_le_mul_right (Int.le_trans d3 hy) hs'
     have h4:val x0≤val c':=Int.le_of_mul_le_mul_right (Int.le_trans hx u3) hs'
     rcases b3 with g | g
     · exact ⟨b1,b2,by omega,by omega⟩
     · exact ⟨b1,b2,by omega,by omega⟩
   · have:=u3 y0 ly ry; omega
 · have:=d3 x0 lx rx; omega
theorem word_right {r:Nat} (h:r < 9223372036854775808) (hr:rung r < 9218868437227405312):rightB r=true:=by
 unfold rightB
 unfold rung at hr
 rw [decide_eq_true hr,decide_eq_false (by omega:¬ r=9223372036854775808)]; rfl
theorem plain_sgn {x:Nat} (lx:x < 18446744073709551616) (rx:rightB x=true) (h:0≤val x):sgnB x=false:=by
 cases hs:sgnB x
 · rfl
 · have p:=neg_rung lx rx hs
   have e:=val_negs hs
   omega
theorem sgn_lt {x:Nat} (h:sgnB x=false):x < 9223372036854775808:=by
 unfold sgnB at h
 have:=of_decide_eq_false h
 omega
theorem near_pos (mag:Nat) (place:Int) (hp:-6000≤place):Ieee.double.nearest false mag place < 9223372036854775808:=by
 have key:∀ R,Ieee.double.word false (min R 9218868437227405312) < 9223372036854775808:=fun R=>by
   unfold Ieee.Format.word
   simp only [Bool.false_eq_true,if_false]
   omega
 by_cases h0:mag=0
 · subst h0
   have e:Ieee.double.nearest false 0 place=Ieee.double.word false (min 0 9218868437227405312):=by
     unfold Ieee.Format.nearest; rw [if_pos rfl]; rfl
   rw [e]; exact key 0
 · obtain⟨R,e,_,_⟩:=near_rung false mag place h0 hp
   rw [e]; exact key R
theorem mul_near {a b y0:Nat} (ha:a < 18446744073709551616) (hb:b < 18446744073709551616) (ra:rightB a=true) (rb:rightB b=true) (pa:0≤val a) (pb:0≤val b) (ly:y0 < 18446744073709551616) (ry:rightB y0=true) (hy:val a*val b≤val y0*((2 ^ sq:Nat):Int)) :
   ∃ r,floatBits .mul .f64 a b=some r∧r < 18446744073709551616∧rightB r=true∧0≤val r∧val r≤val y0:=by
 have xa:=expo_in a ra
 have xb:=expo_in b rb
 have sa:=plain_sgn ha ra pa
 have sb:=plain_sgn hb rb pb
 obtain⟨r,h1,h2⟩:=mul_beside a b ha hb ra rb
 have e:r=Ieee.double.nearest false (mant a*mant b) (expo a+expo b):=by
   have k:floatBits .mul .f64 a b=some (Ieee.double.nearest (sgnB a ^^ sgnB b) (mant a*mant b) (expo a+expo b)):=by
     show (((Ieee.double.read a).product (Ieee.double.read b)).map Ieee.double.write)=_
     rw [read_num a ha (right_rung a ra),read_num b hb (right_rung b rb)]
     rfl
   rw [k,sa,sb] at h1
   exact (Option.some.inj h1).symm
 obtain⟨n1,n2,n3,n4⟩:=near_between (x0:=0) (Nat.two_pow_pos _) ((mul_dir a b ra rb false).1 rfl) ((mul_dir a b ra rb true).2 rfl) h2 (by decide) (by decide) (by rw [show val 0=0 from by decide +kernel,Int.zero_mul]; exact Int.mul_nonneg pa pb) ly ry hy
 rw [show val 0=0 from by decide +kernel] at n3
 exact ⟨r,h1,n1,word_right (by rw [e]; exact near_pos _ _ (by omega)) n2,n3,n4⟩
theorem sum_plain (s t:Bool) (a b:Nat) (xa:-1074≤expo a) (xb:-1074≤expo b) (hst:(s&&t)=false) (hT:0≤sg s (steps (rung a))+sg t (steps (rung b))) (r:Nat)
   (h:((Ieee.Datum.number s (mant a) (expo a)).sum (.number t (mant b) (expo b))).map Ieee.double.write=some r):r < 9223372036854775808:=by
 obtain⟨base,hbase⟩:∃ base:Int,base=min (expo a) (expo b):=⟨_,rfl⟩
 obtain⟨total,htot⟩:∃ total:Int,total=Ieee.signed s (mant a) (expo a - base).toNat+Ieee.signed t (mant b) (expo b - base).toNat:=⟨_,rfl⟩
 have e1:sg s (steps (rung a))=Ieee.signed s (mant a) (expo a - base).toNat*((2 ^ (base+1074).toNat:Nat):Int):=by
   rw [←signed_mul,show (expo a - base).toNat+(base+1074).toNat=(expo a+1074).toNat by omega]
   unfold Ieee.signed sg; rw [steps_parts,Nat.shiftLeft_eq]
 have e2:sg t (steps (rung b))=Ieee.signed t (mant b) (expo b - base).toNat*((2 ^ (base+1074).toNat:Nat):Int):=by
   rw [←signed_mul,show (expo b - base).toNat+(base+1074).toNat=(expo b+1074).toNat by omega]
   unfold Ieee.signed sg; rw [steps_parts,Nat.shiftLeft_eq]
 have eT:sg s (steps (rung a))+sg t (steps (rung b))=total*((2 ^ (base+1074).toNat:Nat):Int):=by
   rw [e1,e2,htot,Int.add_mul]
 have hp:(0:Int) < ((2 ^ (base+1074).toNat:Nat):Int):=Int.natCast_pos.2 (Nat.two_pow_pos _)
 have h0:0≤total:=by
   rw [eT] at hT
   exact Int.le_of_mul_le_mul_right (by rw [Int.zero_mul]; exact hT) hp
 have k:((Ieee.Datum.number s (mant a) (expo a)).sum (.number t (mant b) (expo b))).map Ieee.double.write=some (Ieee.double.nearest (if total=0 then s&&t else decide (total < 0)) total.natAbs base):=by
   unfold Ieee.Datum.sum
   simp only [←hbase,←htot]
   rfl
 rw [k] at h
 have e:(if total=0 then s&&t else decide (total < 0))=false:=by
   by_cases z:total=0
   · rw [if_pos z]; exact hst
   · rw [if_neg z]; exact decide_eq_false (by omega)
 rw [e] at h
 rw [←Option.some.inj h]
 exact near_pos _ _ (by omega)
theorem frac_word (n:Nat) (hn:n < 4294967296):∃ f,floatBits .quo .f64 (floatOfInt .f64 (n:Int)) 4751297606873776128=some f∧f < 18446744073709551616∧rightB f=true∧0≤val f∧val f≤val u1:=by
 by_cases h0:n=0
 · subst h0
   exact ⟨0,by decide +kernel,by decide,by decide,by decide +kernel,by decide +kernel⟩
 obtain⟨f1,f2⟩:=from_int n (by omega)
 obtain⟨a1,a2,a3,a4,a5⟩:=pos_facts _ f1
 obtain⟨r,hr,hB⟩:=div_beside (FloatKind.f64.nearest (n:Int)) 4751297606873776128 a1 (by decide) a2 (by decide) (by decide)
 have hb:steps (rung 4751297606873776128)=4294967295*2 ^ sq:=by decide +kernel
 have hs:(sgnB 4751297606873776128)=false:=by decide
 have dd:=div_dir (FloatKind.f64.nearest (n:Int)) 4751297606873776128 a2 (by decide) (by decide) (by decide)
 have d1:=(dd false).1 rfl
 have d2:=(dd true).2 rfl
 rw [hb,hs,a3,a4,f2] at hB d1 d2
 have hT:sg (!(false == false)) (n*2 ^ sq*2 ^ sq)=((n*2 ^ sq*2 ^ sq:Nat):Int):=rfl
 rw [hT] at hB d1 d2
 have eL:val 4458563631096791040*(4294967295:Int)≤((2 ^ sq:Nat):Int)∧0 < val 4458563631096791040:=by decide +kernel
 have eU:val u1=((2 ^ sq:Nat):Int):=by decide +kernel
 have hp:0 < 2 ^ sq:=Nat.two_pow_pos _
 generalize 2 ^ sq=P at *
 obtain⟨n1,n2,n3,n4⟩:=near_between (x0:=4458563631096791040) (y0:=u1) (by omega) d1 d2 hB (by decide) (by decide) (by
     have e1:val 4458563631096791040*((4294967295*P:Nat):Int)=(val 4458563631096791040*4294967295)*(P:Int):=by rw [Int.natCast_mul,←Int.mul_assoc]; rfl
     have e2:((n*P*P:Nat):Int)=((n*P:Nat):Int)*(P:Int):=Int.natCast_mul _ _
     rw [e1,e2]
     refine Int.mul_le_mul_of_nonneg_right ?_ (by omega)
     have:(P:Int)≤((n*P:Nat):Int):=by
       have:1*P≤n*P:=Nat.mul_le_mul_right _ (by omega)
       omega
     omega) (by decide) (by decide) (by
     rw [eU,←Int.natCast_mul]
     have:n*P*P≤P*(4294967295*P):=by
       rw [←Nat.mul_assoc,Nat.mul_comm P 4294967295]
       exact Nat.mul_le_mul_right _ (Nat.mul_le_mul_right _ (by omega))
     omega)
 have hne:0 < val r:=by omega
 have lt:r < 9223372036854775808:=sgn_lt (by
   cases hs:sgnB r
   · rfl
   · have e:=val_negs hs; omega)
 exact ⟨r,hr,n1,word_right lt n2,by omega,n4⟩
theorem frac_walk (n f:Nat) (w:World) (hq:∀ w,(binOp .quo 25 (.float .f64 (floatOfInt .f64 (n:Int))) (.float .f64 4751297606873776128)).run Tryz.prog w = .ok (.float .f64 f) w) :
   Calls Tryz.prog 54 #[.int .u32 n] w fun r w'=>r = .returned (.float .f64 f)∧w=w':=by
 go_enter Tryz.func54,Tryz.ntmps54
 go_wp2
 go_ret
 exact ⟨rfl,rfl⟩
theorem between6_walk (lo hi n f d m x:Nat) (g:Bool) (w:World) (cF:Hid (∀ w,Calls Tryz.prog 54 #[.int .u32 n] w fun r w'=>r = .returned (.float .f64 f)∧w=w'))
   (h1:∀ w,(binOp .sub 25 (.float .f64 hi) (.float .f64 lo)).run Tryz.prog w = .ok (.float .f64 d) w)
   (h2:∀ w,(binOp .mul 25 (.float .f64 d) (.float .f64 f)).run Tryz.prog w = .ok (.float .f64 m) w)
   (h3:∀ w,(binOp .add 25 (.float .f64 lo) (.float .f64 m)).run Tryz.prog w = .ok (.float .f64 x) w)
   (o1:(FloatKind.f64.format.order x lo == some Ordering.lt)=false) (o2:(FloatKind.f64.format.order x hi == some Ordering.gt)=g) :
   Calls Tryz.prog 19 #[lo,hi,.int .u32 n] w fun r w'=>r = .returned (.float .f64 (if g=true then hi else x))∧w=w':=by
 go_enter Tryz.func19,Tryz.ntmps19
 go_wp2_with fail
 refine (cF.out _).mono ?_
 rintro r w1 ⟨rfl,rfl⟩
 cases g
 · go_wp2
   go_ret
   exact ⟨rfl,rfl⟩
 · go_wp2
   go_ret
   exact ⟨rfl,rfl⟩
structure Amid (lo hi x:Nat):Prop where
 lt:x < 18446744073709551616
 right:rightB x=true
 lo:val lo≤val x
 hi:val x≤val hi
theorem span_walk (lo hi p q a b:Nat) (g:Bool) (w:World)
   (c1:Hid (∀ w,Calls Tryz.prog 19 #[lo,hi,.int .u32 p] w fun r w'=>r = .returned (.float .f64 a)∧w=w'))
   (c2:Hid (∀ w,Calls Tryz.prog 19 #[lo,hi,.int .u32 q] w fun r w'=>r = .returned (.float .f64 b)∧w=w'))
   (o:(FloatKind.f64.format.order a b == some Ordering.gt)=g) :
   Calls Tryz.prog 23 #[lo,hi,.int .u32 p,.int .u32 q] w fun r w'=>r = .returned (.agg #[.float .f64 (if g=true then b else a),.float .f64 (if g=true then a else b)])∧Below w.heap.size w w':=by
 have M:=Lib.hid ((Own.nil w).made #[(),()] 31)
 have kc:=(M.out.nth 0 rfl).2.1
 have kf:=(M.out.nth 0 rfl).2.2
 go_enter Tryz.func23,Tryz.ntmps23
 go_wp2_with fail
 refine (c1.out _).mono ?_
 rintro r w1 ⟨rfl,rfl⟩
 go_wp2_with fail
 refine (c2.out _).mono ?_
 rintro r w1 ⟨rfl,rfl⟩
 revert M kc kf
 generalize w.alloc (.cells #[(),()] 31)=W
 intro M kc kf
 cases g
 · replace M:=Lib.hid (M.out.set2 0 rfl (.float .f64 a) (.float .f64 b))
   go_wp2
   obtain⟨f1,f2⟩:=(M.out.nth 0 rfl).two
   exact bodyPost_ret (v:=.agg #[.float .f64 a,.float .f64 b]) (by simp [results,Tryz.results23,go_sem,f1,f2]) rfl ⟨rfl,M.out.base⟩
 · replace M:=Lib.hid (M.out.set2 0 rfl (.float .f64 b) (.float .f64 a))
   go_wp2
   obtain⟨f1,f2⟩:=(M.out.nth 0 rfl).two
   exact bodyPost_ret (v:=.agg #[.float .f64 b,.float .f64 a]) (by simp [results,Tryz.results23,go_sem,f1,f2]) rfl ⟨rfl,M.out.base⟩
end
section
open Go.RowKit
attribute [local go_sem] run_store_float
theorem point_walk (x:Nat) (w:World) (h:∀ w,(binOp .add 25 (.float .f64 x) (.float .f64 0)).run Tryz.prog w = .ok (.float .f64 x) w) :
   Calls Tryz.prog 25 #[x] w (Rt (.agg #[x,x]) w):=by
 have M:=Lib.hid ((Own.nil w).made #[x,x] 31)
 go_enter Tryz.func25,Tryz.ntmps25
 go_wp2
 exact bodyPost_ret (v:=.agg #[.float .f64 x,.float .f64 x]) (by simp [results,Tryz.results25,go_sem]) rfl ⟨rfl,M.out.base⟩
end
end Go.Proofs.YtnaomilkgfkegaaGreat
