/- What the claim stands on, part 16: QFD, QO1, LanS. -/
import Derived.Test.YtmkgfflebfpcdaaGreatPA13
import Derived.Test.YtmkgfflebfpcdaaGreatPA14
import Derived.Deep.RegionHeld3
set_option maxHeartbeats 4000000
set_option maxRecDepth 100000
namespace Go.Proofs.YtmkgfflebfpcdaaGreat
section
open Go.RowKit
theorem calc_sqrt {a:Res} (fa:Fit a) (fr:Fit (sqrtR a)) (pb:Nat):Calc1 58 pb a.lo a.hi (sqrtR a).lo (sqrtR a).hi:=fun v h=>by
 have c:=cSqrt_any 0 a.lo a.hi pb 0 v fa.lo fa.hi h.pc h.pf
 rw [step_one fa] at c
 exact told_none fr.e c
theorem calc_max {a b:Res} (fa:Fit a) (fb:Fit b) (fr:Fit (maxR a b)) (pb:Nat):Calc2 116 pb a.lo a.hi b.lo b.hi (maxR a b).lo (maxR a b).hi:=fun v h=>by
 have c:=cMax_any 0 a.lo a.hi b.lo b.hi pb 0 v fa.lo fa.hi fb.lo fb.hi h.pc h.pf
 rw [step_two fa fb] at c
 exact told_none fr.e c
theorem div_told {a b:Res} (fa:Fit a) (fb:Fit b) (pb:Nat):CD2 17 pb 0 (divR a b).e a.lo a.hi b.lo b.hi (divR a b).lo (divR a b).hi:=fun v h=>by
 have c:=cDiv_any 0 a.lo a.hi b.lo b.hi pb 0 v fa.lo fa.hi fb.lo fb.hi h.pc h.pf
 rw [step_two fa fb] at c
 exact c.mono fun _ _ ⟨h1,h2⟩=>⟨h1,h2⟩
theorem ratio_any {a b:Res} (fa:Fit a) (fb:Fit b) (fs:Fit (subR a b)) (ft:Fit (addR a b)) (pb:Nat):CD2 117 pb 0 (divR (subR a b) (addR a b)).e a.lo a.hi b.lo b.hi (divR (subR a b) (addR a b)).lo (divR (subR a b) (addR a b)).hi:=fun v h =>
 ratio_walk _ _ _ _ _ _ _ _ _ _ 0 0 0 _ pb v h (Lib.hid (calc_sub fa fb fs pb)) (Lib.hid (calc_add fa fb ft pb)) (Lib.hid (div_told fs ft pb))
theorem ratio_ok {a b:Res} (fa:Fit a) (fb:Fit b) (fs:Fit (subR a b)) (ft:Fit (addR a b)) (fr:Fit (divR (subR a b) (addR a b))) (pb:Nat):CD2 117 pb 0 0 a.lo a.hi b.lo b.hi (divR (subR a b) (addR a b)).lo (divR (subR a b) (addR a b)).hi:=by
 have h:=ratio_any fa fb fs ft pb
 rw [fr.e] at h
 exact h
theorem clamped_fit {a:Res} (f:Fit a) (v:World):Calls Tryz.prog 108 #[.agg #[a.lo,a.hi]] v (Rt (.agg #[.float .f64 (clampR a).lo,.float .f64 (clampR a).hi]) v):=clamped_any a.lo a.hi v f.lo f.hi f.rlo f.rhi
theorem lt_in {a A:Res} (i:In a A) (fA:Fit A):(FloatKind.f64.format.order a.lo A.lo == some Ordering.lt)=false:=by
 rw [order_lt a.lo A.lo i.fit.lo fA.lo i.fit.rlo fA.rlo]; have:=i.lo; exact decide_eq_false (by omega)
theorem gt_in {a A:Res} (i:In a A) (fA:Fit A):(FloatKind.f64.format.order a.hi A.hi == some Ordering.gt)=false:=by
 rw [order_gt a.hi A.hi i.fit.hi fA.hi i.fit.rhi fA.rhi]; have:=i.hi; exact decide_eq_false (by omega)
theorem right_in {a:Res} (f:Fit a) (w:World):Calls Tryz.prog 53 #[.agg #[a.lo,a.hi]] w (Rt (.bool true) w):=by
 have h:=ivRight_any a.lo a.hi w f.lo f.hi
 rw [f.iv] at h
 exact h
theorem c_fit:Fit bigC:=.of (by decide +kernel)
theorem n_fit:Fit bigN:=.of (by decide +kernel)
theorem m_fit:Fit bigM:=.of (by decide +kernel)
theorem check2_ok {c n:Res} (i0:In c bigC) (i1:In n bigN) (q:Nat) (v:World) (h:Has1 v (q,#[c.lo,c.hi,(),(4607182418800017408:Nat),n.lo,n.hi,(4607463893776728064:Nat),(4616189618054758400:Nat)])) :
   Calls Tryz.prog 106 #[.slice (some ⟨q,0,none⟩) 2 2] v (Rt (.int .i64 0) v):=
 check2_walk q c.lo c.hi 0 4607182418800017408 n.lo n.hi 4607463893776728064 4616189618054758400 true true false false false false v h (Lib.hid (right_in i0.fit)) (Lib.hid (right_in i1.fit)) (lt_in i0 c_fit) (gt_in i0 c_fit) (lt_in i1 n_fit) (gt_in i1 n_fit)
theorem check3_ok {c h k:Res} (i0:In c bigC) (i1:In h bigM) (i2:In k bigM) (q:Nat) (v:World) (hA:Has1 v (q,#[c.lo,c.hi,(),(4607182418800017408:Nat),h.lo,h.hi,(4589168020290535424:Nat),(4625196817309499392:Nat),k.lo,k.hi,(4589168020290535424:Nat),(4625196817309499392:Nat)])) :
   Calls Tryz.prog 106 #[.slice (some ⟨q,0,none⟩) 3 3] v (Rt (.int .i64 0) v):=
 check3_walk q c.lo c.hi 0 4607182418800017408 h.lo h.hi 4589168020290535424 4625196817309499392 k.lo k.hi 4589168020290535424 4625196817309499392 true true true false false false false false false v hA (Lib.hid (right_in i0.fit)) (Lib.hid (right_in i1.fit)) (Lib.hid (right_in i2.fit)) (lt_in i0 c_fit) (gt_in i0 c_fit) (lt_in i1 m_fit) (gt_in i1 m_fit) (lt_in i2 m_fit) (gt_in i2 m_fit)
theorem diel_any {c n:Res} (i0:In c bigC) (i1:In n bigN) (w:World) :
   Calls Tryz.prog 88 #[.agg #[c.lo,c.hi],.agg #[n.lo,n.hi]] w (Rt (.tuple #[.agg #[.float .f64 (Di.out c n).lo,.float .f64 (Di.out c n).hi],true]) w):=by
 have P:=Di.parts Di.big i0 i1
 have D:=P.fits i0.fit i1.fit
 exact diel_walk c.lo c.hi n.lo n.hi (Di.s2 c n).lo (Di.s2 c n).hi (Di.s3 c n).lo (Di.s3 c n).hi (Di.s4 c n).lo (Di.s4 c n).hi (Di.s5 c n).lo (Di.s5 c n).hi (Di.g c n).lo (Di.g c n).hi (Di.more c n).lo (Di.more c n).hi (Di.less c n).lo (Di.less c n).hi (Di.pq c n).lo (Di.pq c n).hi (Di.p c n).lo (Di.p c n).hi (Di.m11 c n).lo (Di.m11 c n).hi (Di.over c n).lo (Di.over c n).hi (Di.m13 c n).lo (Di.m13 c n).hi (Di.under c n).lo (Di.under c n).hi (Di.qq c n).lo (Di.qq c n).hi (Di.q c n).lo (Di.q c n).hi (Di.hp c n).lo (Di.hp c n).hi (Di.oq c n).lo (Di.oq c n).hi (Di.f c n).lo (Di.f c n).hi (Di.out c n).lo (Di.out c n).hi w
   (Lib.hid fun q v h=>check2_ok i0 i1 q v h)
   (Lib.hid fun pb=>calc_num (one_fit (by decide) (by decide):Fit (oneR 4607182418800017408)) pb)
   (Lib.hid fun pb=>calc_sqr D.fn D.s2' pb)
   (Lib.hid fun pb=>calc_sub D.s2' (one_fit (by decide) (by decide):Fit (oneR 4607182418800017408)) D.s3' pb)
   (Lib.hid fun pb=>calc_sqr D.fc D.s4' pb)
   (Lib.hid fun pb=>calc_add D.s3' D.s4' D.s5' pb)
   (Lib.hid fun pb=>calc_sqrt D.s5' D.g' pb)
   (Lib.hid fun pb=>calc_add D.g' D.fc D.more' pb)
   (Lib.hid fun pb=>calc_sub D.g' D.fc D.less' pb)
   (Lib.hid fun pb=>calc_div D.less' D.more' D.pq' pb)
   (Lib.hid fun pb=>calc_sqr D.pq' D.p' pb)
   (Lib.hid fun pb=>calc_mul D.fc D.more' D.m11' pb)
   (Lib.hid fun pb=>calc_sub D.m11' (one_fit (by decide) (by decide):Fit (oneR 4607182418800017408)) D.over' pb)
   (Lib.hid fun pb=>calc_mul D.fc D.less' D.m13' pb)
   (Lib.hid fun pb=>calc_add D.m13' (one_fit (by decide) (by decide):Fit (oneR 4607182418800017408)) D.under' pb)
   (Lib.hid fun pb=>calc_div D.over' D.under' D.qq' pb)
   (Lib.hid fun pb=>calc_sqr D.qq' D.q' pb)
   (Lib.hid fun pb=>calc_num (one_fit (by decide) (by decide):Fit (oneR 4602678819172646912)) pb)
   (Lib.hid fun pb=>calc_mul (one_fit (by decide) (by decide):Fit (oneR 4602678819172646912)) D.p' D.hp' pb)
   (Lib.hid fun pb=>calc_add (one_fit (by decide) (by decide):Fit (oneR 4607182418800017408)) D.q' D.oq' pb)
   (Lib.hid fun pb=>calc_mul D.hp' D.oq' D.f' pb)
   (Lib.hid fun v=>clamped_fit D.f' v)
theorem cond_some {c h k:Res} (i0:In c bigC) (i1:In h bigM) (i2:In k bigM) (w:World) (he:(Co.r33 c h k).e=0) :
   Calls Tryz.prog 91 #[.agg #[c.lo,c.hi],.agg #[h.lo,h.hi],.agg #[k.lo,k.hi]] w (Rt (.tuple #[.agg #[.float .f64 (Co.f c h k).lo,.float .f64 (Co.f c h k).hi],true]) w):=by
 have P:=Co.parts Co.big i0 i1 i2
 have D:=P.fits i0.fit i1.fit i2.fit
 have L:=D.last he
 exact cond_walk c.lo c.hi h.lo h.hi k.lo k.hi (Co.c2 c h k).lo (Co.c2 c h k).hi (Co.s3 c h k).lo (Co.s3 c h k).hi (Co.s2 c h k).lo (Co.s2 c h k).hi (Co.e2 c h k).lo (Co.e2 c h k).hi (Co.k2 c h k).lo (Co.k2 c h k).hi (Co.ek c h k).lo (Co.ek c h k).hi (Co.e2 c h k).lo (Co.e2 c h k).hi (Co.k2 c h k).lo (Co.k2 c h k).hi (Co.t11 c h k).lo (Co.t11 c h k).hi (Co.t0 c h k).lo (Co.t0 c h k).hi (Co.q13 c h k).lo (Co.q13 c h k).hi (Co.m15 c h k).lo (Co.m15 c h k).hi (Co.a16 c h k).lo (Co.a16 c h k).hi (Co.ab c h k).lo (Co.ab c h k).hi (Co.a18 c h k).lo (Co.a18 c h k).hi (Co.x20 c h k).lo (Co.x20 c h k).hi (Co.m21 c h k).lo (Co.m21 c h k).hi (Co.a c h k).lo (Co.a c h k).hi (Co.t1 c h k).lo (Co.t1 c h k).hi (Co.m25 c h k).lo (Co.m25 c h k).hi (Co.t2 c h k).lo (Co.t2 c h k).hi (Co.r27 c h k).lo (Co.r27 c h k).hi (Co.rs c h k).lo (Co.rs c h k).hi (Co.m29 c h k).lo (Co.m29 c h k).hi (Co.q30 c h k).lo (Co.q30 c h k).hi (Co.t3 c h k).lo (Co.t3 c h k).hi (Co.t4 c h k).lo (Co.t4 c h k).hi (Co.r33 c h k).lo (Co.r33 c h k).hi (Co.m34 c h k).lo (Co.m34 c h k).hi (Co.rp c h k).lo (Co.rp c h k).hi (Co.a36 c h k).lo (Co.a36 c h k).hi (Co.f c h k).lo (Co.f c h k).hi 0 w
   (Lib.hid fun q v h=>check3_ok i0 i1 i2 q v h)
   (Lib.hid fun pb=>calc_num (one_fit (by decide) (by decide):Fit (oneR 4602678819172646912)) pb)
   (Lib.hid fun pb=>calc_sqr D.fc D.c2' pb)
   (Lib.hid fun pb=>calc_num (one_fit (by decide) (by decide):Fit (oneR 4607182418800017408)) pb)
   (Lib.hid fun pb=>calc_sub (one_fit (by decide) (by decide):Fit (oneR 4607182418800017408)) D.c2' D.s3' pb)
   (Lib.hid fun v=>clamped_fit D.s3' v)
   (Lib.hid fun pb=>calc_sqr D.fh D.e2' pb)
   (Lib.hid fun pb=>calc_sqr D.fk D.k2' pb)
   (Lib.hid fun pb=>calc_mul D.e2' D.k2' D.ek' pb)
   (Lib.hid fun pb=>calc_sqr D.fh D.e2' pb)
   (Lib.hid fun pb=>calc_sqr D.fk D.k2' pb)
   (Lib.hid fun pb=>calc_sub D.e2' D.k2' D.t11' pb)
   (Lib.hid fun pb=>calc_sub D.t11' D.s2' D.t0' pb)
   (Lib.hid fun pb=>calc_sqr D.t0' D.q13' pb)
   (Lib.hid fun pb=>calc_num (one_fit (by decide) (by decide):Fit (oneR 4616189618054758400)) pb)
   (Lib.hid fun pb=>calc_mul (one_fit (by decide) (by decide):Fit (oneR 4616189618054758400)) D.ek' D.m15' pb)
   (Lib.hid fun pb=>calc_add D.q13' D.m15' D.a16' pb)
   (Lib.hid fun pb=>calc_sqrt D.a16' D.ab' pb)
   (Lib.hid fun pb=>calc_add D.ab' D.t0' D.a18' pb)
   (Lib.hid fun pb=>calc_num (one_fit (by decide) (by decide):Fit (oneR 0)) pb)
   (Lib.hid fun pb=>calc_max D.a18' (one_fit (by decide) (by decide):Fit (oneR 0)) D.x20' pb)
   (Lib.hid fun pb=>calc_mul (one_fit (by decide) (by decide):Fit (oneR 4602678819172646912)) D.x20' D.m21' pb)
   (Lib.hid fun pb=>calc_sqrt D.m21' D.a' pb)
   (Lib.hid fun pb=>calc_add D.ab' D.c2' D.t1' pb)
   (Lib.hid fun pb=>calc_num (one_fit (by decide) (by decide):Fit (oneR 4611686018427387904)) pb)
   (Lib.hid fun pb=>calc_mul (one_fit (by decide) (by decide):Fit (oneR 4611686018427387904)) D.a' D.m25' pb)
   (Lib.hid fun pb=>calc_mul D.m25' D.fc D.t2' pb)
   (Lib.hid fun pb v h=>ratio_ok D.t1' D.t2' D.n27' D.d27' D.r27' pb v h)
   (Lib.hid fun v=>clamped_fit D.r27' v)
   (Lib.hid fun pb=>calc_mul D.c2' D.ab' D.m29' pb)
   (Lib.hid fun pb=>calc_sqr D.s2' D.q30' pb)
   (Lib.hid fun pb=>calc_add D.m29' D.q30' D.t3' pb)
   (Lib.hid fun pb=>calc_mul D.t2' D.s2' D.t4' pb)
   (Lib.hid fun pb v h=>ratio_ok D.t3' D.t4' D.n33' D.d33' L.r33' pb v h)
   (Lib.hid fun pb=>calc_mul D.rs' L.r33' L.m34' pb)
   (Lib.hid fun v=>clamped_fit L.m34' v)
   (Lib.hid fun pb=>calc_add D.rs' L.rp' L.a36' pb)
   (Lib.hid fun pb=>calc_mul (one_fit (by decide) (by decide):Fit (oneR 4602678819172646912)) L.a36' L.f' pb)
end
section
open Go.RowKit
attribute [local go_sem] run_store_float
theorem near_between {s:Nat} {T:Int} {c c' r:Nat} {e e':Int} (hs:0 < s) (hD:Down s T c e) (hU:Up s T c' e') (hB:Beside s T r) {x0 y0:Nat} (lx:x0 < 18446744073709551616) (rx:rightB x0=true) (hx:val x0*(s:Int)≤T) (ly:y0 < 18446744073709551616) (ry:rightB y0=true) (hy:T≤val y0*(s:Int)) :
   r < 18446744073709551616∧rung r < 9218868437227405312∧val x0≤val r∧val r≤val y0:=by
 have hs':(0:Int) < (s:Int):=by omega
 rcases hD with ⟨d0,d1,d2,d3,d4⟩ | ⟨_,_,d3⟩
 · rcases hU with ⟨u0,u1,u2,u3,u4⟩ | ⟨_,_,u3⟩
   · obtain⟨b1,b2,b3⟩:=hB c c' (Or.inl ⟨rfl,d1,d2,d3,d4⟩) (Or.inl ⟨rfl,u1,u2,u3,u4⟩)
     have h1:=d4 x0 lx rx hx
     have h2:=u4 y0 ly ry hy
     have h3:val c≤val y0:=Int.le_of_mul_le_mul_right (Int.le_trans d3 hy) hs'
     have h4:val x0≤val c':=Int.le_of_mul_le_mul_right (Int.le_trans hx u3) hs'
     rcases b3 with g | g
     · exact ⟨b1,b2,by omega,by omega⟩
     · exact ⟨b1,b2,by omega,by omega⟩
   · have:=u3 y0 ly ry; omega
 · have:=d3 x0 lx rx; omega
theorem word_right {r:Nat} (h:r < 9223372036854775808) (hr:rung r < 9218868437227405312):rightB r=true:=by
 unfold rightB
 unfold rung at hr
 rw [decide_eq_true hr,decide_eq_false (by omega:¬ r=9223372036854775808)]; rfl
theorem plain_sgn {x:Nat} (lx:x < 18446744073709551616) (rx:rightB x=true) (h:0≤val x):sgnB x=false:=by
 cases hs:sgnB x
 · rfl
 · have p:=neg_rung lx rx hs
   have e:=val_negs hs
   omega
theorem sgn_lt {x:Nat} (h:sgnB x=false):x < 9223372036854775808:=by
 unfold sgnB at h
 have:=of_decide_eq_false h
 omega
theorem near_pos (mag:Nat) (place:Int) (hp:-6000≤place):Ieee.double.nearest false mag place < 9223372036854775808:=by
 have key:∀ R,Ieee.double.word false (min R 9218868437227405312) < 9223372036854775808:=fun R=>by
   unfold Ieee.Format.word
   simp only [Bool.false_eq_true,if_false]
   omega
 by_cases h0:mag=0
 · subst h0
   have e:Ieee.double.nearest false 0 place=Ieee.double.word false (min 0 9218868437227405312):=by
     unfold Ieee.Format.nearest; rw [if_pos rfl]; rfl
   rw [e]; exact key 0
 · obtain⟨R,e,_,_⟩:=near_rung false mag place h0 hp
   rw [e]; exact key R
theorem mul_near {a b y0:Nat} (ha:a < 18446744073709551616) (hb:b < 18446744073709551616) (ra:rightB a=true) (rb:rightB b=true) (pa:0≤val a) (pb:0≤val b) (ly:y0 < 18446744073709551616) (ry:rightB y0=true) (hy:val a*val b≤val y0*((2 ^ sq:Nat):Int)) :
   ∃ r,floatBits .mul .f64 a b=some r∧r < 18446744073709551616∧rightB r=true∧0≤val r∧val r≤val y0:=by
 have xa:=expo_in a ra
 have xb:=expo_in b rb
 have sa:=plain_sgn ha ra pa
 have sb:=plain_sgn hb rb pb
 obtain⟨r,h1,h2⟩:=mul_beside a b ha hb ra rb
 have e:r=Ieee.double.nearest false (mant a*mant b) (expo a+expo b):=by
   have k:floatBits .mul .f64 a b=some (Ieee.double.nearest (sgnB a ^^ sgnB b) (mant a*mant b) (expo a+expo b)):=by
     show (((Ieee.double.read a).product (Ieee.double.read b)).map Ieee.double.write)=_
     rw [read_num a ha (right_rung a ra),read_num b hb (right_rung b rb)]
     rfl
   rw [k,sa,sb] at h1
   exact (Option.some.inj h1).symm
 obtain⟨n1,n2,n3,n4⟩:=near_between (x0:=0) (Nat.two_pow_pos _) ((mul_dir a b ra rb false).1 rfl) ((mul_dir a b ra rb true).2 rfl) h2 (by decide) (by decide) (by rw [show val 0=0 from by decide +kernel,Int.zero_mul]; exact Int.mul_nonneg pa pb) ly ry hy
 rw [show val 0=0 from by decide +kernel] at n3
 exact ⟨r,h1,n1,word_right (by rw [e]; exact near_pos _ _ (by omega)) n2,n3,n4⟩
theorem sum_plain (s t:Bool) (a b:Nat) (xa:-1074≤expo a) (xb:-1074≤expo b) (hst:(s&&t)=false) (hT:0≤sg s (steps (rung a))+sg t (steps (rung b))) (r:Nat)
   (h:((Ieee.Datum.number s (mant a) (expo a)).sum (.number t (mant b) (expo b))).map Ieee.double.write=some r):r < 9223372036854775808:=by
 obtain⟨base,hbase⟩:∃ base:Int,base=min (expo a) (expo b):=⟨_,rfl⟩
 obtain⟨total,htot⟩:∃ total:Int,total=Ieee.signed s (mant a) (expo a - base).toNat+Ieee.signed t (mant b) (expo b - base).toNat:=⟨_,rfl⟩
 have e1:sg s (steps (rung a))=Ieee.signed s (mant a) (expo a - base).toNat*((2 ^ (base+1074).toNat:Nat):Int):=by
   rw [←signed_mul,show (expo a - base).toNat+(base+1074).toNat=(expo a+1074).toNat by omega]
   unfold Ieee.signed sg; rw [steps_parts,Nat.shiftLeft_eq]
 have e2:sg t (steps (rung b))=Ieee.signed t (mant b) (expo b - base).toNat*((2 ^ (base+1074).toNat:Nat):Int):=by
   rw [←signed_mul,show (expo b - base).toNat+(base+1074).toNat=(expo b+1074).toNat by omega]
   unfold Ieee.signed sg; rw [steps_parts,Nat.shiftLeft_eq]
 have eT:sg s (steps (rung a))+sg t (steps (rung b))=total*((2 ^ (base+1074).toNat:Nat):Int):=by
   rw [e1,e2,htot,Int.add_mul]
 have hp:(0:Int) < ((2 ^ (base+1074).toNat:Nat):Int):=Int.natCast_pos.2 (Nat.two_pow_pos _)
 have h0:0≤total:=by
   rw [eT] at hT
   exact Int.le_of_mul_le_mul_right (by rw [Int.zero_mul]; exact hT) hp
 have k:((Ieee.Datum.number s (mant a) (expo a)).sum (.number t (mant b) (expo b))).map Ieee.double.write=some (Ieee.double.nearest (if total=0 then s&&t else decide (total < 0)) total.natAbs base):=by
   unfold Ieee.Datum.sum
   simp only [←hbase,←htot]
   rfl
 rw [k] at h
 have e:(if total=0 then s&&t else decide (total < 0))=false:=by
   by_cases z:total=0
   · rw [if_pos z]; exact hst
   · rw [if_neg z]; exact decide_eq_false (by omega)
 rw [e] at h
 rw [←Option.some.inj h]
 exact near_pos _ _ (by omega)
theorem frac_word (n:Nat) (hn:n < 4294967296):∃ f,floatBits .quo .f64 (floatOfInt .f64 (n:Int)) 4751297606873776128=some f∧f < 18446744073709551616∧rightB f=true∧0≤val f∧val f≤val u1:=by
 by_cases h0:n=0
 · subst h0
   exact ⟨0,by decide +kernel,by decide,by decide,by decide +kernel,by decide +kernel⟩
 obtain⟨f1,f2⟩:=from_int n (by omega)
 obtain⟨a1,a2,a3,a4,a5⟩:=pos_facts _ f1
 obtain⟨r,hr,hB⟩:=div_beside (FloatKind.f64.nearest (n:Int)) 4751297606873776128 a1 (by decide) a2 (by decide) (by decide)
 have hb:steps (rung 4751297606873776128)=4294967295*2 ^ sq:=by decide +kernel
 have hs:(sgnB 4751297606873776128)=false:=by decide
 have dd:=div_dir (FloatKind.f64.nearest (n:Int)) 4751297606873776128 a2 (by decide) (by decide) (by decide)
 have d1:=(dd false).1 rfl
 have d2:=(dd true).2 rfl
 rw [hb,hs,a3,a4,f2] at hB d1 d2
 have hT:sg (!(false == false)) (n*2 ^ sq*2 ^ sq)=((n*2 ^ sq*2 ^ sq:Nat):Int):=rfl
 rw [hT] at hB d1 d2
 have eL:val 4458563631096791040*(4294967295:Int)≤((2 ^ sq:Nat):Int)∧0 < val 4458563631096791040:=by decide +kernel
 have eU:val u1=((2 ^ sq:Nat):Int):=by decide +kernel
 have hp:0 < 2 ^ sq:=Nat.two_pow_pos _
 generalize 2 ^ sq=P at *
 obtain⟨n1,n2,n3,n4⟩:=near_between (x0:=4458563631096791040) (y0:=u1) (by omega) d1 d2 hB (by decide) (by decide) (by
     have e1:val 4458563631096791040*((4294967295*P:Nat):Int)=(val 4458563631096791040*4294967295)*(P:Int):=by rw [Int.natCast_mul,←Int.mul_assoc]; rfl
     have e2:((n*P*P:Nat):Int)=((n*P:Nat):Int)*(P:Int):=Int.natCast_mul _ _
     rw [e1,e2]
     refine Int.mul_le_mul_of_nonneg_right ?_ (by omega)
     have:(P:Int)≤((n*P:Nat):Int):=by
       have:1*P≤n*P:=Nat.mul_le_mul_right _ (by omega)
       omega
     omega) (by decide) (by decide) (by
     rw [eU,←Int.natCast_mul]
     have:n*P*P≤P*(4294967295*P):=by
       rw [←Nat.mul_assoc,Nat.mul_comm P 4294967295]
       exact Nat.mul_le_mul_right _ (Nat.mul_le_mul_right _ (by omega))
     omega)
 have hne:0 < val r:=by omega
 have lt:r < 9223372036854775808:=sgn_lt (by
   cases hs:sgnB r
   · rfl
   · have e:=val_negs hs; omega)
 exact ⟨r,hr,n1,word_right lt n2,by omega,n4⟩
theorem frac_walk (n f:Nat) (w:World) (hq:∀ w,(binOp .quo 25 (.float .f64 (floatOfInt .f64 (n:Int))) (.float .f64 4751297606873776128)).run Tryz.prog w = .ok (.float .f64 f) w) :
   Calls Tryz.prog 16 #[.int .u32 n] w fun r w'=>r = .returned (.float .f64 f)∧w=w':=by
 go_enter Tryz.func16,Tryz.ntmps16
 go_wp2
 go_ret
 exact ⟨rfl,rfl⟩
theorem between6_walk (lo hi n f d m x:Nat) (g:Bool) (w:World) (cF:Hid (∀ w,Calls Tryz.prog 16 #[.int .u32 n] w fun r w'=>r = .returned (.float .f64 f)∧w=w'))
   (h1:∀ w,(binOp .sub 25 (.float .f64 hi) (.float .f64 lo)).run Tryz.prog w = .ok (.float .f64 d) w)
   (h2:∀ w,(binOp .mul 25 (.float .f64 d) (.float .f64 f)).run Tryz.prog w = .ok (.float .f64 m) w)
   (h3:∀ w,(binOp .add 25 (.float .f64 lo) (.float .f64 m)).run Tryz.prog w = .ok (.float .f64 x) w)
   (o1:(FloatKind.f64.format.order x lo == some Ordering.lt)=false) (o2:(FloatKind.f64.format.order x hi == some Ordering.gt)=g) :
   Calls Tryz.prog 23 #[lo,hi,.int .u32 n] w fun r w'=>r = .returned (.float .f64 (if g=true then hi else x))∧w=w':=by
 go_enter Tryz.func23,Tryz.ntmps23
 go_wp2_with fail
 refine (cF.out _).mono ?_
 rintro r w1 ⟨rfl,rfl⟩
 cases g
 · go_wp2
   go_ret
   exact ⟨rfl,rfl⟩
 · go_wp2
   go_ret
   exact ⟨rfl,rfl⟩
structure Amid (lo hi x:Nat):Prop where
 lt:x < 18446744073709551616
 right:rightB x=true
 lo:val lo≤val x
 hi:val x≤val hi
end
section
open Go.RowKit
attribute [local go_sem] run_store_float
theorem point_walk (x:Nat) (w:World) (h:∀ w,(binOp .add 25 (.float .f64 x) (.float .f64 0)).run Tryz.prog w = .ok (.float .f64 x) w) :
   Calls Tryz.prog 28 #[x] w (Rt (.agg #[x,x]) w):=by
 have M:=Lib.hid ((Own.nil w).made #[x,x] 31)
 go_enter Tryz.func28,Tryz.ntmps28
 go_wp2
 exact bodyPost_ret (v:=.agg #[.float .f64 x,.float .f64 x]) (by simp [results,Tryz.results28,go_sem]) rfl ⟨rfl,M.out.base⟩
end
section
open Go.RowKit
section
variable {P:Program} {ops:Array Oper} {Q:Exit→Act→World→Prop} {md:Region.Mode} {S:World→Prop}
def latAtP (pl:List Bool) (md:Region.Mode) (ops:Array Oper) (L0:Array Bool) (cs ms:List Nat) (k:Nat) (p:List Bool):Bool:=
 if pl.getD k false&&decide (k < cs.length) then
   (match cs[k]? with
     | some i=>Region.noSelect ops&&Region.free md ops (lstOf L0 cs ms k p) i&&(Region.ready md ops (lstOf L0 cs ms k p)).contains i&&closedB md ops (lstOf L0 cs ms k p)&&((lstOf L0 cs ms k p).setIfInBounds i true == lstOf L0 cs ms (k+1) p)
     | none=>false)
 else latAt md ops L0 cs ms k p
def latOkP (pl:List Bool) (md:Region.Mode) (ops:Array Oper) (L0:Array Bool) (cs ms:List Nat):Bool:=
 (List.range (cs.length+1)).all fun k=>(boolLists ms.length).all fun p=>latAtP pl md ops L0 cs ms k p
theorem latP_any {pl:List Bool} {L0:Array Bool} {cs ms:List Nat} {N:Nat} (J:Nat→List (Option Nat)→Act→World→Prop) (hok:latOkP pl md ops L0 cs ms=true)
   (hS:∀ k p a w,J k p a w→S w)
   (call:∀ k i p a w,cs[k]? = some i→pl.getD k false=false→J k p a w→wpOp P ops Q i (fun b v=>J (k+1) p b v) a w)
   (take:∀ k i p a w,cs[k]? = some i→pl.getD k false=true→J k p a w→∃ o x,ops[i]? = some o∧YieldsIf P ops S o x a∧(∀ c a w,Q (.panic c) (a.put o.dst x) w→Q (.panic c) a w)∧J (k+1) p (a.put o.dst x) w)
   (alloc:∀ k m i p a w,ms[m]? = some i→p[m]? = some none→J k p a w→wpOp P ops Q i (fun b v=>∃ q,J k (p.set m (some q)) b v) a w)
   (fin:∀ p a w,p.length=ms.length→(∀ x∈p,x.isSome=true)→J cs.length p a w→wpAnyV P md ops Q S [] N (lstOf L0 cs ms cs.length (p.map Option.isSome)) a w) :
   ∀ (f k:Nat) (p:List (Option Nat)) (a:Act) (w:World),p.length=ms.length→k≤cs.length→f=(cs.length - k)+p.count none→J k p a w →
     wpAnyV P md ops Q S [] (N+f) (lstOf L0 cs ms k (p.map Option.isSome)) a w
 | 0,k,p,a,w,hp,hk,hf,hJ=>by
   obtain rfl:k=cs.length:=by omega
   exact fin p a w hp (count_nil p (by omega)) hJ
 | f+1,k,p,a,w,hp,hk,hf,hJ=>by
   have hat:latAtP pl md ops L0 cs ms k (p.map Option.isSome)=true:=by
     unfold latOkP at hok
     rw [List.all_eq_true] at hok
     have h1:=hok k (by simp; omega)
     rw [List.all_eq_true] at h1
     refine h1 _ ?_
     have:=mem_bools (p.map Option.isSome)
     rw [List.length_map,hp] at this
     exact this
   have hnot:(decide (k=cs.length)&&(p.map Option.isSome).all id)=false:=by
     rw [Bool.eq_false_iff]
     intro h
     rw [Bool.and_eq_true,decide_eq_true_eq,List.all_eq_true] at h
     have hc:p.count none=0:=by
       rw [List.count_eq_zero]
       intro hm
       have:=h.2 false (by rw [List.mem_map]; exact ⟨none,hm,rfl⟩)
       simp at this
     omega
   unfold latAtP at hat
   by_cases g:pl.getD k false=true∧k < cs.length
   · rw [g.1,decide_eq_true g.2,Bool.and_true,if_pos rfl] at hat
     cases hck:cs[k]? with
     | none=>rw [hck] at hat; cases hat
     | some i =>
       rw [hck] at hat
       simp only [Bool.and_eq_true,beq_iff_eq] at hat
       obtain⟨⟨⟨⟨h1,h2⟩,h3⟩,h4⟩,hl⟩:=hat
       obtain⟨o,x,ho,hy,hQ,hJ'⟩:=take k i p a w hck g.1 hJ
       refine tails_take (T:=[]) ho h1 h2 h3 (by rw [h4]; rfl) hQ hy (hS _ _ _ _ hJ) ?_
       rw [hl]
       exact latP_any J hok hS call take alloc fin f (k+1) p _ w hp (by omega) (by omega) hJ'
   have g':(pl.getD k false&&decide (k < cs.length))=false:=by
     rw [Bool.eq_false_iff]; intro e
     rw [Bool.and_eq_true,decide_eq_true_eq] at e
     exact g e
   rw [g',if_neg Bool.false_ne_true] at hat
   unfold latAt at hat
   rw [hnot,Bool.false_or,Bool.and_eq_true,List.all_eq_true] at hat
   obtain⟨hne,hall⟩:=hat
   refine ⟨fun h0=>by rw [h0] at hne; simp at hne,fun i hi=>?_⟩
   have hi':=hall i hi
   rw [Bool.or_eq_true] at hi'
   rcases hi' with h | h
   · cases hck:cs[k]? with
     | none=>rw [hck] at h; simp at h
     | some j =>
       rw [hck] at h
       simp only [Bool.and_eq_true,beq_iff_eq] at h
       obtain⟨rfl,hl⟩:=h
       have hk':k < cs.length:=by
         rcases Nat.lt_or_ge k cs.length with g | g
         · exact g
         · rw [List.getElem?_eq_none g] at hck; cases hck
       refine wpOp_mono (fun b v hb=>⟨Or.inr (hS _ _ _ _ hb),?_⟩) (call k i p a w hck (by cases e:pl.getD k false; rfl; exact absurd ⟨e,hk'⟩ g) hJ)
       rw [hl]
       exact latP_any J hok hS call take alloc fin f (k+1) p b v hp (by omega) (by omega) hb
   · rw [List.any_eq_true] at h
     obtain⟨m,hm,h⟩:=h
     simp only [Bool.and_eq_true,beq_iff_eq] at h
     obtain⟨⟨h1,h2⟩,hl⟩:=h
     have h3:p[m]? = some none:=by
       rw [List.getElem?_map] at h2
       cases hpm:p[m]? with
       | none=>rw [hpm] at h2; simp at h2
       | some x =>
         rw [hpm] at h2
         cases x
         · rfl
         · simp at h2
     refine wpOp_mono (fun b v hb=>?_) (alloc k m i p a w h1 h3 hJ)
     obtain⟨q,hb⟩:=hb
     refine ⟨Or.inr (hS _ _ _ _ hb),?_⟩
     have e:(p.map Option.isSome).set m true=(p.set m (some q)).map Option.isSome:=by
       rw [List.map_set]; rfl
     rw [hl,e]
     exact latP_any J hok hS call take alloc fin f k (p.set m (some q)) b v (by rw [List.length_set]; exact hp) hk (by have:=count_set p m q h3; omega) hb
theorem latP_from {pl:List Bool} {a0:Act} {w0:World} {L0:Array Bool} (cs ms slots:List Nat) (N f:Nat) (J:Act→Nat→List (Option Nat)→Act→World→Prop) (hok:latOkP pl md ops L0 cs ms=true) (hf:f=cs.length+ms.length)
   (hsl:(slots.all fun s=>decide (s < a0.tmps.size))=true) (h0:∀ A:Act,(∀ s,s∈slots→s < A.tmps.size)→J A 0 (List.replicate ms.length none) A w0)
   (hS:∀ k p a w,J a0 k p a w→S w)
   (call:∀ k i p a w,cs[k]? = some i→pl.getD k false=false→J a0 k p a w→wpOp P ops Q i (fun b v=>J a0 (k+1) p b v) a w)
   (take:∀ k i p a w,cs[k]? = some i→pl.getD k false=true→J a0 k p a w→∃ o x,ops[i]? = some o∧YieldsIf P ops S o x a∧(∀ c a w,Q (.panic c) (a.put o.dst x) w→Q (.panic c) a w)∧J a0 (k+1) p (a.put o.dst x) w)
   (alloc:∀ k m i p a w,ms[m]? = some i→p[m]? = some none→J a0 k p a w→wpOp P ops Q i (fun b v=>∃ q,J a0 k (p.set m (some q)) b v) a w)
   (fin:∀ p a w,p.length=ms.length→(∀ x∈p,x.isSome=true)→J a0 cs.length p a w→wpAnyV P md ops Q S [] N (lstOf L0 cs ms cs.length (p.map Option.isSome)) a w) :
   wpAnyV P md ops Q S [] (N+f) L0 a0 w0:=by
 have h:=latP_any (J a0) hok hS call take alloc fin f 0 (List.replicate ms.length none) a0 w0 (by simp) (Nat.zero_le _) (by rw [hf]; simp) (h0 a0 (fun s hs=>by rw [List.all_eq_true] at hsl; exact of_decide_eq_true (hsl s hs)))
 have e:lstOf L0 cs ms 0 ((List.replicate ms.length none).map (Option.isSome (α:=Nat)))=L0:=by
   unfold lstOf
   rw [List.take_zero,List.foldl_nil]
   have:∀ (ms:List Nat) (L:Array Bool),(ms.zip ((List.replicate ms.length none).map (Option.isSome (α:=Nat)))).foldl (fun l x=>if x.2 then l.setIfInBounds x.1 true else l) L=L:=by
     intro ms
     induction ms with
     | nil=>intro L; rfl
     | cons m ms ih=>intro L; simpa [List.replicate_succ] using ih L
   exact this ms L0
 rw [e] at h
 exact h
end
end
section
open Go.RowKit
section
variable {B v v':World} {l:List (Nat×Array Value)}
theorem Own.setIn (h:Own B l v) (i:Nat) {q:Nat} {c:Array Value} (hi:l[i]? = some (q,c)) (k:Nat) (y:Value):Own B (l.set i (q,c.setIfInBounds k y)) (v.setCell ⟨q,k,none⟩ y):=
 h.at i hi (h.base.setCell (h.lowest i hi) _) ((h.nth i hi).setIn k y) (fun _ hx hne=>hx.set hne)
theorem Own.to {l':List (Nat×Array Value)} (h:Own B l v) (e:l=l'):Own B l' v:=e ▸ h
theorem Own.rebase (h:Own B l v) {pb:Nat} {y:Value} (hp:pb < B.heap.size) (hb:Put ⟨pb,0,none⟩ y v v'):Own (B.setCell ⟨pb,0,none⟩ y) l v' where
 base:=by
   have k:=both h.base ⟨pb,0,none⟩ y
   have k2:Below v.heap.size (v.setCell ⟨pb,0,none⟩ y) v':=hb
   rw [size_set]
   exact k.trans (k2.mono h.base.size)
 blocks:=fun x hx=>by
   obtain⟨h1,h2⟩:=h.blocks x hx
   have hne:pb≠x.1:=by omega
   exact ⟨h1.put hne hb,by rw [size_set]; exact h2⟩
 apart:=h.apart
theorem Has1.other {w:World} {pb:Nat} {x:Value} (h:Has1 w (pb,#[x])) (y:Value):Has1 (w.setCell ⟨pb,0,none⟩ y) (pb,#[y]):=h.setIn 0 y
theorem Own.put {p:Addr} {y:Value} (h:Own (B.setCell p y) l v):Put p y B v:=by
 have k:=h.base
 rw [size_set] at k
 exact k
theorem put_same {p:Addr} {x:Value} (hc:v.cell? p=some x) (h:Put p x v v'):Below v.heap.size v v':=by
 have k:Below v.heap.size (v.setCell p x) v':=h
 exact ⟨k.os,k.tape,k.output,by have:=k.size; rw [size_set] at this; exact this,fun i hi=>(k.block i hi).trans (set_self v p x hc i)⟩
theorem Has1.ten {w:World} {b:Nat} {x0 x1 x2 x3 x4 x5 x6 x7 x8 x9:Value} (h:Has1 w (b,#[x0,x1,x2,x3,x4,x5,x6,x7,x8,x9])) :
   w.cell? ⟨b,0,none⟩=some x0∧w.cell? ⟨b,1,none⟩=some x1∧w.cell? ⟨b,2,none⟩=some x2∧w.cell? ⟨b,3,none⟩=some x3∧w.cell? ⟨b,4,none⟩=some x4∧w.cell? ⟨b,5,none⟩=some x5∧w.cell? ⟨b,6,none⟩=some x6∧w.cell? ⟨b,7,none⟩=some x7∧w.cell? ⟨b,8,none⟩=some x8∧w.cell? ⟨b,9,none⟩=some x9:=
 ⟨h.2.1 0,h.2.1 1,h.2.1 2,h.2.1 3,h.2.1 4,h.2.1 5,h.2.1 6,h.2.1 7,h.2.1 8,h.2.1 9⟩
end
theorem kb_of {f:FuncId} {pb:Nat} {xs:Array Value} {x:Value} {v:World} (hC:Has1 v (pb,#[true]))
   (h:Calls Tryz.prog f xs v fun r w'=>r = .returned x∧Put ⟨pb,0,none⟩ (.int .i64 0) v w'):Calls Tryz.prog f xs v fun r w'=>r = .returned x∧Below v.heap.size v w':=
 h.mono fun _ _ ⟨h1,h2⟩=>⟨h1,put_same hC.pc h2⟩
end
section
open Go.RowKit
attribute [local go_sem] run_store_float
theorem lcheck1_walk (q a0 b0:Nat) (R0 p0 g0:Bool) (w:World) (hA:Has1 w (q,#[a0,b0]))
   (c0:Hid (∀ w,Calls Tryz.prog 53 #[.agg #[a0,b0]] w (Rt (.bool R0) w)))
   (o0:(FloatKind.f64.format.order a0 0 == some Ordering.lt)=p0) (u0:(FloatKind.f64.format.order b0 4607182418800017408 == some Ordering.gt)=g0)
   : Calls Tryz.prog 140 #[.slice (some ⟨q,0,none⟩) 1 1] w fun r w'=>r = .returned (.int .i64 (if (R0)=true then (if (p0 || g0)=true then 2 else 0) else 20))∧Below w.heap.size w w':=by
 have M:Hid (Mem w [(q,#[a0,b0])] w):=Lib.hid ⟨Below.refl _ _,fun p hp=>by obtain rfl:=List.mem_singleton.1 hp; exact hA⟩
 clear hA
 obtain⟨k0,k1⟩:=(M.out.nth 0 rfl).two
 go_enter Tryz.func140,Tryz.ntmps140
 go_wp2_with fail
 refine wp_loop_rounds 2 ?_
 rw [rounds_succ]
 go_wp2_with fail
 replace M:=Lib.hid (M.out.made #[a0,b0] 31)
 refine (c0.out _).mono ?_
 rintro r w0 ⟨rfl,hb⟩
 replace M:=Lib.hid (M.out.below hb)
 clear hb k0 k1 c0
 obtain⟨k0,k1⟩:=(M.out.nth 1 rfl).two
 cases R0
 · go_wp2
   go_ret
   exact ⟨rfl,M.out.base⟩
 · go_wp2_with fail
   rw [rounds_succ]
   go_wp2_with fail
   refine wp_loop_rounds 2 ?_
   rw [rounds_succ]
   have M1:=Lib.hid (M.out.made #[a0,b0] 31)
   cases p0
   rotate_left
   · go_wp2
     go_ret
     exact ⟨by simp,M1.out.base⟩
   cases g0
   rotate_left
   · go_wp2
     go_ret
     exact ⟨by simp,M1.out.base⟩
   go_wp2_with fail
   clear M k0 k1 o0 u0
   have M:=M1
   clear M1
   obtain⟨k0,k1⟩:=(M.out.nth 2 rfl).two
   rw [rounds_succ]
   go_wp2
   go_ret
   exact ⟨rfl,M.out.base⟩
theorem eq_floats (x y:Nat) (w:World):(Op.equalIn 9999 25 (.float .f64 x) (.float .f64 y)).run Tryz.prog w = .ok (Op.floatEq .f64 x y) w:=by
 have hf:=run_underlying Tryz.underlying25 (w:=w)
 show (Op.equalIn (9998+1) 25 _ _).run Tryz.prog w=_
 rw [Op.equalIn]
 simp only [Sem.run_bind,hf,Result.andThen]
 simp [go_sem]
theorem overLit_walk (al ah bl bh rl rh:Nat) (e:Int) (pb p:Nat) (w:World) (hC:Has1 w (pb,#[true])) (hA:Has1 w (p,#[al,ah])) (n1:pb≠p)
   (cP:Hid (∀ w,Calls Tryz.prog 19 #[] w (Rt (.agg #[bl,bh]) w)))
   (cD:Hid (K2 17 0 e al ah bl bh rl rh)) :
   Calls Tryz.prog 123 #[.pointer (some ⟨pb,0,none⟩),.pointer (some ⟨p,0,none⟩)] w fun r w'=>r = .returned (.agg #[rl,rh])∧Put ⟨pb,0,none⟩ (.int .i64 e) w w':=by
 have E:=Lib.hid (((EnvE.start hC).add hA n1).made #[(),()] 31)
 have zp:w.heap.size≠p:=Ne.symm (Nat.ne_of_lt hA.1)
 clear hC hA n1
 go_enter Tryz.func123,Tryz.ntmps123
 go_upto_region 1 with fail
 revert E
 generalize (w.alloc (.cells #[(),()] 31))=W
 intro E
 obtain⟨k1,k2⟩:=(E.out.nth 1 rfl).two; have kc:=(E.out.nth 0 rfl).2.1; have kf:=(E.out.nth 0 rfl).2.2
 go_region_held3 (fun w'=>w'.cell? ⟨p,0,none⟩=some (.float .f64 al)∧w'.cell? ⟨p,1,none⟩=some (.float .f64 ah)) (((try dsimp only); (repeat' apply And.intro); all_goals (repeat (first | (with_reducible assumption) | ((with_reducible refine keep_undrew ?_); (with_reducible assumption)) | (with_reducible refine keep_drew ?_) | (with_reducible refine keep_alloc _ ?_) | (with_reducible refine keep_set _ (by first | (with_reducible assumption) | omega) ?_)))))
   (first
     | (go_at_call 19; (with_reducible refine (cP.out _).mono ?_); rintro rr w5 ⟨rfl,hp⟩; have E':=Lib.hid (E.out.drew.below hp); clear E hp k1 k2 kc kf; have E:=E'; clear E'; obtain⟨k1,k2⟩:=(E.out.nth 1 rfl).two; have kc:=(E.out.nth 0 rfl).2.1; have kf:=(E.out.nth 0 rfl).2.2)
     | (go_at_call 17; (with_reducible refine (cD.out _ _ E.out.cal).mono ?_); rintro rr w5 ⟨rfl,hp⟩; have E':=Lib.hid (E.out.putc hp); clear E hp k1 k2 kc kf; have E:=E'; clear E'; obtain⟨k1,k2⟩:=(E.out.nth 1 rfl).two; have kc:=(E.out.nth 0 rfl).2.1; have kf:=(E.out.nth 0 rfl).2.2))
 have F:=Lib.hid (E.out.set2 (E.out.nth 0 rfl) (E.out.ne 0 rfl) (by omega) (.float .f64 rl) (.float .f64 rh))
 go_wp2
 obtain⟨f1,f2⟩:=(F.out.nth 0 rfl).two
 exact bodyPost_ret (v:=.agg #[.float .f64 rl,.float .f64 rh]) (by simp [results,Tryz.results123,go_sem,f1,f2]) rfl ⟨rfl,F.out.put⟩
theorem computed_over (al ah rl rh:Nat) (e:Int) (p s:Nat) (w:World) (hp:Has1 w (p,#[al,ah]))
   (cH:Hid (∀ v,Below w.heap.size w v→Calls Tryz.prog 140 #[.slice (some ⟨s,0,none⟩) 1 1] v (Rt (.int .i64 0) v)))
   (cF:Hid (∀ (pb:Nat) (v:World),Has1 v (pb,#[true])→Has1 v (p,#[al,ah])→pb≠p →  Calls Tryz.prog 123 #[.pointer (some ⟨pb,0,none⟩),.pointer (some ⟨p,0,none⟩)] v fun r w'=>r = .returned (.agg #[rl,rh])∧Put ⟨pb,0,none⟩ (.int .i64 e) v w')) :
   Calls Tryz.prog 122 #[.func (.func 123) #[] #[.pointer (some ⟨p,0,none⟩)],.slice (some ⟨s,0,none⟩) 1 1] w (Rt (.tuple #[.agg #[rl,rh],.int .i64 e]) w):=by
 have M:=Lib.hid ((Own.nil w).made #[(),()] 31)
 have zp:p < w.heap.size:=hp.1
 go_enter Tryz.func122,Tryz.ntmps122
 go_wp2_with fail
 refine (cH.out _ M.out.base).mono ?_
 rintro r w1 ⟨rfl,hb⟩
 replace M:=Lib.hid ((M.out.below hb).made #[true] 50)
 clear hb cH
 have Hp:=Lib.hid (Has1.below hp M.out.base)
 clear hp
 have hz:w.heap.size≤w1.heap.size:=M.out.lowest 0 rfl
 go_wp2_with fail
 refine (cF.out _ _ (M.out.nth 0 rfl) Hp.out (by omega)).mono ?_
 rintro r w2 ⟨rfl,hp⟩
 replace M:=Lib.hid (M.out.putAt 0 rfl hp)
 dsimp only [List.set] at M
 clear hp cF Hp
 go_wp2_with fail
 refine (err_any e _ 0 _ (M.out.nth 0 rfl).pc).mono ?_
 rintro r w3 ⟨rfl,rfl⟩
 have kc:=(M.out.nth 1 rfl).2.1
 have kf:=(M.out.nth 1 rfl).2.2
 replace M:=Lib.hid (M.out.set2 1 rfl (.float .f64 rl) (.float .f64 rh))
 dsimp only [List.set] at M
 go_wp2
 obtain⟨f1,f2⟩:=(M.out.nth 1 rfl).two
 exact bodyPost_ret (v:=.tuple #[.agg #[.float .f64 rl,.float .f64 rh],.int .i64 e]) (by simp [results,Tryz.results122,go_sem,f1,f2]) rfl ⟨rfl,M.out.base⟩
theorem overPi_walk (al ah rl rh:Nat) (e:Int) (w:World)
   (cC:Hid (∀ (p s:Nat) (v:World),Has1 v (p,#[al,ah])→Has1 v (s,#[al,ah])→Calls Tryz.prog 122 #[.func (.func 123) #[] #[.pointer (some ⟨p,0,none⟩)],.slice (some ⟨s,0,none⟩) 1 1] v (Rt (.tuple #[.agg #[rl,rh],.int .i64 e]) v))) :
   Calls Tryz.prog 101 #[.agg #[al,ah]] w (Rt (.tuple #[.agg #[rl,rh],.int .i64 e]) w):=by
 have M:=Lib.hid ((((Own.nil w).made #[al,ah] 31).made #[(),()] 31).made #[al,ah] 31)
 simp only [World.size_alloc] at M
 have hmf:∀ (fn:Fn) (first cap:Array Value) (w:World),(Instr.makeFunc fn first cap).run Tryz.prog w = .ok (.func fn first cap) w:=fun _ _ _ _=>rfl
 obtain⟨k0,k1⟩:=(M.out.nth 2 rfl).two
 go_enter Tryz.func101,Tryz.ntmps101
 go_wp2_with fail
 refine (cC.out _ _ _ (M.out.nth 2 rfl) (M.out.nth 0 rfl)).mono ?_
 rintro r w1 ⟨rfl,hb⟩
 replace M:=Lib.hid (M.out.below hb)
 clear hb cC k0 k1 hmf
 have kc:=(M.out.nth 1 rfl).2.1
 have kf:=(M.out.nth 1 rfl).2.2
 replace M:=Lib.hid (M.out.set2 1 rfl (.float .f64 rl) (.float .f64 rh))
 go_wp2
 obtain⟨f1,f2⟩:=(M.out.nth 1 rfl).two
 exact bodyPost_ret (v:=.tuple #[.agg #[.float .f64 rl,.float .f64 rh],.int .i64 e]) (by simp [results,Tryz.results101,go_sem,f1,f2]) rfl ⟨rfl,M.out.base⟩
theorem value_walk (al ah rl rh:Nat) (e:Int) (w:World)
   (cO:Hid (∀ w,Calls Tryz.prog 101 #[.agg #[al,ah]] w (Rt (.tuple #[.agg #[rl,rh],.int .i64 e]) w))) :
   Calls Tryz.prog 81 #[.agg #[al,ah]] w (Rt (.tuple #[.agg #[rl,rh],.int .i64 e]) w):=by
 have M:=Lib.hid (((Own.nil w).made #[al,ah] 31).made #[(),()] 31)
 simp only [World.size_alloc] at M
 obtain⟨k1,k2⟩:=(M.out.nth 1 rfl).two
 go_enter Tryz.func81,Tryz.ntmps81
 go_wp2_with fail
 refine (cO.out _).mono ?_
 rintro r w1 ⟨rfl,hb⟩
 replace M:=Lib.hid (M.out.below hb)
 clear hb cO k1 k2
 have kc:=(M.out.nth 0 rfl).2.1
 have kf:=(M.out.nth 0 rfl).2.2
 replace M:=Lib.hid (M.out.set2 0 rfl (.float .f64 rl) (.float .f64 rh))
 go_wp2
 obtain⟨f1,f2⟩:=(M.out.nth 0 rfl).two
 exact bodyPost_ret (v:=.tuple #[.agg #[.float .f64 rl,.float .f64 rh],.int .i64 e]) (by simp [results,Tryz.results81,go_sem,f1,f2]) rfl ⟨rfl,M.out.base⟩
theorem density_walk (al ah rl rh:Nat) (e:Int) (w:World)
   (cO:Hid (∀ w,Calls Tryz.prog 101 #[.agg #[al,ah]] w (Rt (.tuple #[.agg #[rl,rh],.int .i64 e]) w))) :
   Calls Tryz.prog 83 #[.agg #[al,ah]] w (Rt (.tuple #[.agg #[rl,rh],.int .i64 e]) w):=by
 have M:=Lib.hid (((Own.nil w).made #[al,ah] 31).made #[(),()] 31)
 simp only [World.size_alloc] at M
 obtain⟨k1,k2⟩:=(M.out.nth 1 rfl).two
 go_enter Tryz.func83,Tryz.ntmps83
 go_wp2_with fail
 refine (cO.out _).mono ?_
 rintro r w1 ⟨rfl,hb⟩
 replace M:=Lib.hid (M.out.below hb)
 clear hb cO k1 k2
 have kc:=(M.out.nth 0 rfl).2.1
 have kf:=(M.out.nth 0 rfl).2.2
 replace M:=Lib.hid (M.out.set2 0 rfl (.float .f64 rl) (.float .f64 rh))
 go_wp2
 obtain⟨f1,f2⟩:=(M.out.nth 0 rfl).two
 exact bodyPost_ret (v:=.tuple #[.agg #[.float .f64 rl,.float .f64 rh],.int .i64 e]) (by simp [results,Tryz.results83,go_sem,f1,f2]) rfl ⟨rfl,M.out.base⟩
end
section
open Go.RowKit
section
variable {B w v v':World} {l:List (Nat×Array Value)} {p:Addr} {x y:Value}
theorem Own.srf {pb:Nat} {c:Array Value} (hC:Has1 w (pb,c)) (h0:c[0]? = some x):Own (w.setCell ⟨pb,0,none⟩ x) [] w where
 base:=⟨rfl,rfl,rfl,by rw [size_set]; exact Nat.le_refl _,fun k _=>(set_self w ⟨pb,0,none⟩ x ((hC.2.1 0).trans h0) k).symm⟩
 blocks:=fun _ h=>by cases h
 apart:=List.Pairwise.nil
theorem resrf_base (h:Below (w.setCell p x).heap.size (w.setCell p x) v) (hb:Put p y v v'):Below (w.setCell p y).heap.size (w.setCell p y) v':=by
 have k:=both h p y
 have k2:Below v.heap.size (v.setCell p y) v':=hb
 have s:=h.size
 rw [size_set] at s k ⊢
 have k3:=k.trans (k2.mono s)
 refine ⟨k3.os,k3.tape,k3.output,?_,fun i hi=>(k3.block i hi).trans (set_set w p x y i)⟩
 have:=k3.size
 rw [size_set,size_set] at this
 rw [size_set]; exact this
theorem Own.resrf (h:Own (w.setCell p x) l v) (hp:p.block < w.heap.size) (hb:Put p y v v'):Own (w.setCell p y) l v' where
 base:=resrf_base h.base hb
 blocks:=fun q hq=>by
   obtain⟨h1,h2⟩:=h.blocks q hq
   rw [size_set] at h2 ⊢
   exact ⟨h1.put (by omega) hb,h2⟩
 apart:=h.apart
theorem OwnF.resrf {zc:List (Array Value)} {pl:List (Option Nat)} (h:OwnF (w.setCell p x) l zc pl v) (hp:p.block < w.heap.size) (hb:Put p y v v'):OwnF (w.setCell p y) l zc pl v':=
 ⟨h.own.resrf hp hb,fun m r hm=>by
   obtain⟨⟨c,h1,h2⟩,h3,h4⟩:=h.blk m r hm
   rw [size_set] at h3 ⊢
   exact ⟨⟨c,h1,h2.put (by show p.block≠r; omega) hb⟩,h3,h4⟩,h.apart⟩
theorem Has1.at {pb:Nat} {e x1 x2 x3 x4 x5 x6:Value} (hC:Has1 w (pb,#[e,x1,x2,x3,x4,x5,x6])) (h:Own (w.setCell ⟨pb,0,none⟩ y) l v):Has1 v (pb,#[y,x1,x2,x3,x4,x5,x6]):=
 (hC.setIn 0 y).below h.base
theorem Own.base_srf {pb:Nat} {e x1 x2 x3 x4 x5 x6:Value} (h:Own (w.setCell ⟨pb,0,none⟩ e) l v) (hC:Has1 w (pb,#[e,x1,x2,x3,x4,x5,x6])):Below w.heap.size w v:=put_same (hC.2.1 0) h.put
theorem Has1.c0 {pb:Nat} {e x1 x2 x3 x4 x5 x6:Value} (h:Has1 v (pb,#[e,x1,x2,x3,x4,x5,x6])):v.cell? ⟨pb,0,none⟩=some e:=h.2.1 0
theorem Has1.seven {b:Nat} {x0 x1 x2 x3 x4 x5 x6:Value} (h:Has1 v (b,#[x0,x1,x2,x3,x4,x5,x6])) :
   v.cell? ⟨b,0,none⟩=some x0∧v.cell? ⟨b,1,none⟩=some x1∧v.cell? ⟨b,2,none⟩=some x2∧v.cell? ⟨b,3,none⟩=some x3∧v.cell? ⟨b,4,none⟩=some x4∧v.cell? ⟨b,5,none⟩=some x5∧v.cell? ⟨b,6,none⟩=some x6:=
 ⟨h.2.1 0,h.2.1 1,h.2.1 2,h.2.1 3,h.2.1 4,h.2.1 5,h.2.1 6⟩
theorem Has1.but0 {b:Nat} {x0 x1 x2 x3 x4 x5 x6:Value} (h:Has1 v (b,#[x0,x1,x2,x3,x4,x5,x6])) :
   v.cell? ⟨b,1,none⟩=some x1∧v.cell? ⟨b,2,none⟩=some x2∧v.cell? ⟨b,3,none⟩=some x3∧v.cell? ⟨b,4,none⟩=some x4∧v.cell? ⟨b,5,none⟩=some x5∧v.cell? ⟨b,6,none⟩=some x6:=
 ⟨h.2.1 1,h.2.1 2,h.2.1 3,h.2.1 4,h.2.1 5,h.2.1 6⟩
theorem Own.putIn (h:Own B l v) (i:Nat) {q k:Nat} {c:Array Value} (hi:l[i]? = some (q,c)) (hb:Put ⟨q,k,none⟩ y v v'):Own B (l.set i (q,c.setIfInBounds k y)) v':=
 h.at i hi (h.base.trans (hb.lift (h.lowest i hi) h.base.size)) (((h.nth i hi).setIn k y).below (by
   have k2:Below v.heap.size (v.setCell ⟨q,k,none⟩ y) v':=hb
   rw [size_set]; exact k2)) (fun _ hx hne=>hx.put hne hb)
end
end
end Go.Proofs.YtmkgfflebfpcdaaGreat
