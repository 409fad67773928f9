/- What the claim stands on, part 27: CoL, CoB, CoC, CoTD. -/
import Derived.Test.YtnaomilkgfkegaaGreatTA25
import Derived.Test.YtnaomilkgfkegaaGreatTA23
import Derived.Test.YtnaomilkgfkegaaGreatTA21
import Derived.Test.YtnaomilkgfkegaaGreatTA9
import Derived.Test.YtnaomilkgfkegaaGreatTA24
set_option maxHeartbeats 16000000
set_option maxRecDepth 100000
namespace Go.Proofs.YtnaomilkgfkegaaGreat
section
open Go.RowKit
attribute [local go_sem] run_store_float
theorem awake12_walk {a0 a1 a2 a3 a4 a5 b0 b1 b2 b3 b4 b5:Nat} (w:World)
   (c1:Hid (∀ w,Calls Tryz.prog 13 #[.int .u64 0,.int .u64 0] w fun r w'=>r = .returned (.tuple #[.agg #[.float .f64 a0,.float .f64 a1,.float .f64 a2,.float .f64 a3,.float .f64 a4,.float .f64 a5],.int .i64 0])∧Below w.heap.size w w'))
   (c2:Hid (∀ w,Calls Tryz.prog 13 #[.int .u64 9223372036854775808,.int .u64 0] w fun r w'=>r = .returned (.tuple #[.agg #[.float .f64 b0,.float .f64 b1,.float .f64 b2,.float .f64 b3,.float .f64 b4,.float .f64 b5],.int .i64 0])∧Below w.heap.size w w'))
   (c3:Hid (∀ w,Calls Tryz.prog 25 #[.float .f64 4611686018427387904] w fun r w'=>r = .returned (.agg #[.float .f64 4611686018427387904,.float .f64 4611686018427387904])∧Below w.heap.size w w'))
   (c4:Hid (∀ w,Calls Tryz.prog 15 #[.agg #[.float .f64 0,.float .f64 4607182418800017408,.float .f64 4611686018427387904,.float .f64 4611686018427387904,.float .f64 13830554455654793216,.float .f64 0]] w fun r w'=>r = .returned (.tuple #[.agg #[.float .f64 4602678819172646912,.float .f64 4611686018427387904,.float .f64 13826050856027422720],.int .i64 0])∧Below w.heap.size w w'))
   (c5:Hid (∀ w,Calls Tryz.prog 25 #[.float .f64 4607182418800017408] w fun r w'=>r = .returned (.agg #[.float .f64 4607182418800017408,.float .f64 4607182418800017408])∧Below w.heap.size w w'))
   (e_a4_418800017408:(Op.floatEq .f64 a4 4607182418800017408=true))
   (e_a5_418800017408:(Op.floatEq .f64 a5 4607182418800017408=true))
   (o_leqa0_0:(((FloatKind.f64.format.order a0 0 == some Ordering.lt) || (FloatKind.f64.format.order a0 0 == some Ordering.eq))=true))
   (o_geqa1_0:(((FloatKind.f64.format.order a1 0 == some Ordering.gt) || (FloatKind.f64.format.order a1 0 == some Ordering.eq))=true))
   (o_lssa1_433705197568:((FloatKind.f64.format.order a1 4427038433705197568 == some Ordering.lt)=true))
   (c6:Hid (∀ w,Calls Tryz.prog 11 #[.agg #[.float .f64 b0,.float .f64 b1],.agg #[.float .f64 4604544271216121918,.float .f64 4604544271225129117]] w fun r w'=>r = .returned (.bool true)∧Below w.heap.size w w'))
   (c7:Hid (∀ w,Calls Tryz.prog 11 #[.agg #[.float .f64 b4,.float .f64 b5],.agg #[.float .f64 4604544271216121918,.float .f64 4604544271225129117]] w fun r w'=>r = .returned (.bool true)∧Below w.heap.size w w'))
   (o_leqb2_0:(((FloatKind.f64.format.order b2 0 == some Ordering.lt) || (FloatKind.f64.format.order b2 0 == some Ordering.eq))=true))
   (o_geqb3_0:(((FloatKind.f64.format.order b3 0 == some Ordering.gt) || (FloatKind.f64.format.order b3 0 == some Ordering.eq))=true))
   (e_819172646912_819172646912:(Op.floatEq .f64 4602678819172646912 4602678819172646912=true))
   (e_018427387904_018427387904:(Op.floatEq .f64 4611686018427387904 4611686018427387904=true))
   (e_856027422720_856027422720:(Op.floatEq .f64 13826050856027422720 13826050856027422720=true)) :
   Calls Tryz.prog 17 #[] w fun r w'=>r = .returned (.bool true)∧Below w.heap.size w w':=by
 have M:=Lib.hid (Own.nil w)
 have eqF:=eq_floats
 go_enter Tryz.func17,Tryz.ntmps17
 go_wp2_with fail
 refine (c1.out _).mono ?_
 rintro r w1_ ⟨rfl,hb⟩
 replace M:=Lib.hid (M.out.below hb)
 clear hb
 replace M:=Lib.hid (M.out.made #[.float .f64 a0,.float .f64 a1,.float .f64 a2,.float .f64 a3,.float .f64 a4,.float .f64 a5] 33)
 go_wp2_with fail
 refine (c2.out _).mono ?_
 rintro r w2_ ⟨rfl,hb⟩
 replace M:=Lib.hid (M.out.below hb)
 clear hb
 replace M:=Lib.hid (M.out.made #[.float .f64 b0,.float .f64 b1,.float .f64 b2,.float .f64 b3,.float .f64 b4,.float .f64 b5] 33)
 go_wp2_with fail
 refine (c3.out _).mono ?_
 rintro r w3_ ⟨rfl,hb⟩
 replace M:=Lib.hid (M.out.below hb)
 clear hb
 go_wp2_with fail
 refine (c4.out _).mono ?_
 rintro r w4_ ⟨rfl,hb⟩
 replace M:=Lib.hid (M.out.below hb)
 clear hb
 replace M:=Lib.hid (M.out.made #[.float .f64 4602678819172646912,.float .f64 4611686018427387904,.float .f64 13826050856027422720] 49)
 replace M:=Lib.hid (M.out.made #[.float .f64 4604544271216121918,.float .f64 4604544271225129117] 31)
 simp only [World.size_alloc] at M
 go_upto_region 6 with fail
 simp only [List.append_eq,List.cons_append,List.nil_append]
 replace M:=Lib.hid M.out.drew
 obtain⟨k1,k2,k3,k4,k5,k6⟩:=(M.out.nth 3 rfl).six
 obtain⟨k7,k8,k9,k10,k11,k12⟩:=(M.out.nth 2 rfl).six
 obtain⟨k13,k14⟩:=(M.out.nth 0 rfl).two
 obtain⟨k15,k16,k17⟩:=(M.out.nth 1 rfl).three
 go_region_held3 (fun w'=>(w'.cell? ⟨w1_.heap.size,0,none⟩=some (.float .f64 a0)∧w'.cell? ⟨w1_.heap.size,1,none⟩=some (.float .f64 a1)∧w'.cell? ⟨w1_.heap.size,2,none⟩=some (.float .f64 a2)∧w'.cell? ⟨w1_.heap.size,3,none⟩=some (.float .f64 a3)∧w'.cell? ⟨w1_.heap.size,4,none⟩=some (.float .f64 a4)∧w'.cell? ⟨w1_.heap.size,5,none⟩=some (.float .f64 a5))∧(w'.cell? ⟨w2_.heap.size,0,none⟩=some (.float .f64 b0)∧w'.cell? ⟨w2_.heap.size,1,none⟩=some (.float .f64 b1)∧w'.cell? ⟨w2_.heap.size,2,none⟩=some (.float .f64 b2)∧w'.cell? ⟨w2_.heap.size,3,none⟩=some (.float .f64 b3)∧w'.cell? ⟨w2_.heap.size,4,none⟩=some (.float .f64 b4)∧w'.cell? ⟨w2_.heap.size,5,none⟩=some (.float .f64 b5))∧(w'.cell? ⟨(w4_.heap.size+1),0,none⟩=some (.float .f64 4604544271216121918)∧w'.cell? ⟨(w4_.heap.size+1),1,none⟩=some (.float .f64 4604544271225129117))∧(w'.cell? ⟨w4_.heap.size,0,none⟩=some (.float .f64 4602678819172646912)∧w'.cell? ⟨w4_.heap.size,1,none⟩=some (.float .f64 4611686018427387904)∧w'.cell? ⟨w4_.heap.size,2,none⟩=some (.float .f64 13826050856027422720))) (((try dsimp only); (repeat' apply And.intro); all_goals (repeat (first | (with_reducible assumption) | ((with_reducible refine keep_undrew ?_); (with_reducible assumption)) | (with_reducible refine keep_drew ?_) | (with_reducible refine keep_alloc _ ?_) | (with_reducible refine keep_set _ (by first | (with_reducible assumption) | omega) ?_)))))
   (first
     | (go_at_call 25; (with_reducible refine (c5.out _).mono ?_); rintro rr w5 ⟨rfl,hb⟩; replace M:=Lib.hid (M.out.below hb); clear hb; clear k1 k2 k3 k4 k5 k6 k7 k8 k9 k10 k11 k12 k13 k14 k15 k16 k17; obtain⟨k1,k2,k3,k4,k5,k6⟩:=(M.out.nth 3 rfl).six; obtain⟨k7,k8,k9,k10,k11,k12⟩:=(M.out.nth 2 rfl).six; obtain⟨k13,k14⟩:=(M.out.nth 0 rfl).two; obtain⟨k15,k16,k17⟩:=(M.out.nth 1 rfl).three)
     | (go_at_call 11; (with_reducible refine (c6.out _).mono ?_); rintro rr w5 ⟨rfl,hb⟩; replace M:=Lib.hid (M.out.below hb); clear hb; clear k1 k2 k3 k4 k5 k6 k7 k8 k9 k10 k11 k12 k13 k14 k15 k16 k17; obtain⟨k1,k2,k3,k4,k5,k6⟩:=(M.out.nth 3 rfl).six; obtain⟨k7,k8,k9,k10,k11,k12⟩:=(M.out.nth 2 rfl).six; obtain⟨k13,k14⟩:=(M.out.nth 0 rfl).two; obtain⟨k15,k16,k17⟩:=(M.out.nth 1 rfl).three)
     | (go_at_call 11; (with_reducible refine (c7.out _).mono ?_); rintro rr w5 ⟨rfl,hb⟩; replace M:=Lib.hid (M.out.below hb); clear hb; clear k1 k2 k3 k4 k5 k6 k7 k8 k9 k10 k11 k12 k13 k14 k15 k16 k17; obtain⟨k1,k2,k3,k4,k5,k6⟩:=(M.out.nth 3 rfl).six; obtain⟨k7,k8,k9,k10,k11,k12⟩:=(M.out.nth 2 rfl).six; obtain⟨k13,k14⟩:=(M.out.nth 0 rfl).two; obtain⟨k15,k16,k17⟩:=(M.out.nth 1 rfl).three))
 clear k1 k2 k3 k4 k5 k6 k7 k8 k9 k10 k11 k12 k13 k14 k15 k16 k17
 go_wp2
 go_ret
 exact ⟨rfl,M.out.base⟩
end
section
open Go.RowKit
theorem ivR_of {a b:Nat} (ra:rightB a=true) (rb:rightB b=true) (h:val a≤val b):ivR a b=true:=by
 unfold ivR leB
 rw [ra,rb,decide_eq_true h]; rfl
def Cx.a (u:Nat):Res:=⟨0,ofLo u,ofHi u⟩
structure DrawC (u:Nat):Prop where
 fit:Fit (Cx.a u)
 lo:0≤val (ofLo u)
 hi:val (ofHi u)≤SS
 i:In (Cx.a u) cuI
theorem draw_c {u:Nat} (hu:u < 18446744073709551616):DrawC u:=by
 obtain⟨hd,hup,_,_⟩:=of_tight u hu
 obtain⟨a1,a2,a3,a4⟩:=hd.ok
 obtain⟨b1,b2,b3,b4⟩:=hup.ok
 rw [show ((1:Nat):Int)=1 from rfl,Int.mul_one] at a3 b3
 have v0:=cv0
 have z:=a4 0 (by decide) (by decide) (by rw [v0]; omega)
 rw [v0] at z
 have hlt:u*2 ^ dr < 2 ^ sq:=by rw [one_dr]; exact Nat.mul_lt_mul_of_pos_right hu (Nat.two_pow_pos _)
 have o:val (ofHi u)≤SS:=by
   have:=b4 4607182418800017408 (by decide) (by decide) (by rw [val_one]; omega)
   rw [val_one] at this
   exact this
 have f:Fit (Cx.a u):=⟨rfl,a1,b1,ivR_of a2 b2 (Int.le_trans a3 b3)⟩
 exact ⟨f,z,o,f,by rw [cu_ends.1]; exact z,by rw [cu_ends.2]; exact o⟩
theorem draw_fine {u:Nat} (D:DrawC u):fineB (ofLo u) (ofHi u)=true:=by
 have us:val u1=SS:=by decide +kernel
 unfold fineB leB
 rw [show ivR (ofLo u) (ofHi u)=true from D.fit.iv,decide_eq_true (by rw [val_nil]; exact D.lo:val 0≤val (ofLo u)),decide_eq_true (by rw [us]; exact D.hi:val (ofHi u)≤val u1)]; rfl
theorem cedge_call {a:Res} (f:Fit a) (w:World):Calls Tryz.prog 31 #[.agg #[.float .f64 a.lo,.float .f64 a.hi],.float .f64 13830554455654793216,.float .f64 4607182418800017408] w fun r w'=>r = .returned (.agg #[.float .f64 (edgeR a).lo,.float .f64 (edgeR a).hi])∧Below w.heap.size w w':=by
 rw [edgeR_lo,edgeR_hi]
 obtain⟨l1,l2,_⟩:=max_facts a.lo m1 f.lo (by decide) f.rlo (by decide)
 obtain⟨k1,k2,_⟩:=max_facts a.hi m1 f.hi (by decide) f.rhi (by decide)
 exact cclamped_walk w (fun ts t w=>(run_less a.lo m1 f.lo (by decide) f.rlo (by decide) ts t w).2) (fun ts t w=>(run_less (maxW a.lo m1) u1 l1 (by decide) l2 (by decide) ts t w).1)
   (fun ts t w=>(run_less a.hi m1 f.hi (by decide) f.rhi (by decide) ts t w).2) (fun ts t w=>(run_less (maxW a.hi m1) u1 k1 (by decide) k2 (by decide) ts t w).1)
theorem cunit_call {a:Res} (f:Fit a) (w:World):Calls Tryz.prog 31 #[.agg #[.float .f64 a.lo,.float .f64 a.hi],.float .f64 0,.float .f64 4607182418800017408] w fun r w'=>r = .returned (.agg #[.float .f64 (clampR a).lo,.float .f64 (clampR a).hi])∧Below w.heap.size w w':=by
 obtain⟨l1,l2,_⟩:=max_facts a.lo 0 f.lo (by decide) f.rlo (by decide)
 obtain⟨k1,k2,_⟩:=max_facts a.hi 0 f.hi (by decide) f.rhi (by decide)
 exact cclamped_walk w (fun ts t w=>(run_less a.lo 0 f.lo (by decide) f.rlo (by decide) ts t w).2) (fun ts t w=>(run_less (maxW a.lo 0) u1 l1 (by decide) l2 (by decide) ts t w).1)
   (fun ts t w=>(run_less a.hi 0 f.hi (by decide) f.rhi (by decide) ts t w).2) (fun ts t w=>(run_less (maxW a.hi 0) u1 k1 (by decide) k2 (by decide) ts t w).1)
def Cx.s (v:Nat):Res:=sinU (ofLo v) (ofHi v)
def Cx.c (v:Nat):Res:=cosU (ofLo v) (ofHi v)
theorem wide_c {v:Nat} (hv:v < 18446744073709551616):In (Cx.s v) wideR∧In (Cx.c v) wideR:=by
 have V:=draw_c hv
 obtain⟨_,ta,tb,_,_⟩:=draw_in hv V.fit V.lo V.hi
 exact sinU_wide ta tb
theorem sin_c {v:Nat} (hv:v < 18446744073709551616) (w:World):Calls Tryz.prog 29 #[.agg #[.float .f64 (ofLo v),.float .f64 (ofHi v)]] w fun r w'=>r = .returned (.tuple #[.agg #[.float .f64 (Cx.s v).lo,.float .f64 (Cx.s v).hi],.agg #[.float .f64 (Cx.c v).lo,.float .f64 (Cx.c v).hi],.int .i64 0])∧Below w.heap.size w w':=
 have V:=draw_c hv
 sin_any _ _ w V.fit.lo V.fit.hi (draw_fine V)
def Cx.v (u v:Nat):Value:=.agg #[.float .f64 (Cn.x (Cx.a u) (Cx.c v)).lo,.float .f64 (Cn.x (Cx.a u) (Cx.c v)).hi,.float .f64 (Cn.x (Cx.a u) (Cx.s v)).lo,.float .f64 (Cn.x (Cx.a u) (Cx.s v)).hi,.float .f64 (Cn.z (Cx.a u)).lo,.float .f64 (Cn.z (Cx.a u)).hi]
theorem draw_any {u v:Nat} (hu:u < 18446744073709551616) (hv:v < 18446744073709551616) (w:World) :
   Calls Tryz.prog 13 #[.int .u64 u,.int .u64 v] w fun r w'=>r = .returned (.tuple #[Cx.v u v,.int .i64 0])∧Below w.heap.size w w':=by
 have A:=(draw_c hu).i
 obtain⟨iS,iC⟩:=wide_c hv
 have I:=ch_in A
 have R:=(cn_r A).fit
 have pX:=(cn_p A iC).fit
 have pY:=(cn_p A iS).fit
 unfold Cx.v
 rw [←x_edge A iC,←x_edge A iS]
 exact draw_walk w (Lib.hid fun w=>uof_any u w hu) (Lib.hid fun w=>uof_any v w hv) (Lib.hid (sin_c hv)) (Lib.hid fun pb=>calc_sqrt A.fit R pb) (Lib.hid fun pb=>calc_mul R iC.fit pX pb) (Lib.hid (cedge_call pX))
   (Lib.hid fun pb=>calc_mul R iS.fit pY pb) (Lib.hid (cedge_call pY)) (Lib.hid fun pb=>calc_num u1_fit pb) (Lib.hid fun pb=>calc_sub u1_fit A.fit I.d.fit pb) (Lib.hid fun pb=>calc_num cn0_fit pb)
   (Lib.hid fun pb=>calc_max I.d.fit cn0_fit I.m.fit pb) (Lib.hid fun pb=>calc_sqrt I.m.fit I.s.fit pb) (Lib.hid (cunit_call I.s.fit))
theorem down_ok {s:Nat} {T:Int} {c:Nat} {e:Int} (h:Down s T c e) {d:Nat} (ld:d < 18446744073709551616) (rd:rightB d=true) (k:val d*(s:Int)≤T):e=0:=by
 rcases h with ⟨h,_⟩ | ⟨_,_,h⟩
 · exact h
 · have:=h d ld rd; omega
def Cx.w (l h:Nat):Nat:=subW h l false
def Cx.h (l h:Nat):Nat:=mulW 4602678819172646912 (Cx.w l h) false
def Cx.m (l h:Nat):Nat:=addW l (Cx.h l h) false
structure MidC (l h:Nat):Prop where
 ew:subE h l false=0
 eh:mulE 4602678819172646912 (Cx.w l h) false=0
 em:addE l (Cx.h l h) false=0
 lw:Cx.w l h < 18446744073709551616
 lh:Cx.h l h < 18446744073709551616
 lm:Cx.m l h < 18446744073709551616
 rm:rightB (Cx.m l h)=true
 lo:val l≤val (Cx.m l h)
 hi:val (Cx.m l h)≤val h
 one:val l=val h→val (Cx.m l h)=val l
theorem mid_c {l h:Nat} (ll:l < 18446744073709551616) (r:ivR l h=true):MidC l h:=by
 obtain⟨rl,rh,le⟩:=ivR_parts r
 have v0:=cv0
 have hw:=sub_down h l rh rl
 have ew:=down_ok hw (d:=0) (by decide) (by decide) (by rw [v0]; omega)
 rw [ew] at hw
 obtain⟨w1,w2,w3,w4⟩:=hw.ok
 have w0:0≤val (subW h l false):=by have:=w4 0 (by decide) (by decide) (by rw [v0]; omega); omega
 have e:0≤val 4602678819172646912:=by decide +kernel
 have hh:=(mul_dir 4602678819172646912 (subW h l false) (by decide) w2 false).1 rfl
 have p:0≤val 4602678819172646912*val (subW h l false):=Int.mul_nonneg e w0
 have eh:=down_ok hh (d:=0) (by decide) (by decide) (by rw [v0,Int.zero_mul]; exact p)
 rw [eh] at hh
 obtain⟨h1,h2,h3,h4⟩:=hh.ok
 have h0:0≤val (mulW 4602678819172646912 (subW h l false) false):=by have:=h4 0 (by decide) (by decide) (by rw [v0,Int.zero_mul]; exact p); omega
 have hm:=add_down l _ rl h2
 have em:=down_ok hm (d:=l) ll rl (by omega)
 rw [em] at hm
 obtain⟨m1,m2,m3,m4⟩:=hm.ok
 obtain⟨a,b,c⟩:=mid_in ll rl le hw hh hm
 exact ⟨ew,eh,em,w1,h1,m1,m2,a,b,c⟩
theorem middle_any {l h:Nat} (ll:l < 18446744073709551616) (lh:h < 18446744073709551616) (M:MidC l h) (p q:Nat) (v:World) (hq:Has1 v (q,#[.int .i64 0])) (hp:Has1 v (p,#[.func (.func 47) #[] #[.pointer (some ⟨q,0,none⟩)]])) :
   Calls Tryz.prog 48 #[.agg #[.float .f64 l,.float .f64 h],.pointer (some ⟨p,0,none⟩)] v fun r w'=>r = .returned (.float .f64 (Cx.m l h))∧Below v.heap.size v w':=
 middle_walk v p q (Lib.hid hp) (Lib.hid hq) (Lib.hid fun v hq=>downSub_walk h l (Cx.w l h) q v hq (Lib.hid fun w=>sub_lit h l _ 0 false w lh ll rfl M.ew))
   (Lib.hid fun v hq=>downMul_walk _ _ (Cx.h l h) q v hq (Lib.hid fun w=>mul_lit _ _ _ 0 false w (by decide) M.lw rfl M.eh)) (Lib.hid fun v hq=>downAdd_walk _ _ (Cx.m l h) q v hq (Lib.hid fun w=>add_lit _ _ _ 0 false w ll M.lh rfl M.em))
theorem rights_c (x y:Nat) (g:Bool) (lx:x < 18446744073709551616) (ly:y < 18446744073709551616) (h:ivR x y=g):Hid (∀ w,Calls Tryz.prog 46 #[.agg #[.float .f64 x,.float .f64 y]] w fun r w'=>r = .returned (.bool g)∧Below w.heap.size w w'):=by
 subst h; exact Lib.hid fun w=>ivRight_any x y w lx ly
section
variable {a b c d e f:Nat} (la:a < 18446744073709551616) (lb:b < 18446744073709551616) (lc:c < 18446744073709551616) (ld:d < 18446744073709551616) (le:e < 18446744073709551616) (lf:f < 18446744073709551616)
include la lb lc ld le lf
theorem mid_any (h0:ivR a b=true) (h1:ivR c d=true) (h2:ivR e f=true) (w:World) :
   Calls Tryz.prog 15 #[.agg #[.float .f64 a,.float .f64 b,.float .f64 c,.float .f64 d,.float .f64 e,.float .f64 f]] w fun r w'=>r = .returned (.tuple #[.agg #[.float .f64 (Cx.m a b),.float .f64 (Cx.m c d),.float .f64 (Cx.m e f)],.int .i64 0])∧Below w.heap.size w w':=
 mid_walk w (rights_c a b _ la lb h0) (rights_c c d _ lc ld h1) (rights_c e f _ le lf h2) (Lib.hid (middle_any la lb (mid_c la h0))) (Lib.hid (middle_any lc ld (mid_c lc h1))) (Lib.hid (middle_any le lf (mid_c le h2)))
theorem mid_none (h:¬ (ivR a b=true∧ivR c d=true∧ivR e f=true)) (w:World) :
   Calls Tryz.prog 15 #[.agg #[.float .f64 a,.float .f64 b,.float .f64 c,.float .f64 d,.float .f64 e,.float .f64 f]] w fun r w'=>r = .returned (.tuple #[.agg #[.float .f64 0,.float .f64 0,.float .f64 0],.int .i64 20])∧Below w.heap.size w w':=by
 have R:=rights_c
 cases h0:ivR a b
 · exact mid_bad0 w (R a b _ la lb h0)
 cases h1:ivR c d
 · exact mid_bad1 w (R a b _ la lb h0) (R c d _ lc ld h1)
 cases h2:ivR e f
 · exact mid_bad2 w (R a b _ la lb h0) (R c d _ lc ld h1) (R e f _ le lf h2)
 · exact absurd ⟨h0,h1,h2⟩ h
end
end
section
open Go.RowKit
theorem point_c {x:Nat} (lx:x < 18446744073709551616) (rx:rightB x=true) (w:World):Calls Tryz.prog 25 #[.float .f64 x] w fun r w'=>r = .returned (.agg #[.float .f64 x,.float .f64 x])∧Below w.heap.size w w':=
 point_walk x w fun w=>run_float_arith w .add 25 .f64 _ _ _ (add_self0 lx rx)
theorem mid_lit:Cx.m 0 4607182418800017408=4602678819172646912∧Cx.m 4611686018427387904 4611686018427387904=4611686018427387904∧Cx.m 13830554455654793216 0=13826050856027422720:=by decide +kernel
def leF (x y:Nat):Bool:=(FloatKind.f64.format.order x y == some Ordering.lt) || (FloatKind.f64.format.order x y == some Ordering.eq)
def geF (x y:Nat):Bool:=(FloatKind.f64.format.order x y == some Ordering.gt) || (FloatKind.f64.format.order x y == some Ordering.eq)
theorem aw12_a:Op.floatEq .f64 (Cn.z (Cx.a 0)).lo 4607182418800017408=true∧Op.floatEq .f64 (Cn.z (Cx.a 0)).hi 4607182418800017408=true∧leF (Cn.x (Cx.a 0) (Cx.c 0)).lo 0=true∧geF (Cn.x (Cx.a 0) (Cx.c 0)).hi 0=true ∧
   (FloatKind.f64.format.order (Cn.x (Cx.a 0) (Cx.c 0)).hi 4427038433705197568 == some Ordering.lt)=true:=by decide +kernel
theorem aw12_b:leF 4604544271216121918 (Cn.x (Cx.a 9223372036854775808) (Cx.c 0)).lo=true∧leF (Cn.x (Cx.a 9223372036854775808) (Cx.c 0)).hi 4604544271225129117=true∧leF 4604544271216121918 (Cn.z (Cx.a 9223372036854775808)).lo=true∧leF (Cn.z (Cx.a 9223372036854775808)).hi 4604544271225129117=true ∧
   leF (Cn.x (Cx.a 9223372036854775808) (Cx.s 0)).lo 0=true∧geF (Cn.x (Cx.a 9223372036854775808) (Cx.s 0)).hi 0=true:=by decide +kernel
theorem aw12_mid (w:World):Calls Tryz.prog 15 #[.agg #[.float .f64 0,.float .f64 4607182418800017408,.float .f64 4611686018427387904,.float .f64 4611686018427387904,.float .f64 13830554455654793216,.float .f64 0]] w fun r w'=>r = .returned (.tuple #[.agg #[.float .f64 4602678819172646912,.float .f64 4611686018427387904,.float .f64 13826050856027422720],.int .i64 0])∧Below w.heap.size w w':=by
 have h:=mid_any (a:=0) (b:=4607182418800017408) (c:=4611686018427387904) (d:=4611686018427387904) (e:=13830554455654793216) (f:=0) (by decide) (by decide) (by decide) (by decide) (by decide) (by decide) (by decide +kernel) (by decide +kernel) (by decide +kernel) w
 obtain⟨e1,e2,e3⟩:=mid_lit
 rw [e1,e2,e3] at h
 exact h
theorem awake12_any (w:World):Calls Tryz.prog 17 #[] w fun r w'=>r = .returned (.bool true)∧Below w.heap.size w w':=by
 obtain⟨a1,a2,a3,a4,a5⟩:=aw12_a
 obtain⟨b1,b2,b3,b4,b5,b6⟩:=aw12_b
 exact awake12_walk w (Lib.hid (draw_any (u:=0) (v:=0) (by decide) (by decide))) (Lib.hid (draw_any (u:=9223372036854775808) (v:=0) (by decide) (by decide))) (Lib.hid (point_c (by decide) (by decide))) (Lib.hid aw12_mid) (Lib.hid (point_c (by decide) (by decide)))
   a1 a2 a3 a4 a5 (Lib.hid fun w=>lIn8_any _ _ _ _ w b1 b2) (Lib.hid fun w=>lIn8_any _ _ _ _ w b3 b4) b5 b6 (by decide +kernel) (by decide +kernel) (by decide +kernel)
end
section
open Go.RowKit
theorem cx_below {f:FuncId} {args:Array Value} {w:World} {x:Ending} (k:Calls Tryz.prog f args w fun r w'=>r=x∧w=w'):Calls Tryz.prog f args w fun r w'=>r=x∧Below w.heap.size w w':=
 k.mono fun _ _ ⟨h1,h2⟩=>⟨h1,h2 ▸ Below.refl _ _⟩
theorem rdraw_any {u v:Nat} (hu:u < 18446744073709551616) (hv:v < 18446744073709551616) (w:World) :
   Calls Tryz.prog 14 #[.int .u64 u,.int .u64 v] w fun r w'=>r = .returned (.tuple #[Cx.v u v,.int .i64 0])∧Below w.heap.size w w':=by
 have A:=(draw_c hu).i
 have V:=draw_c hv
 obtain⟨iS,iC⟩:=wide_c hv
 have I:=ch_in A
 have R:=(cn_r A).fit
 have pX:=(cn_p A iC).fit
 have pY:=(cn_p A iS).fit
 have kx:=fun w=>kept_e (Cn.p (Cx.a u) (Cx.c v)).lo (Cn.p (Cx.a u) (Cx.c v)).hi w pX.lo pX.hi pX.rlo pX.rhi
 have ky:=fun w=>kept_e (Cn.p (Cx.a u) (Cx.s v)).lo (Cn.p (Cx.a u) (Cx.s v)).hi w pY.lo pY.hi pY.rlo pY.rhi
 have kz:=fun w=>kept_any (Cn.s (Cx.a u)).lo (Cn.s (Cx.a u)).hi w I.s.fit.lo I.s.fit.hi I.s.fit.rlo I.s.fit.rhi
 unfold Cx.v
 rw [←x_edge A iC,←x_edge A iS,edgeR_lo,edgeR_hi,edgeR_lo,edgeR_hi]
 exact rdraw_walk w (Lib.hid fun w=>refOf_any v w hv) (Lib.hid fun w=>rsin_any _ _ w V.fit.lo V.fit.hi (draw_fine V)) (Lib.hid fun w=>refOf_any u w hu) (Lib.hid fun pb v h=>rsqrt_is A.fit R pb v h) (Lib.hid fun pb v h=>rnum_is _ (by decide) pb v h)
   (Lib.hid fun pb v h=>rsub_is (a:=oneR u1) u1_fit A.fit I.d.fit pb v h) (Lib.hid fun pb v h=>rnum_is _ (by decide) pb v h) (Lib.hid fun pb v h=>rmax_is (b:=oneR 0) I.d.fit cn0_fit I.m.fit pb v h) (Lib.hid fun pb v h=>rsqrt_is I.m.fit I.s.fit pb v h)
   (Lib.hid fun pb v h=>rmul_is R iC.fit pX pb v h) (Lib.hid kx) (Lib.hid fun pb v h=>rmul_is R iS.fit pY pb v h) (Lib.hid ky) (Lib.hid kz)
theorem rmid1_any {l h:Nat} (ll:l < 18446744073709551616) (lh:h < 18446744073709551616) (M:MidC l h) (w:World) :
   Calls Tryz.prog 53 #[.agg #[.float .f64 l,.float .f64 h]] w fun r w'=>r = .returned (.tuple #[.float .f64 (Cx.m l h),.int .i64 0])∧Below w.heap.size w w':=by
 have c1:=fun w=>cx_below (refSub_all h l false w lh ll)
 have c2:=fun w=>cx_below (refMul_all 4602678819172646912 (Cx.w l h) false w (by decide) M.lw)
 have c3:=fun w=>cx_below (refAdd_all l (Cx.h l h) false w ll M.lh)
 rw [M.ew] at c1
 rw [M.eh] at c2
 rw [M.em] at c3
 exact rmid1_walk w (Lib.hid c1) (Lib.hid c2) (Lib.hid c3)
theorem rrights_c (x y:Nat) (g:Bool) (lx:x < 18446744073709551616) (ly:y < 18446744073709551616) (h:ivR x y=g):Hid (∀ w,Calls Tryz.prog 52 #[.agg #[.float .f64 x,.float .f64 y]] w fun r w'=>r = .returned (.bool g)∧Below w.heap.size w w'):=by
 subst h; exact Lib.hid fun w=>rRight_any x y w lx ly
theorem self_eq {x:Nat} (lx:x < 18446744073709551616) (rx:rightB x=true):Op.floatEq .f64 x x=true:=eq_of_val8 lx lx rx rx rfl
theorem tells12_any (u o a b c d e f:Nat) (w:World) (hu:u < 18446744073709551616) (ho:o < 18446744073709551616) (la:a < 18446744073709551616) (lb:b < 18446744073709551616) (lc:c < 18446744073709551616) (ld:d < 18446744073709551616) (le:e < 18446744073709551616) (lf:f < 18446744073709551616) :
   Calls Tryz.prog 4 #[.int .u64 u,.int .u64 o,.agg #[.float .f64 a,.float .f64 b,.float .f64 c,.float .f64 d,.float .f64 e,.float .f64 f]] w fun r w'=>r = .returned (.bool true)∧Below w.heap.size w w':=by
 have A:=(draw_c hu).i
 obtain⟨iS,iC⟩:=wide_c ho
 have fX:=(cn_xf A iC).1
 have fY:=(cn_xf A iS).1
 have fZ:=(up_ends A).2.2.2.fit
 have cD:=Lib.hid (draw_any hu ho)
 have cE:=Lib.hid (rdraw_any hu ho)
 have R:=rrights_c
 by_cases h:ivR a b=true∧ivR c d=true∧ivR e f=true
 · obtain⟨h0,h1,h2⟩:=h
   have m0:=mid_c la h0
   have m1':=mid_c lc h1
   have m2':=mid_c le h2
   exact tells12_1 w cD cE (Lib.hid (mid_any la lb lc ld le lf h0 h1 h2))
     (Lib.hid fun w=>rmid_walk w (R a b _ la lb h0) (R c d _ lc ld h1) (R e f _ le lf h2) (Lib.hid (rmid1_any la lb m0)) (Lib.hid (rmid1_any lc ld m1')) (Lib.hid (rmid1_any le lf m2')))
     (self_eq fX.lo fX.rlo) (self_eq fX.hi fX.rhi) (self_eq fY.lo fY.rlo) (self_eq fY.hi fY.rhi) (self_eq fZ.lo fZ.rlo) (self_eq fZ.hi fZ.rhi) (self_eq m0.lm m0.rm) (self_eq m1'.lm m1'.rm) (self_eq m2'.lm m2'.rm) (Lib.hid awake12_any)
 · have cN:=Lib.hid (mid_none la lb lc ld le lf h)
   have cR:Hid (∀ w,Calls Tryz.prog 16 #[.agg #[.float .f64 a,.float .f64 b,.float .f64 c,.float .f64 d,.float .f64 e,.float .f64 f]] w fun r w'=>r = .returned (.tuple #[.agg #[.float .f64 0,.float .f64 0,.float .f64 0],.int .i64 20])∧Below w.heap.size w w'):=by
     refine Lib.hid fun w=>?_
     cases h0:ivR a b
     · exact rmid_bad0 w (R a b _ la lb h0)
     cases h1:ivR c d
     · exact rmid_bad1 w (R a b _ la lb h0) (R c d _ lc ld h1)
     cases h2:ivR e f
     · exact rmid_bad2 w (R a b _ la lb h0) (R c d _ lc ld h1) (R e f _ le lf h2)
     · exact absurd ⟨h0,h1,h2⟩ h
   exact tells12_0 w cD cE cN cR (self_eq fX.lo fX.rlo) (self_eq fX.hi fX.rhi) (self_eq fY.lo fY.rlo) (self_eq fY.hi fY.rhi) (self_eq fZ.lo fZ.rlo) (self_eq fZ.hi fZ.rhi) (by decide +kernel) (Lib.hid awake12_any)
end
end Go.Proofs.YtnaomilkgfkegaaGreat
