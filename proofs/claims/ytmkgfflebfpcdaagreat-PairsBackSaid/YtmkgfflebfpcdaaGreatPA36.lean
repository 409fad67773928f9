/- What the claim stands on, part 37: PaBL. -/
import Derived.Test.YtmkgfflebfpcdaaGreatPA17
import Derived.Test.YtmkgfflebfpcdaaGreatPA25
import Derived.Deep.RegionHeld3
set_option maxHeartbeats 16000000
set_option maxRecDepth 100000
namespace Go.Proofs.YtmkgfflebfpcdaaGreat
section
open Go.RowKit
attribute [local go_sem] run_store_float
theorem pback_0 {u0 u1 u2 u3 u4 u5 u6 u7 t0 t1 t2 t3 t4 t5 ch n0 n1 n2 n3 n4 n5 n6 n7 n8 n9 n10 n11 n12 n13 n14 n15 n16 cm a0 a1 a2 a3 a4 a5 b0 b1 b2 b3 b4 b5 xl xh yl yh dl dh:Nat} {n17 n18:Int} (w:World)
   (c1:Hid (∀ w,Calls Tryz.prog 6 #[.agg #[.int .u32 u0,.int .u32 u1,.int .u32 u2,.int .u32 u3,.int .u32 u4,.int .u32 u5,.int .u32 u6,.int .u32 u7]] w (Rt (.agg #[.int .u8 n0,n1,n2,n3,n4,n5,n6,n7,n8,n9,n10,n11,n12,n13,n14,n15,n16,.int .i64 n17,.int .i64 n18]) w)))
   (q_rem:((ch:Int).tmod 3=(cm:Int)))
   (hwc:(IntKind.i64.wrap (cm:Int)=(cm:Int)))
   (c2:Hid (∀ w,Calls Tryz.prog 7 #[.agg #[.int .u32 t0,.int .u32 t1,.int .u32 t2,.int .u32 t3,.int .u32 t4,.int .u32 t5]] w (Rt (.tuple #[.agg #[a0,a1,a2,a3,a4,a5],.agg #[b0,b1,b2,b3,b4,b5],.bool true]) w)))
   (c3:Hid (∀ w,Calls Tryz.prog 8 #[.agg #[.int .u8 n0,n1,n2,n3,n4,n5,n6,n7,n8,n9,n10,n11,n12,n13,n14,n15,n16,.int .i64 n17,.int .i64 n18]] w (Rt (.bool true) w)))
   (c4:Hid (∀ w,Calls Tryz.prog 9 #[.agg #[.int .u8 n0,n1,n2,n3,n4,n5,n6,n7,n8,n9,n10,n11,n12,n13,n14,n15,n16,.int .i64 n17,.int .i64 n18],.int .i64 cm,.agg #[a0,a1,a2,a3,a4,a5],.agg #[b0,b1,b2,b3,b4,b5]] w (Rt (.tuple #[.agg #[xl,xh],true]) w)))
   (c5:Hid (∀ w,Calls Tryz.prog 9 #[.agg #[.int .u8 n0,n1,n2,n3,n4,n5,n6,n7,n8,n9,n10,n11,n12,n13,n14,n15,n16,.int .i64 n17,.int .i64 n18],.int .i64 cm,.agg #[b0,b1,b2,b3,b4,b5],.agg #[a0,a1,a2,a3,a4,a5]] w (Rt (.tuple #[.agg #[yl,yh],true]) w)))
   (c6:Hid (∀ w,Calls Tryz.prog 10 #[.agg #[.int .u8 n0,n1,n2,n3,n4,n5,n6,n7,n8,n9,n10,n11,n12,n13,n14,n15,n16,.int .i64 n17,.int .i64 n18],.agg #[a0,a1,a2,a3,a4,a5],.agg #[b0,b1,b2,b3,b4,b5]] w (Rt (.tuple #[.agg #[dl,dh],true]) w)))
   (c7:Hid (∀ w,Calls Tryz.prog 11 #[.agg #[xl,xh],.agg #[yl,yh]] w (Rt (.bool true) w)))
   (o_gtrxl_0:((FloatKind.f64.format.order xl 0 == some Ordering.gt)=true))
   (o_gtrdl_0:((FloatKind.f64.format.order dl 0 == some Ordering.gt)=true))
   (o_eqlxh_0:((FloatKind.f64.format.order xh 0 == some Ordering.eq)=false))
   (o_gtrdh_0:((FloatKind.f64.format.order dh 0 == some Ordering.gt)=true))
   (o_eqlxl_0:((FloatKind.f64.format.order xl 0 == some Ordering.eq)=false))
   (c8:Hid (∀ w,Calls Tryz.prog 12 #[] w (Rt (.bool true) w))) :
   Calls Tryz.prog 3 #[.agg #[.int .u32 u0,.int .u32 u1,.int .u32 u2,.int .u32 u3,.int .u32 u4,.int .u32 u5,.int .u32 u6,.int .u32 u7],.agg #[.int .u32 t0,.int .u32 t1,.int .u32 t2,.int .u32 t3,.int .u32 t4,.int .u32 t5],.int .u8 ch] w fun r w'=>r = .returned (.bool true)∧Below w.heap.size w w':=by
 have M:=Lib.hid (((Own.nil w).made #[.int .u32 u0,.int .u32 u1,.int .u32 u2,.int .u32 u3,.int .u32 u4,.int .u32 u5,.int .u32 u6,.int .u32 u7] 23).made #[.int .u32 t0,.int .u32 t1,.int .u32 t2,.int .u32 t3,.int .u32 t4,.int .u32 t5] 24)
 simp only [World.size_alloc] at M
 have eqF:=eq_floats
 go_enter Tryz.func3,Tryz.ntmps3
 obtain⟨k1,k2,k3,k4,k5,k6,k7,k8⟩:=(M.out.nth 1 rfl).eight
 go_wp2_with fail
 refine (c1.out _).mono ?_
 rintro r w1_ ⟨rfl,hb⟩
 replace M:=Lib.hid (M.out.below hb)
 clear hb
 clear k1 k2 k3 k4 k5 k6 k7 k8
 replace M:=Lib.hid (M.out.made #[.int .u8 0,(),(),(),(),(),(),(),(),(),(),(),(),(),(),(),(),true,true] 28)
 try go_simp
 repeat ((fail_if_success refine wpl_stnode (by kernel_rfl) rfl rfl rfl (by kernel_rfl) (M.out.nth 0 rfl) ?_); go_step)
 refine wpl_stnode (by kernel_rfl) rfl rfl rfl (by kernel_rfl) (M.out.nth 0 rfl) ?_
 simp only [Act.put,go_sem]
 replace M:=Lib.hid (M.out.setAll 0 rfl [.int .u8 n0,.float .f64 n1,.float .f64 n2,.float .f64 n3,.float .f64 n4,.float .f64 n5,.float .f64 n6,.float .f64 n7,.float .f64 n8,.float .f64 n9,.float .f64 n10,.float .f64 n11,.float .f64 n12,.float .f64 n13,.float .f64 n14,.float .f64 n15,.float .f64 n16,.int .i64 n17,.int .i64 n18] rfl)
 revert M
 generalize World.setCells (w1_.alloc (.cells #[.int .u8 0,(),(),(),(),(),(),(),(),(),(),(),(),(),(),(),(),true,true] 28)) w1_.heap.size 0 [.int .u8 n0,.float .f64 n1,.float .f64 n2,.float .f64 n3,.float .f64 n4,.float .f64 n5,.float .f64 n6,.float .f64 n7,.float .f64 n8,.float .f64 n9,.float .f64 n10,.float .f64 n11,.float .f64 n12,.float .f64 n13,.float .f64 n14,.float .f64 n15,.float .f64 n16,.int .i64 n17,.int .i64 n18]=W2_
 intro M
 replace M:Hid (Own w [(w1_.heap.size,#[.int .u8 n0,n1,n2,n3,n4,n5,n6,n7,n8,n9,n10,n11,n12,n13,n14,n15,n16,.int .i64 n17,.int .i64 n18]),((w.heap.size+1),#[.int .u32 t0,.int .u32 t1,.int .u32 t2,.int .u32 t3,.int .u32 t4,.int .u32 t5]),(w.heap.size,#[.int .u32 u0,.int .u32 u1,.int .u32 u2,.int .u32 u3,.int .u32 u4,.int .u32 u5,.int .u32 u6,.int .u32 u7])] W2_):=M
 obtain⟨k1,k2,k3,k4,k5,k6⟩:=(M.out.nth 1 rfl).six
 go_wp2_with fail
 refine (c2.out _).mono ?_
 rintro r w3_ ⟨rfl,hb⟩
 replace M:=Lib.hid (M.out.below hb)
 clear hb
 clear k1 k2 k3 k4 k5 k6
 replace M:=Lib.hid (M.out.made #[a0,a1,a2,a3,a4,a5] 33)
 replace M:=Lib.hid (M.out.made #[b0,b1,b2,b3,b4,b5] 33)
 simp only [World.size_alloc] at M
 go_upto_region 3 with fail
 repeat ((fail_if_success refine wpl_node (by kernel_rfl) rfl rfl (M.out.nth 2 rfl) ?_); go_step)
 refine wpl_node (by kernel_rfl) rfl rfl (M.out.nth 2 rfl) ?_
 simp only [Act.put,go_sem]
 go_wp2_with fail
 refine (c3.out _).mono ?_
 rintro r w4_ ⟨rfl,hb⟩
 replace M:=Lib.hid (M.out.below hb)
 clear hb
 go_upto_region 5 with fail
 go_step
 refine wpl_node (by kernel_rfl) rfl rfl (M.out.nth 2 rfl) ?_
 simp only [Act.put,go_sem]
 obtain⟨k1,k2,k3,k4,k5,k6⟩:=(M.out.nth 1 rfl).six
 obtain⟨k7,k8,k9,k10,k11,k12⟩:=(M.out.nth 0 rfl).six
 go_wp2_with fail
 refine (c4.out _).mono ?_
 rintro r w5_ ⟨rfl,hb⟩
 replace M:=Lib.hid (M.out.below hb)
 clear hb
 clear k1 k2 k3 k4 k5 k6 k7 k8 k9 k10 k11 k12
 replace M:=Lib.hid (M.out.made #[xl,xh] 31)
 go_upto_region 6 with fail
 go_step
 refine wpl_node (by kernel_rfl) rfl rfl (M.out.nth 3 rfl) ?_
 simp only [Act.put,go_sem]
 obtain⟨k1,k2,k3,k4,k5,k6⟩:=(M.out.nth 1 rfl).six
 obtain⟨k7,k8,k9,k10,k11,k12⟩:=(M.out.nth 2 rfl).six
 go_wp2_with fail
 refine (c5.out _).mono ?_
 rintro r w6_ ⟨rfl,hb⟩
 replace M:=Lib.hid (M.out.below hb)
 clear hb
 clear k1 k2 k3 k4 k5 k6 k7 k8 k9 k10 k11 k12
 replace M:=Lib.hid (M.out.made #[yl,yh] 31)
 go_upto_region 7 with fail
 go_step
 refine wpl_node (by kernel_rfl) rfl rfl (M.out.nth 4 rfl) ?_
 simp only [Act.put,go_sem]
 obtain⟨k1,k2,k3,k4,k5,k6⟩:=(M.out.nth 3 rfl).six
 obtain⟨k7,k8,k9,k10,k11,k12⟩:=(M.out.nth 2 rfl).six
 go_wp2_with fail
 refine (c6.out _).mono ?_
 rintro r w7_ ⟨rfl,hb⟩
 replace M:=Lib.hid (M.out.below hb)
 clear hb
 clear k1 k2 k3 k4 k5 k6 k7 k8 k9 k10 k11 k12
 replace M:=Lib.hid (M.out.made #[dl,dh] 31)
 obtain⟨k1,k2⟩:=(M.out.nth 2 rfl).two
 obtain⟨k3,k4⟩:=(M.out.nth 1 rfl).two
 go_wp2_with fail
 refine (c7.out _).mono ?_
 rintro r w8_ ⟨rfl,hb⟩
 replace M:=Lib.hid (M.out.below hb)
 clear hb
 clear k1 k2 k3 k4
 obtain⟨k1,k2⟩:=(M.out.nth 2 rfl).two
 obtain⟨k3,k4⟩:=(M.out.nth 0 rfl).two
 go_wp2_with fail
 refine (c8.out _).mono ?_
 rintro r w9_ ⟨rfl,hb⟩
 replace M:=Lib.hid (M.out.below hb)
 clear hb
 clear k1 k2 k3 k4
 go_wp2
 go_ret
 exact ⟨rfl,M.out.base⟩
theorem pback_2 {u0 u1 u2 u3 u4 u5 u6 u7 t0 t1 t2 t3 t4 t5 ch n0 n1 n2 n3 n4 n5 n6 n7 n8 n9 n10 n11 n12 n13 n14 n15 n16 cm a0 a1 a2 a3 a4 a5 b0 b1 b2 b3 b4 b5 xl xh yl yh dl dh:Nat} {n17 n18:Int} (w:World)
   (c1:Hid (∀ w,Calls Tryz.prog 6 #[.agg #[.int .u32 u0,.int .u32 u1,.int .u32 u2,.int .u32 u3,.int .u32 u4,.int .u32 u5,.int .u32 u6,.int .u32 u7]] w (Rt (.agg #[.int .u8 n0,n1,n2,n3,n4,n5,n6,n7,n8,n9,n10,n11,n12,n13,n14,n15,n16,.int .i64 n17,.int .i64 n18]) w)))
   (q_rem:((ch:Int).tmod 3=(cm:Int)))
   (hwc:(IntKind.i64.wrap (cm:Int)=(cm:Int)))
   (c2:Hid (∀ w,Calls Tryz.prog 7 #[.agg #[.int .u32 t0,.int .u32 t1,.int .u32 t2,.int .u32 t3,.int .u32 t4,.int .u32 t5]] w (Rt (.tuple #[.agg #[a0,a1,a2,a3,a4,a5],.agg #[b0,b1,b2,b3,b4,b5],.bool true]) w)))
   (c3:Hid (∀ w,Calls Tryz.prog 8 #[.agg #[.int .u8 n0,n1,n2,n3,n4,n5,n6,n7,n8,n9,n10,n11,n12,n13,n14,n15,n16,.int .i64 n17,.int .i64 n18]] w (Rt (.bool true) w)))
   (c4:Hid (∀ w,Calls Tryz.prog 9 #[.agg #[.int .u8 n0,n1,n2,n3,n4,n5,n6,n7,n8,n9,n10,n11,n12,n13,n14,n15,n16,.int .i64 n17,.int .i64 n18],.int .i64 cm,.agg #[a0,a1,a2,a3,a4,a5],.agg #[b0,b1,b2,b3,b4,b5]] w (Rt (.tuple #[.agg #[xl,xh],true]) w)))
   (c5:Hid (∀ w,Calls Tryz.prog 9 #[.agg #[.int .u8 n0,n1,n2,n3,n4,n5,n6,n7,n8,n9,n10,n11,n12,n13,n14,n15,n16,.int .i64 n17,.int .i64 n18],.int .i64 cm,.agg #[b0,b1,b2,b3,b4,b5],.agg #[a0,a1,a2,a3,a4,a5]] w (Rt (.tuple #[.agg #[yl,yh],true]) w)))
   (c6:Hid (∀ w,Calls Tryz.prog 10 #[.agg #[.int .u8 n0,n1,n2,n3,n4,n5,n6,n7,n8,n9,n10,n11,n12,n13,n14,n15,n16,.int .i64 n17,.int .i64 n18],.agg #[a0,a1,a2,a3,a4,a5],.agg #[b0,b1,b2,b3,b4,b5]] w (Rt (.tuple #[.agg #[dl,dh],true]) w)))
   (c7:Hid (∀ w,Calls Tryz.prog 11 #[.agg #[xl,xh],.agg #[yl,yh]] w (Rt (.bool true) w)))
   (o_geqdl_0:(((FloatKind.f64.format.order dl 0 == some Ordering.gt) || (FloatKind.f64.format.order dl 0 == some Ordering.eq))=true))
   (o_eqlxh_0:((FloatKind.f64.format.order xh 0 == some Ordering.eq)=false))
   (o_gtrdh_0:((FloatKind.f64.format.order dh 0 == some Ordering.gt)=true))
   (o_eqlxl_0:((FloatKind.f64.format.order xl 0 == some Ordering.eq)=true))
   (c8:Hid (∀ w,Calls Tryz.prog 12 #[] w (Rt (.bool true) w))) :
   Calls Tryz.prog 3 #[.agg #[.int .u32 u0,.int .u32 u1,.int .u32 u2,.int .u32 u3,.int .u32 u4,.int .u32 u5,.int .u32 u6,.int .u32 u7],.agg #[.int .u32 t0,.int .u32 t1,.int .u32 t2,.int .u32 t3,.int .u32 t4,.int .u32 t5],.int .u8 ch] w fun r w'=>r = .returned (.bool true)∧Below w.heap.size w w':=by
 have M:=Lib.hid (((Own.nil w).made #[.int .u32 u0,.int .u32 u1,.int .u32 u2,.int .u32 u3,.int .u32 u4,.int .u32 u5,.int .u32 u6,.int .u32 u7] 23).made #[.int .u32 t0,.int .u32 t1,.int .u32 t2,.int .u32 t3,.int .u32 t4,.int .u32 t5] 24)
 simp only [World.size_alloc] at M
 have eqF:=eq_floats
 go_enter Tryz.func3,Tryz.ntmps3
 obtain⟨k1,k2,k3,k4,k5,k6,k7,k8⟩:=(M.out.nth 1 rfl).eight
 go_wp2_with fail
 refine (c1.out _).mono ?_
 rintro r w1_ ⟨rfl,hb⟩
 replace M:=Lib.hid (M.out.below hb)
 clear hb
 clear k1 k2 k3 k4 k5 k6 k7 k8
 replace M:=Lib.hid (M.out.made #[.int .u8 0,(),(),(),(),(),(),(),(),(),(),(),(),(),(),(),(),true,true] 28)
 try go_simp
 repeat ((fail_if_success refine wpl_stnode (by kernel_rfl) rfl rfl rfl (by kernel_rfl) (M.out.nth 0 rfl) ?_); go_step)
 refine wpl_stnode (by kernel_rfl) rfl rfl rfl (by kernel_rfl) (M.out.nth 0 rfl) ?_
 simp only [Act.put,go_sem]
 replace M:=Lib.hid (M.out.setAll 0 rfl [.int .u8 n0,.float .f64 n1,.float .f64 n2,.float .f64 n3,.float .f64 n4,.float .f64 n5,.float .f64 n6,.float .f64 n7,.float .f64 n8,.float .f64 n9,.float .f64 n10,.float .f64 n11,.float .f64 n12,.float .f64 n13,.float .f64 n14,.float .f64 n15,.float .f64 n16,.int .i64 n17,.int .i64 n18] rfl)
 revert M
 generalize World.setCells (w1_.alloc (.cells #[.int .u8 0,(),(),(),(),(),(),(),(),(),(),(),(),(),(),(),(),true,true] 28)) w1_.heap.size 0 [.int .u8 n0,.float .f64 n1,.float .f64 n2,.float .f64 n3,.float .f64 n4,.float .f64 n5,.float .f64 n6,.float .f64 n7,.float .f64 n8,.float .f64 n9,.float .f64 n10,.float .f64 n11,.float .f64 n12,.float .f64 n13,.float .f64 n14,.float .f64 n15,.float .f64 n16,.int .i64 n17,.int .i64 n18]=W2_
 intro M
 replace M:Hid (Own w [(w1_.heap.size,#[.int .u8 n0,n1,n2,n3,n4,n5,n6,n7,n8,n9,n10,n11,n12,n13,n14,n15,n16,.int .i64 n17,.int .i64 n18]),((w.heap.size+1),#[.int .u32 t0,.int .u32 t1,.int .u32 t2,.int .u32 t3,.int .u32 t4,.int .u32 t5]),(w.heap.size,#[.int .u32 u0,.int .u32 u1,.int .u32 u2,.int .u32 u3,.int .u32 u4,.int .u32 u5,.int .u32 u6,.int .u32 u7])] W2_):=M
 obtain⟨k1,k2,k3,k4,k5,k6⟩:=(M.out.nth 1 rfl).six
 go_wp2_with fail
 refine (c2.out _).mono ?_
 rintro r w3_ ⟨rfl,hb⟩
 replace M:=Lib.hid (M.out.below hb)
 clear hb
 clear k1 k2 k3 k4 k5 k6
 replace M:=Lib.hid (M.out.made #[a0,a1,a2,a3,a4,a5] 33)
 replace M:=Lib.hid (M.out.made #[b0,b1,b2,b3,b4,b5] 33)
 simp only [World.size_alloc] at M
 go_upto_region 3 with fail
 repeat ((fail_if_success refine wpl_node (by kernel_rfl) rfl rfl (M.out.nth 2 rfl) ?_); go_step)
 refine wpl_node (by kernel_rfl) rfl rfl (M.out.nth 2 rfl) ?_
 simp only [Act.put,go_sem]
 go_wp2_with fail
 refine (c3.out _).mono ?_
 rintro r w4_ ⟨rfl,hb⟩
 replace M:=Lib.hid (M.out.below hb)
 clear hb
 go_upto_region 5 with fail
 go_step
 refine wpl_node (by kernel_rfl) rfl rfl (M.out.nth 2 rfl) ?_
 simp only [Act.put,go_sem]
 obtain⟨k1,k2,k3,k4,k5,k6⟩:=(M.out.nth 1 rfl).six
 obtain⟨k7,k8,k9,k10,k11,k12⟩:=(M.out.nth 0 rfl).six
 go_wp2_with fail
 refine (c4.out _).mono ?_
 rintro r w5_ ⟨rfl,hb⟩
 replace M:=Lib.hid (M.out.below hb)
 clear hb
 clear k1 k2 k3 k4 k5 k6 k7 k8 k9 k10 k11 k12
 replace M:=Lib.hid (M.out.made #[xl,xh] 31)
 go_upto_region 6 with fail
 go_step
 refine wpl_node (by kernel_rfl) rfl rfl (M.out.nth 3 rfl) ?_
 simp only [Act.put,go_sem]
 obtain⟨k1,k2,k3,k4,k5,k6⟩:=(M.out.nth 1 rfl).six
 obtain⟨k7,k8,k9,k10,k11,k12⟩:=(M.out.nth 2 rfl).six
 go_wp2_with fail
 refine (c5.out _).mono ?_
 rintro r w6_ ⟨rfl,hb⟩
 replace M:=Lib.hid (M.out.below hb)
 clear hb
 clear k1 k2 k3 k4 k5 k6 k7 k8 k9 k10 k11 k12
 replace M:=Lib.hid (M.out.made #[yl,yh] 31)
 go_upto_region 7 with fail
 go_step
 refine wpl_node (by kernel_rfl) rfl rfl (M.out.nth 4 rfl) ?_
 simp only [Act.put,go_sem]
 obtain⟨k1,k2,k3,k4,k5,k6⟩:=(M.out.nth 3 rfl).six
 obtain⟨k7,k8,k9,k10,k11,k12⟩:=(M.out.nth 2 rfl).six
 go_wp2_with fail
 refine (c6.out _).mono ?_
 rintro r w7_ ⟨rfl,hb⟩
 replace M:=Lib.hid (M.out.below hb)
 clear hb
 clear k1 k2 k3 k4 k5 k6 k7 k8 k9 k10 k11 k12
 replace M:=Lib.hid (M.out.made #[dl,dh] 31)
 obtain⟨k1,k2⟩:=(M.out.nth 2 rfl).two
 obtain⟨k3,k4⟩:=(M.out.nth 1 rfl).two
 go_wp2_with fail
 refine (c7.out _).mono ?_
 rintro r w8_ ⟨rfl,hb⟩
 replace M:=Lib.hid (M.out.below hb)
 clear hb
 clear k1 k2 k3 k4
 obtain⟨k1,k2⟩:=(M.out.nth 2 rfl).two
 obtain⟨k3,k4⟩:=(M.out.nth 0 rfl).two
 go_wp2_with fail
 refine (c8.out _).mono ?_
 rintro r w9_ ⟨rfl,hb⟩
 replace M:=Lib.hid (M.out.below hb)
 clear hb
 clear k1 k2 k3 k4
 go_wp2
 go_ret
 exact ⟨rfl,M.out.base⟩
theorem pback_3 {u0 u1 u2 u3 u4 u5 u6 u7 t0 t1 t2 t3 t4 t5 ch n0 n1 n2 n3 n4 n5 n6 n7 n8 n9 n10 n11 n12 n13 n14 n15 n16 cm a0 a1 a2 a3 a4 a5 b0 b1 b2 b3 b4 b5 xl xh yl yh dl dh:Nat} {n17 n18:Int} (w:World)
   (c1:Hid (∀ w,Calls Tryz.prog 6 #[.agg #[.int .u32 u0,.int .u32 u1,.int .u32 u2,.int .u32 u3,.int .u32 u4,.int .u32 u5,.int .u32 u6,.int .u32 u7]] w (Rt (.agg #[.int .u8 n0,n1,n2,n3,n4,n5,n6,n7,n8,n9,n10,n11,n12,n13,n14,n15,n16,.int .i64 n17,.int .i64 n18]) w)))
   (q_rem:((ch:Int).tmod 3=(cm:Int)))
   (hwc:(IntKind.i64.wrap (cm:Int)=(cm:Int)))
   (c2:Hid (∀ w,Calls Tryz.prog 7 #[.agg #[.int .u32 t0,.int .u32 t1,.int .u32 t2,.int .u32 t3,.int .u32 t4,.int .u32 t5]] w (Rt (.tuple #[.agg #[a0,a1,a2,a3,a4,a5],.agg #[b0,b1,b2,b3,b4,b5],.bool true]) w)))
   (c3:Hid (∀ w,Calls Tryz.prog 8 #[.agg #[.int .u8 n0,n1,n2,n3,n4,n5,n6,n7,n8,n9,n10,n11,n12,n13,n14,n15,n16,.int .i64 n17,.int .i64 n18]] w (Rt (.bool true) w)))
   (c4:Hid (∀ w,Calls Tryz.prog 9 #[.agg #[.int .u8 n0,n1,n2,n3,n4,n5,n6,n7,n8,n9,n10,n11,n12,n13,n14,n15,n16,.int .i64 n17,.int .i64 n18],.int .i64 cm,.agg #[a0,a1,a2,a3,a4,a5],.agg #[b0,b1,b2,b3,b4,b5]] w (Rt (.tuple #[.agg #[xl,xh],true]) w)))
   (c5:Hid (∀ w,Calls Tryz.prog 9 #[.agg #[.int .u8 n0,n1,n2,n3,n4,n5,n6,n7,n8,n9,n10,n11,n12,n13,n14,n15,n16,.int .i64 n17,.int .i64 n18],.int .i64 cm,.agg #[b0,b1,b2,b3,b4,b5],.agg #[a0,a1,a2,a3,a4,a5]] w (Rt (.tuple #[.agg #[yl,yh],true]) w)))
   (c6:Hid (∀ w,Calls Tryz.prog 10 #[.agg #[.int .u8 n0,n1,n2,n3,n4,n5,n6,n7,n8,n9,n10,n11,n12,n13,n14,n15,n16,.int .i64 n17,.int .i64 n18],.agg #[a0,a1,a2,a3,a4,a5],.agg #[b0,b1,b2,b3,b4,b5]] w (Rt (.tuple #[.agg #[dl,dh],true]) w)))
   (c7:Hid (∀ w,Calls Tryz.prog 11 #[.agg #[xl,xh],.agg #[yl,yh]] w (Rt (.bool true) w)))
   (o_geqdl_0:(((FloatKind.f64.format.order dl 0 == some Ordering.gt) || (FloatKind.f64.format.order dl 0 == some Ordering.eq))=true))
   (o_eqlxh_0:((FloatKind.f64.format.order xh 0 == some Ordering.eq)=true))
   (o_eqlxl_0:((FloatKind.f64.format.order xl 0 == some Ordering.eq)=true))
   (c8:Hid (∀ w,Calls Tryz.prog 12 #[] w (Rt (.bool true) w))) :
   Calls Tryz.prog 3 #[.agg #[.int .u32 u0,.int .u32 u1,.int .u32 u2,.int .u32 u3,.int .u32 u4,.int .u32 u5,.int .u32 u6,.int .u32 u7],.agg #[.int .u32 t0,.int .u32 t1,.int .u32 t2,.int .u32 t3,.int .u32 t4,.int .u32 t5],.int .u8 ch] w fun r w'=>r = .returned (.bool true)∧Below w.heap.size w w':=by
 have M:=Lib.hid (((Own.nil w).made #[.int .u32 u0,.int .u32 u1,.int .u32 u2,.int .u32 u3,.int .u32 u4,.int .u32 u5,.int .u32 u6,.int .u32 u7] 23).made #[.int .u32 t0,.int .u32 t1,.int .u32 t2,.int .u32 t3,.int .u32 t4,.int .u32 t5] 24)
 simp only [World.size_alloc] at M
 have eqF:=eq_floats
 go_enter Tryz.func3,Tryz.ntmps3
 obtain⟨k1,k2,k3,k4,k5,k6,k7,k8⟩:=(M.out.nth 1 rfl).eight
 go_wp2_with fail
 refine (c1.out _).mono ?_
 rintro r w1_ ⟨rfl,hb⟩
 replace M:=Lib.hid (M.out.below hb)
 clear hb
 clear k1 k2 k3 k4 k5 k6 k7 k8
 replace M:=Lib.hid (M.out.made #[.int .u8 0,(),(),(),(),(),(),(),(),(),(),(),(),(),(),(),(),true,true] 28)
 try go_simp
 repeat ((fail_if_success refine wpl_stnode (by kernel_rfl) rfl rfl rfl (by kernel_rfl) (M.out.nth 0 rfl) ?_); go_step)
 refine wpl_stnode (by kernel_rfl) rfl rfl rfl (by kernel_rfl) (M.out.nth 0 rfl) ?_
 simp only [Act.put,go_sem]
 replace M:=Lib.hid (M.out.setAll 0 rfl [.int .u8 n0,.float .f64 n1,.float .f64 n2,.float .f64 n3,.float .f64 n4,.float .f64 n5,.float .f64 n6,.float .f64 n7,.float .f64 n8,.float .f64 n9,.float .f64 n10,.float .f64 n11,.float .f64 n12,.float .f64 n13,.float .f64 n14,.float .f64 n15,.float .f64 n16,.int .i64 n17,.int .i64 n18] rfl)
 revert M
 generalize World.setCells (w1_.alloc (.cells #[.int .u8 0,(),(),(),(),(),(),(),(),(),(),(),(),(),(),(),(),true,true] 28)) w1_.heap.size 0 [.int .u8 n0,.float .f64 n1,.float .f64 n2,.float .f64 n3,.float .f64 n4,.float .f64 n5,.float .f64 n6,.float .f64 n7,.float .f64 n8,.float .f64 n9,.float .f64 n10,.float .f64 n11,.float .f64 n12,.float .f64 n13,.float .f64 n14,.float .f64 n15,.float .f64 n16,.int .i64 n17,.int .i64 n18]=W2_
 intro M
 replace M:Hid (Own w [(w1_.heap.size,#[.int .u8 n0,n1,n2,n3,n4,n5,n6,n7,n8,n9,n10,n11,n12,n13,n14,n15,n16,.int .i64 n17,.int .i64 n18]),((w.heap.size+1),#[.int .u32 t0,.int .u32 t1,.int .u32 t2,.int .u32 t3,.int .u32 t4,.int .u32 t5]),(w.heap.size,#[.int .u32 u0,.int .u32 u1,.int .u32 u2,.int .u32 u3,.int .u32 u4,.int .u32 u5,.int .u32 u6,.int .u32 u7])] W2_):=M
 obtain⟨k1,k2,k3,k4,k5,k6⟩:=(M.out.nth 1 rfl).six
 go_wp2_with fail
 refine (c2.out _).mono ?_
 rintro r w3_ ⟨rfl,hb⟩
 replace M:=Lib.hid (M.out.below hb)
 clear hb
 clear k1 k2 k3 k4 k5 k6
 replace M:=Lib.hid (M.out.made #[a0,a1,a2,a3,a4,a5] 33)
 replace M:=Lib.hid (M.out.made #[b0,b1,b2,b3,b4,b5] 33)
 simp only [World.size_alloc] at M
 go_upto_region 3 with fail
 repeat ((fail_if_success refine wpl_node (by kernel_rfl) rfl rfl (M.out.nth 2 rfl) ?_); go_step)
 refine wpl_node (by kernel_rfl) rfl rfl (M.out.nth 2 rfl) ?_
 simp only [Act.put,go_sem]
 go_wp2_with fail
 refine (c3.out _).mono ?_
 rintro r w4_ ⟨rfl,hb⟩
 replace M:=Lib.hid (M.out.below hb)
 clear hb
 go_upto_region 5 with fail
 go_step
 refine wpl_node (by kernel_rfl) rfl rfl (M.out.nth 2 rfl) ?_
 simp only [Act.put,go_sem]
 obtain⟨k1,k2,k3,k4,k5,k6⟩:=(M.out.nth 1 rfl).six
 obtain⟨k7,k8,k9,k10,k11,k12⟩:=(M.out.nth 0 rfl).six
 go_wp2_with fail
 refine (c4.out _).mono ?_
 rintro r w5_ ⟨rfl,hb⟩
 replace M:=Lib.hid (M.out.below hb)
 clear hb
 clear k1 k2 k3 k4 k5 k6 k7 k8 k9 k10 k11 k12
 replace M:=Lib.hid (M.out.made #[xl,xh] 31)
 go_upto_region 6 with fail
 go_step
 refine wpl_node (by kernel_rfl) rfl rfl (M.out.nth 3 rfl) ?_
 simp only [Act.put,go_sem]
 obtain⟨k1,k2,k3,k4,k5,k6⟩:=(M.out.nth 1 rfl).six
 obtain⟨k7,k8,k9,k10,k11,k12⟩:=(M.out.nth 2 rfl).six
 go_wp2_with fail
 refine (c5.out _).mono ?_
 rintro r w6_ ⟨rfl,hb⟩
 replace M:=Lib.hid (M.out.below hb)
 clear hb
 clear k1 k2 k3 k4 k5 k6 k7 k8 k9 k10 k11 k12
 replace M:=Lib.hid (M.out.made #[yl,yh] 31)
 go_upto_region 7 with fail
 go_step
 refine wpl_node (by kernel_rfl) rfl rfl (M.out.nth 4 rfl) ?_
 simp only [Act.put,go_sem]
 obtain⟨k1,k2,k3,k4,k5,k6⟩:=(M.out.nth 3 rfl).six
 obtain⟨k7,k8,k9,k10,k11,k12⟩:=(M.out.nth 2 rfl).six
 go_wp2_with fail
 refine (c6.out _).mono ?_
 rintro r w7_ ⟨rfl,hb⟩
 replace M:=Lib.hid (M.out.below hb)
 clear hb
 clear k1 k2 k3 k4 k5 k6 k7 k8 k9 k10 k11 k12
 replace M:=Lib.hid (M.out.made #[dl,dh] 31)
 obtain⟨k1,k2⟩:=(M.out.nth 2 rfl).two
 obtain⟨k3,k4⟩:=(M.out.nth 1 rfl).two
 go_wp2_with fail
 refine (c7.out _).mono ?_
 rintro r w8_ ⟨rfl,hb⟩
 replace M:=Lib.hid (M.out.below hb)
 clear hb
 clear k1 k2 k3 k4
 obtain⟨k1,k2⟩:=(M.out.nth 2 rfl).two
 obtain⟨k3,k4⟩:=(M.out.nth 0 rfl).two
 go_wp2_with fail
 refine (c8.out _).mono ?_
 rintro r w9_ ⟨rfl,hb⟩
 replace M:=Lib.hid (M.out.below hb)
 clear hb
 clear k1 k2 k3 k4
 go_wp2
 go_ret
 exact ⟨rfl,M.out.base⟩
end
end Go.Proofs.YtmkgfflebfpcdaaGreat
