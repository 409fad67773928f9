/- What the claim stands on, part 20: PaC. -/
import Derived.Test.YtmkgfflebfpcdaaGreatPA17
import Derived.Deep.RegionHeld3
set_option maxHeartbeats 16000000
set_option maxRecDepth 100000
namespace Go.Proofs.YtmkgfflebfpcdaaGreat
section
open Go.RowKit
attribute [local go_sem] run_store_float run_store_fun run_store_nilfun
theorem askedL_walk {r0 r1 r2 i0 i1 i2 i3 i4 i5 o0 o1 o2 o3 o4 o5:Nat} (w:World)
  (c1:Hid (∀ w,Calls Tryz.prog 51 #[.agg #[i0,i1,i2,i3,i4,i5]] w (Rt (.bool true) w)))
  (c2:Hid (∀ w,Calls Tryz.prog 51 #[.agg #[o0,o1,o2,o3,o4,o5]] w (Rt (.bool true) w)))
  (c3:Hid (∀ w,Calls Tryz.prog 26 #[.agg #[.int .u8 1,r0,r1,r2,(),(),(),(),(),(),(),(),(),(),(),(),(),true,true]] w (Rt (.tuple #[.agg #[.func (.func 61) #[] #[],.func (.func 62) #[] #[],.func (.func 63) #[] #[]],.bool true]) w)))
  (c4:Hid (∀ w,Calls Tryz.prog 52 #[.agg #[i0,i1,i2,i3,i4,i5]] w (Rt (.bool true) w)))
  (c5:Hid (∀ w,Calls Tryz.prog 52 #[.agg #[o0,o1,o2,o3,o4,o5]] w (Rt (.bool true) w))) :
  Calls Tryz.prog 27 #[.agg #[.int .u8 1,r0,r1,r2,(),(),(),(),(),(),(),(),(),(),(),(),(),true,true],.agg #[i0,i1,i2,i3,i4,i5],.agg #[o0,o1,o2,o3,o4,o5]] w (Rt (.tuple #[.agg #[.func (.func 61) #[] #[],.func (.func 62) #[] #[],.func (.func 63) #[] #[]],true]) w):=by
 have M:=Lib.hid (((((Own.nil w).made #[.int .u8 1,r0,r1,r2,(),(),(),(),(),(),(),(),(),(),(),(),(),true,true] 28).made #[i0,i1,i2,i3,i4,i5] 33).made #[o0,o1,o2,o3,o4,o5] 33).made #[.nilFunc,.nilFunc,.nilFunc] 67)
 simp only [World.size_alloc] at M
 have eqF:=eq_floats
 go_enter Tryz.func27,Tryz.ntmps27
 obtain⟨k1,k2,k3,k4,k5,k6⟩:=(M.out.nth 2 rfl).six
 go_wp2_with fail
 refine (c1.out _).mono ?_
 rintro r w1_ ⟨rfl,hb⟩
 replace M:=Lib.hid (M.out.below hb)
 clear hb
 clear k1 k2 k3 k4 k5 k6
 obtain⟨k1,k2,k3,k4,k5,k6⟩:=(M.out.nth 1 rfl).six
 go_wp2_with fail
 refine (c2.out _).mono ?_
 rintro r w2_ ⟨rfl,hb⟩
 replace M:=Lib.hid (M.out.below hb)
 clear hb
 clear k1 k2 k3 k4 k5 k6
 go_upto_region 3 with fail
 go_step
 refine wpl_node (by kernel_rfl) rfl rfl (M.out.nth 3 rfl) ?_
 simp only [Act.put,go_sem]
 go_wp2_with fail
 refine (c3.out _).mono ?_
 rintro r w3_ ⟨rfl,hb⟩
 replace M:=Lib.hid (M.out.below hb)
 clear hb
 replace M:=Lib.hid (M.out.made #[.func (.func 61) #[] #[],.func (.func 62) #[] #[],.func (.func 63) #[] #[]] 67)
 obtain⟨k1,k2,k3,k4,k5,k6⟩:=(M.out.nth 3 rfl).six
 go_wp2_with fail
 refine (c4.out _).mono ?_
 rintro r w4_ ⟨rfl,hb⟩
 replace M:=Lib.hid (M.out.below hb)
 clear hb
 clear k1 k2 k3 k4 k5 k6
 obtain⟨k1,k2,k3,k4,k5,k6⟩:=(M.out.nth 2 rfl).six
 go_wp2_with fail
 refine (c5.out _).mono ?_
 rintro r w5_ ⟨rfl,hb⟩
 replace M:=Lib.hid (M.out.below hb)
 clear hb
 clear k1 k2 k3 k4 k5 k6
 obtain⟨k1,k2,k3⟩:=(M.out.nth 0 rfl).three
 have kc:=(M.out.nth 1 rfl).2.1
 have kf:=(M.out.nth 1 rfl).2.2
 replace M:Hid (Own w [(w3_.heap.size,#[.func (.func 61) #[] #[],.func (.func 62) #[] #[],.func (.func 63) #[] #[]]),((w.heap.size+1+1+1),#[.func (.func 61) #[] #[],.func (.func 62) #[] #[],.func (.func 63) #[] #[]]),((w.heap.size+1+1),#[o0,o1,o2,o3,o4,o5]),((w.heap.size+1),#[i0,i1,i2,i3,i4,i5]),(w.heap.size,#[.int .u8 1,r0,r1,r2,(),(),(),(),(),(),(),(),(),(),(),(),(),true,true])] _):=Lib.hid ((((M.out.setIn 1 rfl 0 (.func (.func 61) #[] #[])).setIn 1 rfl 1 (.func (.func 62) #[] #[])).setIn 1 rfl 2 (.func (.func 63) #[] #[])).to (by rfl))
 go_wp2
 obtain⟨f1,f2,f3⟩:=(M.out.nth 1 rfl).three
 exact bodyPost_ret (v:=.tuple #[.agg #[.func (.func 61) #[] #[],.func (.func 62) #[] #[],.func (.func 63) #[] #[]],.int .i64 0]) (by simp [results,Tryz.results27,go_sem,f1,f2,f3]) rfl ⟨rfl,M.out.base⟩
theorem RightL_walk {r0 r1 r2:Nat} (w:World)
  (c1:Hid (∀ w,Calls Tryz.prog 26 #[.agg #[.int .u8 1,r0,r1,r2,(),(),(),(),(),(),(),(),(),(),(),(),(),true,true]] w (Rt (.tuple #[.agg #[.func (.func 61) #[] #[],.func (.func 62) #[] #[],.func (.func 63) #[] #[]],.bool true]) w))) :
  Calls Tryz.prog 8 #[.agg #[.int .u8 1,r0,r1,r2,(),(),(),(),(),(),(),(),(),(),(),(),(),true,true]] w (Rt (.bool true) w):=by
 have M:=Lib.hid ((Own.nil w).made #[.int .u8 1,r0,r1,r2,(),(),(),(),(),(),(),(),(),(),(),(),(),true,true] 28)
 have eqF:=eq_floats
 go_enter Tryz.func8,Tryz.ntmps8
 go_upto_region 1 with fail
 go_step
 refine wpl_node (by kernel_rfl) rfl rfl (M.out.nth 0 rfl) ?_
 simp only [Act.put,go_sem]
 go_wp2_with fail
 refine (c1.out _).mono ?_
 rintro r w1_ ⟨rfl,hb⟩
 replace M:=Lib.hid (M.out.below hb)
 clear hb
 replace M:=Lib.hid (M.out.made #[.func (.func 61) #[] #[],.func (.func 62) #[] #[],.func (.func 63) #[] #[]] 67)
 go_wp2
 go_ret
 exact ⟨rfl,M.out.base⟩
theorem ValueL0_walk {r0 r1 r2 i0 i1 i2 i3 i4 i5 o0 o1 o2 o3 o4 o5 zl zh:Nat} {ez:Int} (w:World)
  (c1:Hid (∀ w,Calls Tryz.prog 27 #[.agg #[.int .u8 1,r0,r1,r2,(),(),(),(),(),(),(),(),(),(),(),(),(),true,true],.agg #[i0,i1,i2,i3,i4,i5],.agg #[o0,o1,o2,o3,o4,o5]] w (Rt (.tuple #[.agg #[.func (.func 61) #[] #[],.func (.func 62) #[] #[],.func (.func 63) #[] #[]],true]) w)))
  (c2:Hid (∀ w,Calls Tryz.prog 62 #[.agg #[.int .u8 1,r0,r1,r2,(),(),(),(),(),(),(),(),(),(),(),(),(),true,true],true,.agg #[i0,i1,i2,i3,i4,i5],.agg #[o0,o1,o2,o3,o4,o5]] w (Rt (.tuple #[.agg #[zl,zh],.int .i64 ez]) w))) :
  Calls Tryz.prog 9 #[.agg #[.int .u8 1,r0,r1,r2,(),(),(),(),(),(),(),(),(),(),(),(),(),true,true],true,.agg #[i0,i1,i2,i3,i4,i5],.agg #[o0,o1,o2,o3,o4,o5]] w (Rt (.tuple #[.agg #[zl,zh],.int .i64 ez]) w):=by
 have M:=Lib.hid (((((Own.nil w).made #[.int .u8 1,r0,r1,r2,(),(),(),(),(),(),(),(),(),(),(),(),(),true,true] 28).made #[i0,i1,i2,i3,i4,i5] 33).made #[o0,o1,o2,o3,o4,o5] 33).made #[(),()] 31)
 simp only [World.size_alloc] at M
 have eqF:=eq_floats
 go_enter Tryz.func9,Tryz.ntmps9
 go_upto_region 1 with fail
 go_step
 refine wpl_node (by kernel_rfl) rfl rfl (M.out.nth 3 rfl) ?_
 simp only [Act.put,go_sem]
 obtain⟨k1,k2,k3,k4,k5,k6⟩:=(M.out.nth 2 rfl).six
 obtain⟨k7,k8,k9,k10,k11,k12⟩:=(M.out.nth 1 rfl).six
 go_wp2_with fail
 refine (c1.out _).mono ?_
 rintro r w1_ ⟨rfl,hb⟩
 replace M:=Lib.hid (M.out.below hb)
 clear hb
 clear k1 k2 k3 k4 k5 k6 k7 k8 k9 k10 k11 k12
 replace M:=Lib.hid (M.out.made #[.func (.func 61) #[] #[],.func (.func 62) #[] #[],.func (.func 63) #[] #[]] 67)
 go_upto_region 6 with fail
 repeat ((fail_if_success refine wpl_node (by kernel_rfl) rfl rfl (M.out.nth 4 rfl) ?_); go_step)
 refine wpl_node (by kernel_rfl) rfl rfl (M.out.nth 4 rfl) ?_
 simp only [Act.put,go_sem]
 obtain⟨k1,k2,k3,k4,k5,k6⟩:=(M.out.nth 3 rfl).six
 obtain⟨k7,k8,k9,k10,k11,k12⟩:=(M.out.nth 2 rfl).six
 go_wp2_with fail
 refine (c2.out _).mono ?_
 rintro r w2_ ⟨rfl,hb⟩
 replace M:=Lib.hid (M.out.below hb)
 clear hb
 clear k1 k2 k3 k4 k5 k6 k7 k8 k9 k10 k11 k12
 have kc:=(M.out.nth 1 rfl).2.1
 have kf:=(M.out.nth 1 rfl).2.2
 replace M:=Lib.hid (M.out.set2 1 rfl (zl:Value) (zh:Value))
 dsimp only [List.set] at M
 go_wp2
 obtain⟨f1,f2⟩:=(M.out.nth 1 rfl).two
 exact bodyPost_ret (v:=.tuple #[.agg #[.float .f64 zl,.float .f64 zh],.int .i64 ez]) (by simp [results,Tryz.results9,go_sem,f1,f2]) rfl ⟨rfl,M.out.base⟩
theorem ValueL1_walk {r0 r1 r2 i0 i1 i2 i3 i4 i5 o0 o1 o2 o3 o4 o5 zl zh:Nat} {ez:Int} (w:World)
  (c1:Hid (∀ w,Calls Tryz.prog 27 #[.agg #[.int .u8 1,r0,r1,r2,(),(),(),(),(),(),(),(),(),(),(),(),(),true,true],.agg #[i0,i1,i2,i3,i4,i5],.agg #[o0,o1,o2,o3,o4,o5]] w (Rt (.tuple #[.agg #[.func (.func 61) #[] #[],.func (.func 62) #[] #[],.func (.func 63) #[] #[]],true]) w)))
  (c2:Hid (∀ w,Calls Tryz.prog 62 #[.agg #[.int .u8 1,r0,r1,r2,(),(),(),(),(),(),(),(),(),(),(),(),(),true,true],.int .i64 1,.agg #[i0,i1,i2,i3,i4,i5],.agg #[o0,o1,o2,o3,o4,o5]] w (Rt (.tuple #[.agg #[zl,zh],.int .i64 ez]) w))) :
  Calls Tryz.prog 9 #[.agg #[.int .u8 1,r0,r1,r2,(),(),(),(),(),(),(),(),(),(),(),(),(),true,true],.int .i64 1,.agg #[i0,i1,i2,i3,i4,i5],.agg #[o0,o1,o2,o3,o4,o5]] w (Rt (.tuple #[.agg #[zl,zh],.int .i64 ez]) w):=by
 have M:=Lib.hid (((((Own.nil w).made #[.int .u8 1,r0,r1,r2,(),(),(),(),(),(),(),(),(),(),(),(),(),true,true] 28).made #[i0,i1,i2,i3,i4,i5] 33).made #[o0,o1,o2,o3,o4,o5] 33).made #[(),()] 31)
 simp only [World.size_alloc] at M
 have eqF:=eq_floats
 go_enter Tryz.func9,Tryz.ntmps9
 go_upto_region 1 with fail
 go_step
 refine wpl_node (by kernel_rfl) rfl rfl (M.out.nth 3 rfl) ?_
 simp only [Act.put,go_sem]
 obtain⟨k1,k2,k3,k4,k5,k6⟩:=(M.out.nth 2 rfl).six
 obtain⟨k7,k8,k9,k10,k11,k12⟩:=(M.out.nth 1 rfl).six
 go_wp2_with fail
 refine (c1.out _).mono ?_
 rintro r w1_ ⟨rfl,hb⟩
 replace M:=Lib.hid (M.out.below hb)
 clear hb
 clear k1 k2 k3 k4 k5 k6 k7 k8 k9 k10 k11 k12
 replace M:=Lib.hid (M.out.made #[.func (.func 61) #[] #[],.func (.func 62) #[] #[],.func (.func 63) #[] #[]] 67)
 go_upto_region 6 with fail
 repeat ((fail_if_success refine wpl_node (by kernel_rfl) rfl rfl (M.out.nth 4 rfl) ?_); go_step)
 refine wpl_node (by kernel_rfl) rfl rfl (M.out.nth 4 rfl) ?_
 simp only [Act.put,go_sem]
 obtain⟨k1,k2,k3,k4,k5,k6⟩:=(M.out.nth 3 rfl).six
 obtain⟨k7,k8,k9,k10,k11,k12⟩:=(M.out.nth 2 rfl).six
 go_wp2_with fail
 refine (c2.out _).mono ?_
 rintro r w2_ ⟨rfl,hb⟩
 replace M:=Lib.hid (M.out.below hb)
 clear hb
 clear k1 k2 k3 k4 k5 k6 k7 k8 k9 k10 k11 k12
 have kc:=(M.out.nth 1 rfl).2.1
 have kf:=(M.out.nth 1 rfl).2.2
 replace M:=Lib.hid (M.out.set2 1 rfl (zl:Value) (zh:Value))
 dsimp only [List.set] at M
 go_wp2
 obtain⟨f1,f2⟩:=(M.out.nth 1 rfl).two
 exact bodyPost_ret (v:=.tuple #[.agg #[.float .f64 zl,.float .f64 zh],.int .i64 ez]) (by simp [results,Tryz.results9,go_sem,f1,f2]) rfl ⟨rfl,M.out.base⟩
theorem ValueL2_walk {r0 r1 r2 i0 i1 i2 i3 i4 i5 o0 o1 o2 o3 o4 o5 zl zh:Nat} {ez:Int} (w:World)
  (c1:Hid (∀ w,Calls Tryz.prog 27 #[.agg #[.int .u8 1,r0,r1,r2,(),(),(),(),(),(),(),(),(),(),(),(),(),true,true],.agg #[i0,i1,i2,i3,i4,i5],.agg #[o0,o1,o2,o3,o4,o5]] w (Rt (.tuple #[.agg #[.func (.func 61) #[] #[],.func (.func 62) #[] #[],.func (.func 63) #[] #[]],true]) w)))
  (c2:Hid (∀ w,Calls Tryz.prog 62 #[.agg #[.int .u8 1,r0,r1,r2,(),(),(),(),(),(),(),(),(),(),(),(),(),true,true],.int .i64 2,.agg #[i0,i1,i2,i3,i4,i5],.agg #[o0,o1,o2,o3,o4,o5]] w (Rt (.tuple #[.agg #[zl,zh],.int .i64 ez]) w))) :
  Calls Tryz.prog 9 #[.agg #[.int .u8 1,r0,r1,r2,(),(),(),(),(),(),(),(),(),(),(),(),(),true,true],.int .i64 2,.agg #[i0,i1,i2,i3,i4,i5],.agg #[o0,o1,o2,o3,o4,o5]] w (Rt (.tuple #[.agg #[zl,zh],.int .i64 ez]) w):=by
 have M:=Lib.hid (((((Own.nil w).made #[.int .u8 1,r0,r1,r2,(),(),(),(),(),(),(),(),(),(),(),(),(),true,true] 28).made #[i0,i1,i2,i3,i4,i5] 33).made #[o0,o1,o2,o3,o4,o5] 33).made #[(),()] 31)
 simp only [World.size_alloc] at M
 have eqF:=eq_floats
 go_enter Tryz.func9,Tryz.ntmps9
 go_upto_region 1 with fail
 go_step
 refine wpl_node (by kernel_rfl) rfl rfl (M.out.nth 3 rfl) ?_
 simp only [Act.put,go_sem]
 obtain⟨k1,k2,k3,k4,k5,k6⟩:=(M.out.nth 2 rfl).six
 obtain⟨k7,k8,k9,k10,k11,k12⟩:=(M.out.nth 1 rfl).six
 go_wp2_with fail
 refine (c1.out _).mono ?_
 rintro r w1_ ⟨rfl,hb⟩
 replace M:=Lib.hid (M.out.below hb)
 clear hb
 clear k1 k2 k3 k4 k5 k6 k7 k8 k9 k10 k11 k12
 replace M:=Lib.hid (M.out.made #[.func (.func 61) #[] #[],.func (.func 62) #[] #[],.func (.func 63) #[] #[]] 67)
 go_upto_region 6 with fail
 repeat ((fail_if_success refine wpl_node (by kernel_rfl) rfl rfl (M.out.nth 4 rfl) ?_); go_step)
 refine wpl_node (by kernel_rfl) rfl rfl (M.out.nth 4 rfl) ?_
 simp only [Act.put,go_sem]
 obtain⟨k1,k2,k3,k4,k5,k6⟩:=(M.out.nth 3 rfl).six
 obtain⟨k7,k8,k9,k10,k11,k12⟩:=(M.out.nth 2 rfl).six
 go_wp2_with fail
 refine (c2.out _).mono ?_
 rintro r w2_ ⟨rfl,hb⟩
 replace M:=Lib.hid (M.out.below hb)
 clear hb
 clear k1 k2 k3 k4 k5 k6 k7 k8 k9 k10 k11 k12
 have kc:=(M.out.nth 1 rfl).2.1
 have kf:=(M.out.nth 1 rfl).2.2
 replace M:=Lib.hid (M.out.set2 1 rfl (zl:Value) (zh:Value))
 dsimp only [List.set] at M
 go_wp2
 obtain⟨f1,f2⟩:=(M.out.nth 1 rfl).two
 exact bodyPost_ret (v:=.tuple #[.agg #[.float .f64 zl,.float .f64 zh],.int .i64 ez]) (by simp [results,Tryz.results9,go_sem,f1,f2]) rfl ⟨rfl,M.out.base⟩
theorem ValueL3_walk {r0 r1 r2 i0 i1 i2 i3 i4 i5 o0 o1 o2 o3 o4 o5:Nat} (w:World)
  (c1:Hid (∀ w,Calls Tryz.prog 27 #[.agg #[.int .u8 1,r0,r1,r2,(),(),(),(),(),(),(),(),(),(),(),(),(),true,true],.agg #[i0,i1,i2,i3,i4,i5],.agg #[o0,o1,o2,o3,o4,o5]] w (Rt (.tuple #[.agg #[.func (.func 61) #[] #[],.func (.func 62) #[] #[],.func (.func 63) #[] #[]],true]) w))) :
  Calls Tryz.prog 9 #[.agg #[.int .u8 1,r0,r1,r2,(),(),(),(),(),(),(),(),(),(),(),(),(),true,true],.int .i64 3,.agg #[i0,i1,i2,i3,i4,i5],.agg #[o0,o1,o2,o3,o4,o5]] w (Rt (.tuple #[.agg #[(),()],.int .i64 2]) w):=by
 have M:=Lib.hid (((((Own.nil w).made #[.int .u8 1,r0,r1,r2,(),(),(),(),(),(),(),(),(),(),(),(),(),true,true] 28).made #[i0,i1,i2,i3,i4,i5] 33).made #[o0,o1,o2,o3,o4,o5] 33).made #[(),()] 31)
 simp only [World.size_alloc] at M
 have eqF:=eq_floats
 go_enter Tryz.func9,Tryz.ntmps9
 go_upto_region 1 with fail
 go_step
 refine wpl_node (by kernel_rfl) rfl rfl (M.out.nth 3 rfl) ?_
 simp only [Act.put,go_sem]
 obtain⟨k1,k2,k3,k4,k5,k6⟩:=(M.out.nth 2 rfl).six
 obtain⟨k7,k8,k9,k10,k11,k12⟩:=(M.out.nth 1 rfl).six
 go_wp2_with fail
 refine (c1.out _).mono ?_
 rintro r w1_ ⟨rfl,hb⟩
 replace M:=Lib.hid (M.out.below hb)
 clear hb
 clear k1 k2 k3 k4 k5 k6 k7 k8 k9 k10 k11 k12
 replace M:=Lib.hid (M.out.made #[.func (.func 61) #[] #[],.func (.func 62) #[] #[],.func (.func 63) #[] #[]] 67)
 have kc:=(M.out.nth 1 rfl).2.1
 have kf:=(M.out.nth 1 rfl).2.2
 replace M:=Lib.hid (M.out.set2 1 rfl (.float .f64 0) (.float .f64 0))
 dsimp only [List.set] at M
 go_wp2
 obtain⟨f1,f2⟩:=(M.out.nth 1 rfl).two
 exact bodyPost_ret (v:=.tuple #[.agg #[.float .f64 0,.float .f64 0],.int .i64 2]) (by simp [results,Tryz.results9,go_sem,f1,f2]) rfl ⟨rfl,M.out.base⟩
theorem askedO_walk {r0 r1 r2 sg i0 i1 i2 i3 i4 i5 o0 o1 o2 o3 o4 o5:Nat} (w:World)
  (c1:Hid (∀ w,Calls Tryz.prog 51 #[.agg #[i0,i1,i2,i3,i4,i5]] w (Rt (.bool true) w)))
  (c2:Hid (∀ w,Calls Tryz.prog 51 #[.agg #[o0,o1,o2,o3,o4,o5]] w (Rt (.bool true) w)))
  (c3:Hid (∀ w,Calls Tryz.prog 26 #[.agg #[.int .u8 2,r0,r1,r2,(),(),(),(),(),(),(),(),(),sg,(),(),(),true,true]] w (Rt (.tuple #[.agg #[.func (.func 64) #[] #[],.func (.func 65) #[] #[],.func (.func 63) #[] #[]],.bool true]) w)))
  (c4:Hid (∀ w,Calls Tryz.prog 52 #[.agg #[i0,i1,i2,i3,i4,i5]] w (Rt (.bool true) w)))
  (c5:Hid (∀ w,Calls Tryz.prog 52 #[.agg #[o0,o1,o2,o3,o4,o5]] w (Rt (.bool true) w))) :
  Calls Tryz.prog 27 #[.agg #[.int .u8 2,r0,r1,r2,(),(),(),(),(),(),(),(),(),sg,(),(),(),true,true],.agg #[i0,i1,i2,i3,i4,i5],.agg #[o0,o1,o2,o3,o4,o5]] w (Rt (.tuple #[.agg #[.func (.func 64) #[] #[],.func (.func 65) #[] #[],.func (.func 63) #[] #[]],true]) w):=by
 have M:=Lib.hid (((((Own.nil w).made #[.int .u8 2,r0,r1,r2,(),(),(),(),(),(),(),(),(),sg,(),(),(),true,true] 28).made #[i0,i1,i2,i3,i4,i5] 33).made #[o0,o1,o2,o3,o4,o5] 33).made #[.nilFunc,.nilFunc,.nilFunc] 67)
 simp only [World.size_alloc] at M
 have eqF:=eq_floats
 go_enter Tryz.func27,Tryz.ntmps27
 obtain⟨k1,k2,k3,k4,k5,k6⟩:=(M.out.nth 2 rfl).six
 go_wp2_with fail
 refine (c1.out _).mono ?_
 rintro r w1_ ⟨rfl,hb⟩
 replace M:=Lib.hid (M.out.below hb)
 clear hb
 clear k1 k2 k3 k4 k5 k6
 obtain⟨k1,k2,k3,k4,k5,k6⟩:=(M.out.nth 1 rfl).six
 go_wp2_with fail
 refine (c2.out _).mono ?_
 rintro r w2_ ⟨rfl,hb⟩
 replace M:=Lib.hid (M.out.below hb)
 clear hb
 clear k1 k2 k3 k4 k5 k6
 go_upto_region 3 with fail
 go_step
 refine wpl_node (by kernel_rfl) rfl rfl (M.out.nth 3 rfl) ?_
 simp only [Act.put,go_sem]
 go_wp2_with fail
 refine (c3.out _).mono ?_
 rintro r w3_ ⟨rfl,hb⟩
 replace M:=Lib.hid (M.out.below hb)
 clear hb
 replace M:=Lib.hid (M.out.made #[.func (.func 64) #[] #[],.func (.func 65) #[] #[],.func (.func 63) #[] #[]] 67)
 obtain⟨k1,k2,k3,k4,k5,k6⟩:=(M.out.nth 3 rfl).six
 go_wp2_with fail
 refine (c4.out _).mono ?_
 rintro r w4_ ⟨rfl,hb⟩
 replace M:=Lib.hid (M.out.below hb)
 clear hb
 clear k1 k2 k3 k4 k5 k6
 obtain⟨k1,k2,k3,k4,k5,k6⟩:=(M.out.nth 2 rfl).six
 go_wp2_with fail
 refine (c5.out _).mono ?_
 rintro r w5_ ⟨rfl,hb⟩
 replace M:=Lib.hid (M.out.below hb)
 clear hb
 clear k1 k2 k3 k4 k5 k6
 obtain⟨k1,k2,k3⟩:=(M.out.nth 0 rfl).three
 have kc:=(M.out.nth 1 rfl).2.1
 have kf:=(M.out.nth 1 rfl).2.2
 replace M:Hid (Own w [(w3_.heap.size,#[.func (.func 64) #[] #[],.func (.func 65) #[] #[],.func (.func 63) #[] #[]]),((w.heap.size+1+1+1),#[.func (.func 64) #[] #[],.func (.func 65) #[] #[],.func (.func 63) #[] #[]]),((w.heap.size+1+1),#[o0,o1,o2,o3,o4,o5]),((w.heap.size+1),#[i0,i1,i2,i3,i4,i5]),(w.heap.size,#[.int .u8 2,r0,r1,r2,(),(),(),(),(),(),(),(),(),sg,(),(),(),true,true])] _):=Lib.hid ((((M.out.setIn 1 rfl 0 (.func (.func 64) #[] #[])).setIn 1 rfl 1 (.func (.func 65) #[] #[])).setIn 1 rfl 2 (.func (.func 63) #[] #[])).to (by rfl))
 go_wp2
 obtain⟨f1,f2,f3⟩:=(M.out.nth 1 rfl).three
 exact bodyPost_ret (v:=.tuple #[.agg #[.func (.func 64) #[] #[],.func (.func 65) #[] #[],.func (.func 63) #[] #[]],.int .i64 0]) (by simp [results,Tryz.results27,go_sem,f1,f2,f3]) rfl ⟨rfl,M.out.base⟩
theorem ValueO0_walk {r0 r1 r2 sg i0 i1 i2 i3 i4 i5 o0 o1 o2 o3 o4 o5 zl zh:Nat} {ez:Int} (w:World)
  (c1:Hid (∀ w,Calls Tryz.prog 27 #[.agg #[.int .u8 2,r0,r1,r2,(),(),(),(),(),(),(),(),(),sg,(),(),(),true,true],.agg #[i0,i1,i2,i3,i4,i5],.agg #[o0,o1,o2,o3,o4,o5]] w (Rt (.tuple #[.agg #[.func (.func 64) #[] #[],.func (.func 65) #[] #[],.func (.func 63) #[] #[]],true]) w)))
  (c2:Hid (∀ w,Calls Tryz.prog 65 #[.agg #[.int .u8 2,r0,r1,r2,(),(),(),(),(),(),(),(),(),sg,(),(),(),true,true],true,.agg #[i0,i1,i2,i3,i4,i5],.agg #[o0,o1,o2,o3,o4,o5]] w (Rt (.tuple #[.agg #[zl,zh],.int .i64 ez]) w))) :
  Calls Tryz.prog 9 #[.agg #[.int .u8 2,r0,r1,r2,(),(),(),(),(),(),(),(),(),sg,(),(),(),true,true],true,.agg #[i0,i1,i2,i3,i4,i5],.agg #[o0,o1,o2,o3,o4,o5]] w (Rt (.tuple #[.agg #[zl,zh],.int .i64 ez]) w):=by
 have M:=Lib.hid (((((Own.nil w).made #[.int .u8 2,r0,r1,r2,(),(),(),(),(),(),(),(),(),sg,(),(),(),true,true] 28).made #[i0,i1,i2,i3,i4,i5] 33).made #[o0,o1,o2,o3,o4,o5] 33).made #[(),()] 31)
 simp only [World.size_alloc] at M
 have eqF:=eq_floats
 go_enter Tryz.func9,Tryz.ntmps9
 go_upto_region 1 with fail
 go_step
 refine wpl_node (by kernel_rfl) rfl rfl (M.out.nth 3 rfl) ?_
 simp only [Act.put,go_sem]
 obtain⟨k1,k2,k3,k4,k5,k6⟩:=(M.out.nth 2 rfl).six
 obtain⟨k7,k8,k9,k10,k11,k12⟩:=(M.out.nth 1 rfl).six
 go_wp2_with fail
 refine (c1.out _).mono ?_
 rintro r w1_ ⟨rfl,hb⟩
 replace M:=Lib.hid (M.out.below hb)
 clear hb
 clear k1 k2 k3 k4 k5 k6 k7 k8 k9 k10 k11 k12
 replace M:=Lib.hid (M.out.made #[.func (.func 64) #[] #[],.func (.func 65) #[] #[],.func (.func 63) #[] #[]] 67)
 go_upto_region 6 with fail
 repeat ((fail_if_success refine wpl_node (by kernel_rfl) rfl rfl (M.out.nth 4 rfl) ?_); go_step)
 refine wpl_node (by kernel_rfl) rfl rfl (M.out.nth 4 rfl) ?_
 simp only [Act.put,go_sem]
 obtain⟨k1,k2,k3,k4,k5,k6⟩:=(M.out.nth 3 rfl).six
 obtain⟨k7,k8,k9,k10,k11,k12⟩:=(M.out.nth 2 rfl).six
 go_wp2_with fail
 refine (c2.out _).mono ?_
 rintro r w2_ ⟨rfl,hb⟩
 replace M:=Lib.hid (M.out.below hb)
 clear hb
 clear k1 k2 k3 k4 k5 k6 k7 k8 k9 k10 k11 k12
 have kc:=(M.out.nth 1 rfl).2.1
 have kf:=(M.out.nth 1 rfl).2.2
 replace M:=Lib.hid (M.out.set2 1 rfl (zl:Value) (zh:Value))
 dsimp only [List.set] at M
 go_wp2
 obtain⟨f1,f2⟩:=(M.out.nth 1 rfl).two
 exact bodyPost_ret (v:=.tuple #[.agg #[.float .f64 zl,.float .f64 zh],.int .i64 ez]) (by simp [results,Tryz.results9,go_sem,f1,f2]) rfl ⟨rfl,M.out.base⟩
theorem ValueO1_walk {r0 r1 r2 sg i0 i1 i2 i3 i4 i5 o0 o1 o2 o3 o4 o5 zl zh:Nat} {ez:Int} (w:World)
  (c1:Hid (∀ w,Calls Tryz.prog 27 #[.agg #[.int .u8 2,r0,r1,r2,(),(),(),(),(),(),(),(),(),sg,(),(),(),true,true],.agg #[i0,i1,i2,i3,i4,i5],.agg #[o0,o1,o2,o3,o4,o5]] w (Rt (.tuple #[.agg #[.func (.func 64) #[] #[],.func (.func 65) #[] #[],.func (.func 63) #[] #[]],true]) w)))
  (c2:Hid (∀ w,Calls Tryz.prog 65 #[.agg #[.int .u8 2,r0,r1,r2,(),(),(),(),(),(),(),(),(),sg,(),(),(),true,true],.int .i64 1,.agg #[i0,i1,i2,i3,i4,i5],.agg #[o0,o1,o2,o3,o4,o5]] w (Rt (.tuple #[.agg #[zl,zh],.int .i64 ez]) w))) :
  Calls Tryz.prog 9 #[.agg #[.int .u8 2,r0,r1,r2,(),(),(),(),(),(),(),(),(),sg,(),(),(),true,true],.int .i64 1,.agg #[i0,i1,i2,i3,i4,i5],.agg #[o0,o1,o2,o3,o4,o5]] w (Rt (.tuple #[.agg #[zl,zh],.int .i64 ez]) w):=by
 have M:=Lib.hid (((((Own.nil w).made #[.int .u8 2,r0,r1,r2,(),(),(),(),(),(),(),(),(),sg,(),(),(),true,true] 28).made #[i0,i1,i2,i3,i4,i5] 33).made #[o0,o1,o2,o3,o4,o5] 33).made #[(),()] 31)
 simp only [World.size_alloc] at M
 have eqF:=eq_floats
 go_enter Tryz.func9,Tryz.ntmps9
 go_upto_region 1 with fail
 go_step
 refine wpl_node (by kernel_rfl) rfl rfl (M.out.nth 3 rfl) ?_
 simp only [Act.put,go_sem]
 obtain⟨k1,k2,k3,k4,k5,k6⟩:=(M.out.nth 2 rfl).six
 obtain⟨k7,k8,k9,k10,k11,k12⟩:=(M.out.nth 1 rfl).six
 go_wp2_with fail
 refine (c1.out _).mono ?_
 rintro r w1_ ⟨rfl,hb⟩
 replace M:=Lib.hid (M.out.below hb)
 clear hb
 clear k1 k2 k3 k4 k5 k6 k7 k8 k9 k10 k11 k12
 replace M:=Lib.hid (M.out.made #[.func (.func 64) #[] #[],.func (.func 65) #[] #[],.func (.func 63) #[] #[]] 67)
 go_upto_region 6 with fail
 repeat ((fail_if_success refine wpl_node (by kernel_rfl) rfl rfl (M.out.nth 4 rfl) ?_); go_step)
 refine wpl_node (by kernel_rfl) rfl rfl (M.out.nth 4 rfl) ?_
 simp only [Act.put,go_sem]
 obtain⟨k1,k2,k3,k4,k5,k6⟩:=(M.out.nth 3 rfl).six
 obtain⟨k7,k8,k9,k10,k11,k12⟩:=(M.out.nth 2 rfl).six
 go_wp2_with fail
 refine (c2.out _).mono ?_
 rintro r w2_ ⟨rfl,hb⟩
 replace M:=Lib.hid (M.out.below hb)
 clear hb
 clear k1 k2 k3 k4 k5 k6 k7 k8 k9 k10 k11 k12
 have kc:=(M.out.nth 1 rfl).2.1
 have kf:=(M.out.nth 1 rfl).2.2
 replace M:=Lib.hid (M.out.set2 1 rfl (zl:Value) (zh:Value))
 dsimp only [List.set] at M
 go_wp2
 obtain⟨f1,f2⟩:=(M.out.nth 1 rfl).two
 exact bodyPost_ret (v:=.tuple #[.agg #[.float .f64 zl,.float .f64 zh],.int .i64 ez]) (by simp [results,Tryz.results9,go_sem,f1,f2]) rfl ⟨rfl,M.out.base⟩
theorem ValueO2_walk {r0 r1 r2 sg i0 i1 i2 i3 i4 i5 o0 o1 o2 o3 o4 o5 zl zh:Nat} {ez:Int} (w:World)
  (c1:Hid (∀ w,Calls Tryz.prog 27 #[.agg #[.int .u8 2,r0,r1,r2,(),(),(),(),(),(),(),(),(),sg,(),(),(),true,true],.agg #[i0,i1,i2,i3,i4,i5],.agg #[o0,o1,o2,o3,o4,o5]] w (Rt (.tuple #[.agg #[.func (.func 64) #[] #[],.func (.func 65) #[] #[],.func (.func 63) #[] #[]],true]) w)))
  (c2:Hid (∀ w,Calls Tryz.prog 65 #[.agg #[.int .u8 2,r0,r1,r2,(),(),(),(),(),(),(),(),(),sg,(),(),(),true,true],.int .i64 2,.agg #[i0,i1,i2,i3,i4,i5],.agg #[o0,o1,o2,o3,o4,o5]] w (Rt (.tuple #[.agg #[zl,zh],.int .i64 ez]) w))) :
  Calls Tryz.prog 9 #[.agg #[.int .u8 2,r0,r1,r2,(),(),(),(),(),(),(),(),(),sg,(),(),(),true,true],.int .i64 2,.agg #[i0,i1,i2,i3,i4,i5],.agg #[o0,o1,o2,o3,o4,o5]] w (Rt (.tuple #[.agg #[zl,zh],.int .i64 ez]) w):=by
 have M:=Lib.hid (((((Own.nil w).made #[.int .u8 2,r0,r1,r2,(),(),(),(),(),(),(),(),(),sg,(),(),(),true,true] 28).made #[i0,i1,i2,i3,i4,i5] 33).made #[o0,o1,o2,o3,o4,o5] 33).made #[(),()] 31)
 simp only [World.size_alloc] at M
 have eqF:=eq_floats
 go_enter Tryz.func9,Tryz.ntmps9
 go_upto_region 1 with fail
 go_step
 refine wpl_node (by kernel_rfl) rfl rfl (M.out.nth 3 rfl) ?_
 simp only [Act.put,go_sem]
 obtain⟨k1,k2,k3,k4,k5,k6⟩:=(M.out.nth 2 rfl).six
 obtain⟨k7,k8,k9,k10,k11,k12⟩:=(M.out.nth 1 rfl).six
 go_wp2_with fail
 refine (c1.out _).mono ?_
 rintro r w1_ ⟨rfl,hb⟩
 replace M:=Lib.hid (M.out.below hb)
 clear hb
 clear k1 k2 k3 k4 k5 k6 k7 k8 k9 k10 k11 k12
 replace M:=Lib.hid (M.out.made #[.func (.func 64) #[] #[],.func (.func 65) #[] #[],.func (.func 63) #[] #[]] 67)
 go_upto_region 6 with fail
 repeat ((fail_if_success refine wpl_node (by kernel_rfl) rfl rfl (M.out.nth 4 rfl) ?_); go_step)
 refine wpl_node (by kernel_rfl) rfl rfl (M.out.nth 4 rfl) ?_
 simp only [Act.put,go_sem]
 obtain⟨k1,k2,k3,k4,k5,k6⟩:=(M.out.nth 3 rfl).six
 obtain⟨k7,k8,k9,k10,k11,k12⟩:=(M.out.nth 2 rfl).six
 go_wp2_with fail
 refine (c2.out _).mono ?_
 rintro r w2_ ⟨rfl,hb⟩
 replace M:=Lib.hid (M.out.below hb)
 clear hb
 clear k1 k2 k3 k4 k5 k6 k7 k8 k9 k10 k11 k12
 have kc:=(M.out.nth 1 rfl).2.1
 have kf:=(M.out.nth 1 rfl).2.2
 replace M:=Lib.hid (M.out.set2 1 rfl (zl:Value) (zh:Value))
 dsimp only [List.set] at M
 go_wp2
 obtain⟨f1,f2⟩:=(M.out.nth 1 rfl).two
 exact bodyPost_ret (v:=.tuple #[.agg #[.float .f64 zl,.float .f64 zh],.int .i64 ez]) (by simp [results,Tryz.results9,go_sem,f1,f2]) rfl ⟨rfl,M.out.base⟩
theorem askedP_walk {al io i0 i1 i2 i3 i4 i5 o0 o1 o2 o3 o4 o5:Nat} (w:World)
  (c1:Hid (∀ w,Calls Tryz.prog 51 #[.agg #[i0,i1,i2,i3,i4,i5]] w (Rt (.bool true) w)))
  (c2:Hid (∀ w,Calls Tryz.prog 51 #[.agg #[o0,o1,o2,o3,o4,o5]] w (Rt (.bool true) w)))
  (c3:Hid (∀ w,Calls Tryz.prog 26 #[.agg #[.int .u8 3,(),(),(),(),(),(),(),(),(),(),(),(),(),al,io,(),true,true]] w (Rt (.tuple #[.agg #[.func (.func 66) #[] #[],.func (.func 67) #[] #[],.func (.func 68) #[] #[]],.bool true]) w)))
  (c4:Hid (∀ w,Calls Tryz.prog 52 #[.agg #[i0,i1,i2,i3,i4,i5]] w (Rt (.bool true) w)))
  (c5:Hid (∀ w,Calls Tryz.prog 52 #[.agg #[o0,o1,o2,o3,o4,o5]] w (Rt (.bool true) w))) :
  Calls Tryz.prog 27 #[.agg #[.int .u8 3,(),(),(),(),(),(),(),(),(),(),(),(),(),al,io,(),true,true],.agg #[i0,i1,i2,i3,i4,i5],.agg #[o0,o1,o2,o3,o4,o5]] w (Rt (.tuple #[.agg #[.func (.func 66) #[] #[],.func (.func 67) #[] #[],.func (.func 68) #[] #[]],true]) w):=by
 have M:=Lib.hid (((((Own.nil w).made #[.int .u8 3,(),(),(),(),(),(),(),(),(),(),(),(),(),al,io,(),true,true] 28).made #[i0,i1,i2,i3,i4,i5] 33).made #[o0,o1,o2,o3,o4,o5] 33).made #[.nilFunc,.nilFunc,.nilFunc] 67)
 simp only [World.size_alloc] at M
 have eqF:=eq_floats
 go_enter Tryz.func27,Tryz.ntmps27
 obtain⟨k1,k2,k3,k4,k5,k6⟩:=(M.out.nth 2 rfl).six
 go_wp2_with fail
 refine (c1.out _).mono ?_
 rintro r w1_ ⟨rfl,hb⟩
 replace M:=Lib.hid (M.out.below hb)
 clear hb
 clear k1 k2 k3 k4 k5 k6
 obtain⟨k1,k2,k3,k4,k5,k6⟩:=(M.out.nth 1 rfl).six
 go_wp2_with fail
 refine (c2.out _).mono ?_
 rintro r w2_ ⟨rfl,hb⟩
 replace M:=Lib.hid (M.out.below hb)
 clear hb
 clear k1 k2 k3 k4 k5 k6
 go_upto_region 3 with fail
 go_step
 refine wpl_node (by kernel_rfl) rfl rfl (M.out.nth 3 rfl) ?_
 simp only [Act.put,go_sem]
 go_wp2_with fail
 refine (c3.out _).mono ?_
 rintro r w3_ ⟨rfl,hb⟩
 replace M:=Lib.hid (M.out.below hb)
 clear hb
 replace M:=Lib.hid (M.out.made #[.func (.func 66) #[] #[],.func (.func 67) #[] #[],.func (.func 68) #[] #[]] 67)
 obtain⟨k1,k2,k3,k4,k5,k6⟩:=(M.out.nth 3 rfl).six
 go_wp2_with fail
 refine (c4.out _).mono ?_
 rintro r w4_ ⟨rfl,hb⟩
 replace M:=Lib.hid (M.out.below hb)
 clear hb
 clear k1 k2 k3 k4 k5 k6
 obtain⟨k1,k2,k3,k4,k5,k6⟩:=(M.out.nth 2 rfl).six
 go_wp2_with fail
 refine (c5.out _).mono ?_
 rintro r w5_ ⟨rfl,hb⟩
 replace M:=Lib.hid (M.out.below hb)
 clear hb
 clear k1 k2 k3 k4 k5 k6
 obtain⟨k1,k2,k3⟩:=(M.out.nth 0 rfl).three
 have kc:=(M.out.nth 1 rfl).2.1
 have kf:=(M.out.nth 1 rfl).2.2
 replace M:Hid (Own w [(w3_.heap.size,#[.func (.func 66) #[] #[],.func (.func 67) #[] #[],.func (.func 68) #[] #[]]),((w.heap.size+1+1+1),#[.func (.func 66) #[] #[],.func (.func 67) #[] #[],.func (.func 68) #[] #[]]),((w.heap.size+1+1),#[o0,o1,o2,o3,o4,o5]),((w.heap.size+1),#[i0,i1,i2,i3,i4,i5]),(w.heap.size,#[.int .u8 3,(),(),(),(),(),(),(),(),(),(),(),(),(),al,io,(),true,true])] _):=Lib.hid ((((M.out.setIn 1 rfl 0 (.func (.func 66) #[] #[])).setIn 1 rfl 1 (.func (.func 67) #[] #[])).setIn 1 rfl 2 (.func (.func 68) #[] #[])).to (by rfl))
 go_wp2
 obtain⟨f1,f2,f3⟩:=(M.out.nth 1 rfl).three
 exact bodyPost_ret (v:=.tuple #[.agg #[.func (.func 66) #[] #[],.func (.func 67) #[] #[],.func (.func 68) #[] #[]],.int .i64 0]) (by simp [results,Tryz.results27,go_sem,f1,f2,f3]) rfl ⟨rfl,M.out.base⟩
theorem ValueP0_walk {al io i0 i1 i2 i3 i4 i5 o0 o1 o2 o3 o4 o5 zl zh:Nat} {ez:Int} (w:World)
  (c1:Hid (∀ w,Calls Tryz.prog 27 #[.agg #[.int .u8 3,(),(),(),(),(),(),(),(),(),(),(),(),(),al,io,(),true,true],.agg #[i0,i1,i2,i3,i4,i5],.agg #[o0,o1,o2,o3,o4,o5]] w (Rt (.tuple #[.agg #[.func (.func 66) #[] #[],.func (.func 67) #[] #[],.func (.func 68) #[] #[]],true]) w)))
  (c2:Hid (∀ w,Calls Tryz.prog 67 #[.agg #[.int .u8 3,(),(),(),(),(),(),(),(),(),(),(),(),(),al,io,(),true,true],true,.agg #[i0,i1,i2,i3,i4,i5],.agg #[o0,o1,o2,o3,o4,o5]] w (Rt (.tuple #[.agg #[zl,zh],.int .i64 ez]) w))) :
  Calls Tryz.prog 9 #[.agg #[.int .u8 3,(),(),(),(),(),(),(),(),(),(),(),(),(),al,io,(),true,true],true,.agg #[i0,i1,i2,i3,i4,i5],.agg #[o0,o1,o2,o3,o4,o5]] w (Rt (.tuple #[.agg #[zl,zh],.int .i64 ez]) w):=by
 have M:=Lib.hid (((((Own.nil w).made #[.int .u8 3,(),(),(),(),(),(),(),(),(),(),(),(),(),al,io,(),true,true] 28).made #[i0,i1,i2,i3,i4,i5] 33).made #[o0,o1,o2,o3,o4,o5] 33).made #[(),()] 31)
 simp only [World.size_alloc] at M
 have eqF:=eq_floats
 go_enter Tryz.func9,Tryz.ntmps9
 go_upto_region 1 with fail
 go_step
 refine wpl_node (by kernel_rfl) rfl rfl (M.out.nth 3 rfl) ?_
 simp only [Act.put,go_sem]
 obtain⟨k1,k2,k3,k4,k5,k6⟩:=(M.out.nth 2 rfl).six
 obtain⟨k7,k8,k9,k10,k11,k12⟩:=(M.out.nth 1 rfl).six
 go_wp2_with fail
 refine (c1.out _).mono ?_
 rintro r w1_ ⟨rfl,hb⟩
 replace M:=Lib.hid (M.out.below hb)
 clear hb
 clear k1 k2 k3 k4 k5 k6 k7 k8 k9 k10 k11 k12
 replace M:=Lib.hid (M.out.made #[.func (.func 66) #[] #[],.func (.func 67) #[] #[],.func (.func 68) #[] #[]] 67)
 go_upto_region 6 with fail
 repeat ((fail_if_success refine wpl_node (by kernel_rfl) rfl rfl (M.out.nth 4 rfl) ?_); go_step)
 refine wpl_node (by kernel_rfl) rfl rfl (M.out.nth 4 rfl) ?_
 simp only [Act.put,go_sem]
 obtain⟨k1,k2,k3,k4,k5,k6⟩:=(M.out.nth 3 rfl).six
 obtain⟨k7,k8,k9,k10,k11,k12⟩:=(M.out.nth 2 rfl).six
 go_wp2_with fail
 refine (c2.out _).mono ?_
 rintro r w2_ ⟨rfl,hb⟩
 replace M:=Lib.hid (M.out.below hb)
 clear hb
 clear k1 k2 k3 k4 k5 k6 k7 k8 k9 k10 k11 k12
 have kc:=(M.out.nth 1 rfl).2.1
 have kf:=(M.out.nth 1 rfl).2.2
 replace M:=Lib.hid (M.out.set2 1 rfl (zl:Value) (zh:Value))
 dsimp only [List.set] at M
 go_wp2
 obtain⟨f1,f2⟩:=(M.out.nth 1 rfl).two
 exact bodyPost_ret (v:=.tuple #[.agg #[.float .f64 zl,.float .f64 zh],.int .i64 ez]) (by simp [results,Tryz.results9,go_sem,f1,f2]) rfl ⟨rfl,M.out.base⟩
theorem ValueP1_walk {al io i0 i1 i2 i3 i4 i5 o0 o1 o2 o3 o4 o5 zl zh:Nat} {ez:Int} (w:World)
  (c1:Hid (∀ w,Calls Tryz.prog 27 #[.agg #[.int .u8 3,(),(),(),(),(),(),(),(),(),(),(),(),(),al,io,(),true,true],.agg #[i0,i1,i2,i3,i4,i5],.agg #[o0,o1,o2,o3,o4,o5]] w (Rt (.tuple #[.agg #[.func (.func 66) #[] #[],.func (.func 67) #[] #[],.func (.func 68) #[] #[]],true]) w)))
  (c2:Hid (∀ w,Calls Tryz.prog 67 #[.agg #[.int .u8 3,(),(),(),(),(),(),(),(),(),(),(),(),(),al,io,(),true,true],.int .i64 1,.agg #[i0,i1,i2,i3,i4,i5],.agg #[o0,o1,o2,o3,o4,o5]] w (Rt (.tuple #[.agg #[zl,zh],.int .i64 ez]) w))) :
  Calls Tryz.prog 9 #[.agg #[.int .u8 3,(),(),(),(),(),(),(),(),(),(),(),(),(),al,io,(),true,true],.int .i64 1,.agg #[i0,i1,i2,i3,i4,i5],.agg #[o0,o1,o2,o3,o4,o5]] w (Rt (.tuple #[.agg #[zl,zh],.int .i64 ez]) w):=by
 have M:=Lib.hid (((((Own.nil w).made #[.int .u8 3,(),(),(),(),(),(),(),(),(),(),(),(),(),al,io,(),true,true] 28).made #[i0,i1,i2,i3,i4,i5] 33).made #[o0,o1,o2,o3,o4,o5] 33).made #[(),()] 31)
 simp only [World.size_alloc] at M
 have eqF:=eq_floats
 go_enter Tryz.func9,Tryz.ntmps9
 go_upto_region 1 with fail
 go_step
 refine wpl_node (by kernel_rfl) rfl rfl (M.out.nth 3 rfl) ?_
 simp only [Act.put,go_sem]
 obtain⟨k1,k2,k3,k4,k5,k6⟩:=(M.out.nth 2 rfl).six
 obtain⟨k7,k8,k9,k10,k11,k12⟩:=(M.out.nth 1 rfl).six
 go_wp2_with fail
 refine (c1.out _).mono ?_
 rintro r w1_ ⟨rfl,hb⟩
 replace M:=Lib.hid (M.out.below hb)
 clear hb
 clear k1 k2 k3 k4 k5 k6 k7 k8 k9 k10 k11 k12
 replace M:=Lib.hid (M.out.made #[.func (.func 66) #[] #[],.func (.func 67) #[] #[],.func (.func 68) #[] #[]] 67)
 go_upto_region 6 with fail
 repeat ((fail_if_success refine wpl_node (by kernel_rfl) rfl rfl (M.out.nth 4 rfl) ?_); go_step)
 refine wpl_node (by kernel_rfl) rfl rfl (M.out.nth 4 rfl) ?_
 simp only [Act.put,go_sem]
 obtain⟨k1,k2,k3,k4,k5,k6⟩:=(M.out.nth 3 rfl).six
 obtain⟨k7,k8,k9,k10,k11,k12⟩:=(M.out.nth 2 rfl).six
 go_wp2_with fail
 refine (c2.out _).mono ?_
 rintro r w2_ ⟨rfl,hb⟩
 replace M:=Lib.hid (M.out.below hb)
 clear hb
 clear k1 k2 k3 k4 k5 k6 k7 k8 k9 k10 k11 k12
 have kc:=(M.out.nth 1 rfl).2.1
 have kf:=(M.out.nth 1 rfl).2.2
 replace M:=Lib.hid (M.out.set2 1 rfl (zl:Value) (zh:Value))
 dsimp only [List.set] at M
 go_wp2
 obtain⟨f1,f2⟩:=(M.out.nth 1 rfl).two
 exact bodyPost_ret (v:=.tuple #[.agg #[.float .f64 zl,.float .f64 zh],.int .i64 ez]) (by simp [results,Tryz.results9,go_sem,f1,f2]) rfl ⟨rfl,M.out.base⟩
theorem ValueP2_walk {al io i0 i1 i2 i3 i4 i5 o0 o1 o2 o3 o4 o5 zl zh:Nat} {ez:Int} (w:World)
  (c1:Hid (∀ w,Calls Tryz.prog 27 #[.agg #[.int .u8 3,(),(),(),(),(),(),(),(),(),(),(),(),(),al,io,(),true,true],.agg #[i0,i1,i2,i3,i4,i5],.agg #[o0,o1,o2,o3,o4,o5]] w (Rt (.tuple #[.agg #[.func (.func 66) #[] #[],.func (.func 67) #[] #[],.func (.func 68) #[] #[]],true]) w)))
  (c2:Hid (∀ w,Calls Tryz.prog 67 #[.agg #[.int .u8 3,(),(),(),(),(),(),(),(),(),(),(),(),(),al,io,(),true,true],.int .i64 2,.agg #[i0,i1,i2,i3,i4,i5],.agg #[o0,o1,o2,o3,o4,o5]] w (Rt (.tuple #[.agg #[zl,zh],.int .i64 ez]) w))) :
  Calls Tryz.prog 9 #[.agg #[.int .u8 3,(),(),(),(),(),(),(),(),(),(),(),(),(),al,io,(),true,true],.int .i64 2,.agg #[i0,i1,i2,i3,i4,i5],.agg #[o0,o1,o2,o3,o4,o5]] w (Rt (.tuple #[.agg #[zl,zh],.int .i64 ez]) w):=by
 have M:=Lib.hid (((((Own.nil w).made #[.int .u8 3,(),(),(),(),(),(),(),(),(),(),(),(),(),al,io,(),true,true] 28).made #[i0,i1,i2,i3,i4,i5] 33).made #[o0,o1,o2,o3,o4,o5] 33).made #[(),()] 31)
 simp only [World.size_alloc] at M
 have eqF:=eq_floats
 go_enter Tryz.func9,Tryz.ntmps9
 go_upto_region 1 with fail
 go_step
 refine wpl_node (by kernel_rfl) rfl rfl (M.out.nth 3 rfl) ?_
 simp only [Act.put,go_sem]
 obtain⟨k1,k2,k3,k4,k5,k6⟩:=(M.out.nth 2 rfl).six
 obtain⟨k7,k8,k9,k10,k11,k12⟩:=(M.out.nth 1 rfl).six
 go_wp2_with fail
 refine (c1.out _).mono ?_
 rintro r w1_ ⟨rfl,hb⟩
 replace M:=Lib.hid (M.out.below hb)
 clear hb
 clear k1 k2 k3 k4 k5 k6 k7 k8 k9 k10 k11 k12
 replace M:=Lib.hid (M.out.made #[.func (.func 66) #[] #[],.func (.func 67) #[] #[],.func (.func 68) #[] #[]] 67)
 go_upto_region 6 with fail
 repeat ((fail_if_success refine wpl_node (by kernel_rfl) rfl rfl (M.out.nth 4 rfl) ?_); go_step)
 refine wpl_node (by kernel_rfl) rfl rfl (M.out.nth 4 rfl) ?_
 simp only [Act.put,go_sem]
 obtain⟨k1,k2,k3,k4,k5,k6⟩:=(M.out.nth 3 rfl).six
 obtain⟨k7,k8,k9,k10,k11,k12⟩:=(M.out.nth 2 rfl).six
 go_wp2_with fail
 refine (c2.out _).mono ?_
 rintro r w2_ ⟨rfl,hb⟩
 replace M:=Lib.hid (M.out.below hb)
 clear hb
 clear k1 k2 k3 k4 k5 k6 k7 k8 k9 k10 k11 k12
 have kc:=(M.out.nth 1 rfl).2.1
 have kf:=(M.out.nth 1 rfl).2.2
 replace M:=Lib.hid (M.out.set2 1 rfl (zl:Value) (zh:Value))
 dsimp only [List.set] at M
 go_wp2
 obtain⟨f1,f2⟩:=(M.out.nth 1 rfl).two
 exact bodyPost_ret (v:=.tuple #[.agg #[.float .f64 zl,.float .f64 zh],.int .i64 ez]) (by simp [results,Tryz.results9,go_sem,f1,f2]) rfl ⟨rfl,M.out.base⟩
theorem DensityP_walk {al io i0 i1 i2 i3 i4 i5 o0 o1 o2 o3 o4 o5 zl zh:Nat} {ez:Int} (w:World)
  (c1:Hid (∀ w,Calls Tryz.prog 27 #[.agg #[.int .u8 3,(),(),(),(),(),(),(),(),(),(),(),(),(),al,io,(),true,true],.agg #[i0,i1,i2,i3,i4,i5],.agg #[o0,o1,o2,o3,o4,o5]] w (Rt (.tuple #[.agg #[.func (.func 66) #[] #[],.func (.func 67) #[] #[],.func (.func 68) #[] #[]],true]) w)))
  (c2:Hid (∀ w,Calls Tryz.prog 68 #[.agg #[.int .u8 3,(),(),(),(),(),(),(),(),(),(),(),(),(),al,io,(),true,true],.agg #[i0,i1,i2,i3,i4,i5],.agg #[o0,o1,o2,o3,o4,o5]] w (Rt (.tuple #[.agg #[zl,zh],.int .i64 ez]) w))) :
  Calls Tryz.prog 10 #[.agg #[.int .u8 3,(),(),(),(),(),(),(),(),(),(),(),(),(),al,io,(),true,true],.agg #[i0,i1,i2,i3,i4,i5],.agg #[o0,o1,o2,o3,o4,o5]] w (Rt (.tuple #[.agg #[zl,zh],.int .i64 ez]) w):=by
 have M:=Lib.hid (((((Own.nil w).made #[.int .u8 3,(),(),(),(),(),(),(),(),(),(),(),(),(),al,io,(),true,true] 28).made #[i0,i1,i2,i3,i4,i5] 33).made #[o0,o1,o2,o3,o4,o5] 33).made #[(),()] 31)
 simp only [World.size_alloc] at M
 have eqF:=eq_floats
 go_enter Tryz.func10,Tryz.ntmps10
 go_upto_region 1 with fail
 go_step
 refine wpl_node (by kernel_rfl) rfl rfl (M.out.nth 3 rfl) ?_
 simp only [Act.put,go_sem]
 obtain⟨k1,k2,k3,k4,k5,k6⟩:=(M.out.nth 2 rfl).six
 obtain⟨k7,k8,k9,k10,k11,k12⟩:=(M.out.nth 1 rfl).six
 go_wp2_with fail
 refine (c1.out _).mono ?_
 rintro r w1_ ⟨rfl,hb⟩
 replace M:=Lib.hid (M.out.below hb)
 clear hb
 clear k1 k2 k3 k4 k5 k6 k7 k8 k9 k10 k11 k12
 replace M:=Lib.hid (M.out.made #[.func (.func 66) #[] #[],.func (.func 67) #[] #[],.func (.func 68) #[] #[]] 67)
 go_upto_region 4 with fail
 repeat ((fail_if_success refine wpl_node (by kernel_rfl) rfl rfl (M.out.nth 4 rfl) ?_); go_step)
 refine wpl_node (by kernel_rfl) rfl rfl (M.out.nth 4 rfl) ?_
 simp only [Act.put,go_sem]
 obtain⟨k1,k2,k3,k4,k5,k6⟩:=(M.out.nth 3 rfl).six
 obtain⟨k7,k8,k9,k10,k11,k12⟩:=(M.out.nth 2 rfl).six
 go_wp2_with fail
 refine (c2.out _).mono ?_
 rintro r w2_ ⟨rfl,hb⟩
 replace M:=Lib.hid (M.out.below hb)
 clear hb
 clear k1 k2 k3 k4 k5 k6 k7 k8 k9 k10 k11 k12
 have kc:=(M.out.nth 1 rfl).2.1
 have kf:=(M.out.nth 1 rfl).2.2
 replace M:=Lib.hid (M.out.set2 1 rfl (zl:Value) (zh:Value))
 dsimp only [List.set] at M
 go_wp2
 obtain⟨f1,f2⟩:=(M.out.nth 1 rfl).two
 exact bodyPost_ret (v:=.tuple #[.agg #[.float .f64 zl,.float .f64 zh],.int .i64 ez]) (by simp [results,Tryz.results10,go_sem,f1,f2]) rfl ⟨rfl,M.out.base⟩
theorem askedM_walk {al p0 p1 p2 q0 q1 q2 i0 i1 i2 i3 i4 i5 o0 o1 o2 o3 o4 o5:Nat} (w:World)
  (c1:Hid (∀ w,Calls Tryz.prog 51 #[.agg #[i0,i1,i2,i3,i4,i5]] w (Rt (.bool true) w)))
  (c2:Hid (∀ w,Calls Tryz.prog 51 #[.agg #[o0,o1,o2,o3,o4,o5]] w (Rt (.bool true) w)))
  (c3:Hid (∀ w,Calls Tryz.prog 26 #[.agg #[.int .u8 4,(),(),(),(),(),(),p0,p1,p2,q0,q1,q2,(),al,(),(),true,true]] w (Rt (.tuple #[.agg #[.func (.func 69) #[] #[],.func (.func 70) #[] #[],.func (.func 68) #[] #[]],.bool true]) w)))
  (c4:Hid (∀ w,Calls Tryz.prog 52 #[.agg #[i0,i1,i2,i3,i4,i5]] w (Rt (.bool true) w)))
  (c5:Hid (∀ w,Calls Tryz.prog 52 #[.agg #[o0,o1,o2,o3,o4,o5]] w (Rt (.bool true) w))) :
  Calls Tryz.prog 27 #[.agg #[.int .u8 4,(),(),(),(),(),(),p0,p1,p2,q0,q1,q2,(),al,(),(),true,true],.agg #[i0,i1,i2,i3,i4,i5],.agg #[o0,o1,o2,o3,o4,o5]] w (Rt (.tuple #[.agg #[.func (.func 69) #[] #[],.func (.func 70) #[] #[],.func (.func 68) #[] #[]],true]) w):=by
 have M:=Lib.hid (((((Own.nil w).made #[.int .u8 4,(),(),(),(),(),(),p0,p1,p2,q0,q1,q2,(),al,(),(),true,true] 28).made #[i0,i1,i2,i3,i4,i5] 33).made #[o0,o1,o2,o3,o4,o5] 33).made #[.nilFunc,.nilFunc,.nilFunc] 67)
 simp only [World.size_alloc] at M
 have eqF:=eq_floats
 go_enter Tryz.func27,Tryz.ntmps27
 obtain⟨k1,k2,k3,k4,k5,k6⟩:=(M.out.nth 2 rfl).six
 go_wp2_with fail
 refine (c1.out _).mono ?_
 rintro r w1_ ⟨rfl,hb⟩
 replace M:=Lib.hid (M.out.below hb)
 clear hb
 clear k1 k2 k3 k4 k5 k6
 obtain⟨k1,k2,k3,k4,k5,k6⟩:=(M.out.nth 1 rfl).six
 go_wp2_with fail
 refine (c2.out _).mono ?_
 rintro r w2_ ⟨rfl,hb⟩
 replace M:=Lib.hid (M.out.below hb)
 clear hb
 clear k1 k2 k3 k4 k5 k6
 go_upto_region 3 with fail
 go_step
 refine wpl_node (by kernel_rfl) rfl rfl (M.out.nth 3 rfl) ?_
 simp only [Act.put,go_sem]
 go_wp2_with fail
 refine (c3.out _).mono ?_
 rintro r w3_ ⟨rfl,hb⟩
 replace M:=Lib.hid (M.out.below hb)
 clear hb
 replace M:=Lib.hid (M.out.made #[.func (.func 69) #[] #[],.func (.func 70) #[] #[],.func (.func 68) #[] #[]] 67)
 obtain⟨k1,k2,k3,k4,k5,k6⟩:=(M.out.nth 3 rfl).six
 go_wp2_with fail
 refine (c4.out _).mono ?_
 rintro r w4_ ⟨rfl,hb⟩
 replace M:=Lib.hid (M.out.below hb)
 clear hb
 clear k1 k2 k3 k4 k5 k6
 obtain⟨k1,k2,k3,k4,k5,k6⟩:=(M.out.nth 2 rfl).six
 go_wp2_with fail
 refine (c5.out _).mono ?_
 rintro r w5_ ⟨rfl,hb⟩
 replace M:=Lib.hid (M.out.below hb)
 clear hb
 clear k1 k2 k3 k4 k5 k6
 obtain⟨k1,k2,k3⟩:=(M.out.nth 0 rfl).three
 have kc:=(M.out.nth 1 rfl).2.1
 have kf:=(M.out.nth 1 rfl).2.2
 replace M:Hid (Own w [(w3_.heap.size,#[.func (.func 69) #[] #[],.func (.func 70) #[] #[],.func (.func 68) #[] #[]]),((w.heap.size+1+1+1),#[.func (.func 69) #[] #[],.func (.func 70) #[] #[],.func (.func 68) #[] #[]]),((w.heap.size+1+1),#[o0,o1,o2,o3,o4,o5]),((w.heap.size+1),#[i0,i1,i2,i3,i4,i5]),(w.heap.size,#[.int .u8 4,(),(),(),(),(),(),p0,p1,p2,q0,q1,q2,(),al,(),(),true,true])] _):=Lib.hid ((((M.out.setIn 1 rfl 0 (.func (.func 69) #[] #[])).setIn 1 rfl 1 (.func (.func 70) #[] #[])).setIn 1 rfl 2 (.func (.func 68) #[] #[])).to (by rfl))
 go_wp2
 obtain⟨f1,f2,f3⟩:=(M.out.nth 1 rfl).three
 exact bodyPost_ret (v:=.tuple #[.agg #[.func (.func 69) #[] #[],.func (.func 70) #[] #[],.func (.func 68) #[] #[]],.int .i64 0]) (by simp [results,Tryz.results27,go_sem,f1,f2,f3]) rfl ⟨rfl,M.out.base⟩
theorem ValueM0_walk {al p0 p1 p2 q0 q1 q2 i0 i1 i2 i3 i4 i5 o0 o1 o2 o3 o4 o5 zl zh:Nat} {ez:Int} (w:World)
  (c1:Hid (∀ w,Calls Tryz.prog 27 #[.agg #[.int .u8 4,(),(),(),(),(),(),p0,p1,p2,q0,q1,q2,(),al,(),(),true,true],.agg #[i0,i1,i2,i3,i4,i5],.agg #[o0,o1,o2,o3,o4,o5]] w (Rt (.tuple #[.agg #[.func (.func 69) #[] #[],.func (.func 70) #[] #[],.func (.func 68) #[] #[]],true]) w)))
  (c2:Hid (∀ w,Calls Tryz.prog 70 #[.agg #[.int .u8 4,(),(),(),(),(),(),p0,p1,p2,q0,q1,q2,(),al,(),(),true,true],true,.agg #[i0,i1,i2,i3,i4,i5],.agg #[o0,o1,o2,o3,o4,o5]] w (Rt (.tuple #[.agg #[zl,zh],.int .i64 ez]) w))) :
  Calls Tryz.prog 9 #[.agg #[.int .u8 4,(),(),(),(),(),(),p0,p1,p2,q0,q1,q2,(),al,(),(),true,true],true,.agg #[i0,i1,i2,i3,i4,i5],.agg #[o0,o1,o2,o3,o4,o5]] w (Rt (.tuple #[.agg #[zl,zh],.int .i64 ez]) w):=by
 have M:=Lib.hid (((((Own.nil w).made #[.int .u8 4,(),(),(),(),(),(),p0,p1,p2,q0,q1,q2,(),al,(),(),true,true] 28).made #[i0,i1,i2,i3,i4,i5] 33).made #[o0,o1,o2,o3,o4,o5] 33).made #[(),()] 31)
 simp only [World.size_alloc] at M
 have eqF:=eq_floats
 go_enter Tryz.func9,Tryz.ntmps9
 go_upto_region 1 with fail
 go_step
 refine wpl_node (by kernel_rfl) rfl rfl (M.out.nth 3 rfl) ?_
 simp only [Act.put,go_sem]
 obtain⟨k1,k2,k3,k4,k5,k6⟩:=(M.out.nth 2 rfl).six
 obtain⟨k7,k8,k9,k10,k11,k12⟩:=(M.out.nth 1 rfl).six
 go_wp2_with fail
 refine (c1.out _).mono ?_
 rintro r w1_ ⟨rfl,hb⟩
 replace M:=Lib.hid (M.out.below hb)
 clear hb
 clear k1 k2 k3 k4 k5 k6 k7 k8 k9 k10 k11 k12
 replace M:=Lib.hid (M.out.made #[.func (.func 69) #[] #[],.func (.func 70) #[] #[],.func (.func 68) #[] #[]] 67)
 go_upto_region 6 with fail
 repeat ((fail_if_success refine wpl_node (by kernel_rfl) rfl rfl (M.out.nth 4 rfl) ?_); go_step)
 refine wpl_node (by kernel_rfl) rfl rfl (M.out.nth 4 rfl) ?_
 simp only [Act.put,go_sem]
 obtain⟨k1,k2,k3,k4,k5,k6⟩:=(M.out.nth 3 rfl).six
 obtain⟨k7,k8,k9,k10,k11,k12⟩:=(M.out.nth 2 rfl).six
 go_wp2_with fail
 refine (c2.out _).mono ?_
 rintro r w2_ ⟨rfl,hb⟩
 replace M:=Lib.hid (M.out.below hb)
 clear hb
 clear k1 k2 k3 k4 k5 k6 k7 k8 k9 k10 k11 k12
 have kc:=(M.out.nth 1 rfl).2.1
 have kf:=(M.out.nth 1 rfl).2.2
 replace M:=Lib.hid (M.out.set2 1 rfl (zl:Value) (zh:Value))
 dsimp only [List.set] at M
 go_wp2
 obtain⟨f1,f2⟩:=(M.out.nth 1 rfl).two
 exact bodyPost_ret (v:=.tuple #[.agg #[.float .f64 zl,.float .f64 zh],.int .i64 ez]) (by simp [results,Tryz.results9,go_sem,f1,f2]) rfl ⟨rfl,M.out.base⟩
theorem ValueM1_walk {al p0 p1 p2 q0 q1 q2 i0 i1 i2 i3 i4 i5 o0 o1 o2 o3 o4 o5 zl zh:Nat} {ez:Int} (w:World)
  (c1:Hid (∀ w,Calls Tryz.prog 27 #[.agg #[.int .u8 4,(),(),(),(),(),(),p0,p1,p2,q0,q1,q2,(),al,(),(),true,true],.agg #[i0,i1,i2,i3,i4,i5],.agg #[o0,o1,o2,o3,o4,o5]] w (Rt (.tuple #[.agg #[.func (.func 69) #[] #[],.func (.func 70) #[] #[],.func (.func 68) #[] #[]],true]) w)))
  (c2:Hid (∀ w,Calls Tryz.prog 70 #[.agg #[.int .u8 4,(),(),(),(),(),(),p0,p1,p2,q0,q1,q2,(),al,(),(),true,true],.int .i64 1,.agg #[i0,i1,i2,i3,i4,i5],.agg #[o0,o1,o2,o3,o4,o5]] w (Rt (.tuple #[.agg #[zl,zh],.int .i64 ez]) w))) :
  Calls Tryz.prog 9 #[.agg #[.int .u8 4,(),(),(),(),(),(),p0,p1,p2,q0,q1,q2,(),al,(),(),true,true],.int .i64 1,.agg #[i0,i1,i2,i3,i4,i5],.agg #[o0,o1,o2,o3,o4,o5]] w (Rt (.tuple #[.agg #[zl,zh],.int .i64 ez]) w):=by
 have M:=Lib.hid (((((Own.nil w).made #[.int .u8 4,(),(),(),(),(),(),p0,p1,p2,q0,q1,q2,(),al,(),(),true,true] 28).made #[i0,i1,i2,i3,i4,i5] 33).made #[o0,o1,o2,o3,o4,o5] 33).made #[(),()] 31)
 simp only [World.size_alloc] at M
 have eqF:=eq_floats
 go_enter Tryz.func9,Tryz.ntmps9
 go_upto_region 1 with fail
 go_step
 refine wpl_node (by kernel_rfl) rfl rfl (M.out.nth 3 rfl) ?_
 simp only [Act.put,go_sem]
 obtain⟨k1,k2,k3,k4,k5,k6⟩:=(M.out.nth 2 rfl).six
 obtain⟨k7,k8,k9,k10,k11,k12⟩:=(M.out.nth 1 rfl).six
 go_wp2_with fail
 refine (c1.out _).mono ?_
 rintro r w1_ ⟨rfl,hb⟩
 replace M:=Lib.hid (M.out.below hb)
 clear hb
 clear k1 k2 k3 k4 k5 k6 k7 k8 k9 k10 k11 k12
 replace M:=Lib.hid (M.out.made #[.func (.func 69) #[] #[],.func (.func 70) #[] #[],.func (.func 68) #[] #[]] 67)
 go_upto_region 6 with fail
 repeat ((fail_if_success refine wpl_node (by kernel_rfl) rfl rfl (M.out.nth 4 rfl) ?_); go_step)
 refine wpl_node (by kernel_rfl) rfl rfl (M.out.nth 4 rfl) ?_
 simp only [Act.put,go_sem]
 obtain⟨k1,k2,k3,k4,k5,k6⟩:=(M.out.nth 3 rfl).six
 obtain⟨k7,k8,k9,k10,k11,k12⟩:=(M.out.nth 2 rfl).six
 go_wp2_with fail
 refine (c2.out _).mono ?_
 rintro r w2_ ⟨rfl,hb⟩
 replace M:=Lib.hid (M.out.below hb)
 clear hb
 clear k1 k2 k3 k4 k5 k6 k7 k8 k9 k10 k11 k12
 have kc:=(M.out.nth 1 rfl).2.1
 have kf:=(M.out.nth 1 rfl).2.2
 replace M:=Lib.hid (M.out.set2 1 rfl (zl:Value) (zh:Value))
 dsimp only [List.set] at M
 go_wp2
 obtain⟨f1,f2⟩:=(M.out.nth 1 rfl).two
 exact bodyPost_ret (v:=.tuple #[.agg #[.float .f64 zl,.float .f64 zh],.int .i64 ez]) (by simp [results,Tryz.results9,go_sem,f1,f2]) rfl ⟨rfl,M.out.base⟩
theorem ValueM2_walk {al p0 p1 p2 q0 q1 q2 i0 i1 i2 i3 i4 i5 o0 o1 o2 o3 o4 o5 zl zh:Nat} {ez:Int} (w:World)
  (c1:Hid (∀ w,Calls Tryz.prog 27 #[.agg #[.int .u8 4,(),(),(),(),(),(),p0,p1,p2,q0,q1,q2,(),al,(),(),true,true],.agg #[i0,i1,i2,i3,i4,i5],.agg #[o0,o1,o2,o3,o4,o5]] w (Rt (.tuple #[.agg #[.func (.func 69) #[] #[],.func (.func 70) #[] #[],.func (.func 68) #[] #[]],true]) w)))
  (c2:Hid (∀ w,Calls Tryz.prog 70 #[.agg #[.int .u8 4,(),(),(),(),(),(),p0,p1,p2,q0,q1,q2,(),al,(),(),true,true],.int .i64 2,.agg #[i0,i1,i2,i3,i4,i5],.agg #[o0,o1,o2,o3,o4,o5]] w (Rt (.tuple #[.agg #[zl,zh],.int .i64 ez]) w))) :
  Calls Tryz.prog 9 #[.agg #[.int .u8 4,(),(),(),(),(),(),p0,p1,p2,q0,q1,q2,(),al,(),(),true,true],.int .i64 2,.agg #[i0,i1,i2,i3,i4,i5],.agg #[o0,o1,o2,o3,o4,o5]] w (Rt (.tuple #[.agg #[zl,zh],.int .i64 ez]) w):=by
 have M:=Lib.hid (((((Own.nil w).made #[.int .u8 4,(),(),(),(),(),(),p0,p1,p2,q0,q1,q2,(),al,(),(),true,true] 28).made #[i0,i1,i2,i3,i4,i5] 33).made #[o0,o1,o2,o3,o4,o5] 33).made #[(),()] 31)
 simp only [World.size_alloc] at M
 have eqF:=eq_floats
 go_enter Tryz.func9,Tryz.ntmps9
 go_upto_region 1 with fail
 go_step
 refine wpl_node (by kernel_rfl) rfl rfl (M.out.nth 3 rfl) ?_
 simp only [Act.put,go_sem]
 obtain⟨k1,k2,k3,k4,k5,k6⟩:=(M.out.nth 2 rfl).six
 obtain⟨k7,k8,k9,k10,k11,k12⟩:=(M.out.nth 1 rfl).six
 go_wp2_with fail
 refine (c1.out _).mono ?_
 rintro r w1_ ⟨rfl,hb⟩
 replace M:=Lib.hid (M.out.below hb)
 clear hb
 clear k1 k2 k3 k4 k5 k6 k7 k8 k9 k10 k11 k12
 replace M:=Lib.hid (M.out.made #[.func (.func 69) #[] #[],.func (.func 70) #[] #[],.func (.func 68) #[] #[]] 67)
 go_upto_region 6 with fail
 repeat ((fail_if_success refine wpl_node (by kernel_rfl) rfl rfl (M.out.nth 4 rfl) ?_); go_step)
 refine wpl_node (by kernel_rfl) rfl rfl (M.out.nth 4 rfl) ?_
 simp only [Act.put,go_sem]
 obtain⟨k1,k2,k3,k4,k5,k6⟩:=(M.out.nth 3 rfl).six
 obtain⟨k7,k8,k9,k10,k11,k12⟩:=(M.out.nth 2 rfl).six
 go_wp2_with fail
 refine (c2.out _).mono ?_
 rintro r w2_ ⟨rfl,hb⟩
 replace M:=Lib.hid (M.out.below hb)
 clear hb
 clear k1 k2 k3 k4 k5 k6 k7 k8 k9 k10 k11 k12
 have kc:=(M.out.nth 1 rfl).2.1
 have kf:=(M.out.nth 1 rfl).2.2
 replace M:=Lib.hid (M.out.set2 1 rfl (zl:Value) (zh:Value))
 dsimp only [List.set] at M
 go_wp2
 obtain⟨f1,f2⟩:=(M.out.nth 1 rfl).two
 exact bodyPost_ret (v:=.tuple #[.agg #[.float .f64 zl,.float .f64 zh],.int .i64 ez]) (by simp [results,Tryz.results9,go_sem,f1,f2]) rfl ⟨rfl,M.out.base⟩
theorem DensityM_walk {al p0 p1 p2 q0 q1 q2 i0 i1 i2 i3 i4 i5 o0 o1 o2 o3 o4 o5 zl zh:Nat} {ez:Int} (w:World)
  (c1:Hid (∀ w,Calls Tryz.prog 27 #[.agg #[.int .u8 4,(),(),(),(),(),(),p0,p1,p2,q0,q1,q2,(),al,(),(),true,true],.agg #[i0,i1,i2,i3,i4,i5],.agg #[o0,o1,o2,o3,o4,o5]] w (Rt (.tuple #[.agg #[.func (.func 69) #[] #[],.func (.func 70) #[] #[],.func (.func 68) #[] #[]],true]) w)))
  (c2:Hid (∀ w,Calls Tryz.prog 68 #[.agg #[.int .u8 4,(),(),(),(),(),(),p0,p1,p2,q0,q1,q2,(),al,(),(),true,true],.agg #[i0,i1,i2,i3,i4,i5],.agg #[o0,o1,o2,o3,o4,o5]] w (Rt (.tuple #[.agg #[zl,zh],.int .i64 ez]) w))) :
  Calls Tryz.prog 10 #[.agg #[.int .u8 4,(),(),(),(),(),(),p0,p1,p2,q0,q1,q2,(),al,(),(),true,true],.agg #[i0,i1,i2,i3,i4,i5],.agg #[o0,o1,o2,o3,o4,o5]] w (Rt (.tuple #[.agg #[zl,zh],.int .i64 ez]) w):=by
 have M:=Lib.hid (((((Own.nil w).made #[.int .u8 4,(),(),(),(),(),(),p0,p1,p2,q0,q1,q2,(),al,(),(),true,true] 28).made #[i0,i1,i2,i3,i4,i5] 33).made #[o0,o1,o2,o3,o4,o5] 33).made #[(),()] 31)
 simp only [World.size_alloc] at M
 have eqF:=eq_floats
 go_enter Tryz.func10,Tryz.ntmps10
 go_upto_region 1 with fail
 go_step
 refine wpl_node (by kernel_rfl) rfl rfl (M.out.nth 3 rfl) ?_
 simp only [Act.put,go_sem]
 obtain⟨k1,k2,k3,k4,k5,k6⟩:=(M.out.nth 2 rfl).six
 obtain⟨k7,k8,k9,k10,k11,k12⟩:=(M.out.nth 1 rfl).six
 go_wp2_with fail
 refine (c1.out _).mono ?_
 rintro r w1_ ⟨rfl,hb⟩
 replace M:=Lib.hid (M.out.below hb)
 clear hb
 clear k1 k2 k3 k4 k5 k6 k7 k8 k9 k10 k11 k12
 replace M:=Lib.hid (M.out.made #[.func (.func 69) #[] #[],.func (.func 70) #[] #[],.func (.func 68) #[] #[]] 67)
 go_upto_region 4 with fail
 repeat ((fail_if_success refine wpl_node (by kernel_rfl) rfl rfl (M.out.nth 4 rfl) ?_); go_step)
 refine wpl_node (by kernel_rfl) rfl rfl (M.out.nth 4 rfl) ?_
 simp only [Act.put,go_sem]
 obtain⟨k1,k2,k3,k4,k5,k6⟩:=(M.out.nth 3 rfl).six
 obtain⟨k7,k8,k9,k10,k11,k12⟩:=(M.out.nth 2 rfl).six
 go_wp2_with fail
 refine (c2.out _).mono ?_
 rintro r w2_ ⟨rfl,hb⟩
 replace M:=Lib.hid (M.out.below hb)
 clear hb
 clear k1 k2 k3 k4 k5 k6 k7 k8 k9 k10 k11 k12
 have kc:=(M.out.nth 1 rfl).2.1
 have kf:=(M.out.nth 1 rfl).2.2
 replace M:=Lib.hid (M.out.set2 1 rfl (zl:Value) (zh:Value))
 dsimp only [List.set] at M
 go_wp2
 obtain⟨f1,f2⟩:=(M.out.nth 1 rfl).two
 exact bodyPost_ret (v:=.tuple #[.agg #[.float .f64 zl,.float .f64 zh],.int .i64 ez]) (by simp [results,Tryz.results10,go_sem,f1,f2]) rfl ⟨rfl,M.out.base⟩
theorem RightN_walk (w:World)
  (c1:Hid (∀ w,Calls Tryz.prog 26 #[.agg #[.int .u8 0,(),(),(),(),(),(),(),(),(),(),(),(),(),(),(),(),true,true]] w (Rt (.tuple #[.agg #[.nilFunc,.nilFunc,.nilFunc],.bool false]) w))) :
  Calls Tryz.prog 8 #[.agg #[.int .u8 0,(),(),(),(),(),(),(),(),(),(),(),(),(),(),(),(),true,true]] w (Rt (.bool false) w):=by
 have M:=Lib.hid ((Own.nil w).made #[.int .u8 0,(),(),(),(),(),(),(),(),(),(),(),(),(),(),(),(),true,true] 28)
 have eqF:=eq_floats
 go_enter Tryz.func8,Tryz.ntmps8
 go_upto_region 1 with fail
 go_step
 refine wpl_node (by kernel_rfl) rfl rfl (M.out.nth 0 rfl) ?_
 simp only [Act.put,go_sem]
 go_wp2_with fail
 refine (c1.out _).mono ?_
 rintro r w1_ ⟨rfl,hb⟩
 replace M:=Lib.hid (M.out.below hb)
 clear hb
 replace M:=Lib.hid (M.out.made #[.nilFunc,.nilFunc,.nilFunc] 67)
 go_wp2
 go_ret
 exact ⟨rfl,M.out.base⟩
end
end Go.Proofs.YtmkgfflebfpcdaaGreat
