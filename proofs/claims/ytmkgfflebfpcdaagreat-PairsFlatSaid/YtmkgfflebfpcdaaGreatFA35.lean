/- What the claim stands on, part 36: PaL. -/
import Derived.Test.YtmkgfflebfpcdaaGreatPA17
import Derived.Test.YtmkgfflebfpcdaaGreatFA26
import Derived.Deep.RegionHeld3
set_option maxHeartbeats 16000000
set_option maxRecDepth 100000
namespace Go.Proofs.YtmkgfflebfpcdaaGreat
section
open Go.RowKit
attribute [local go_sem] run_store_float
theorem near11_walk {xl xh ls gs:Nat} (w:World)
  (o_geqxl_ls:(((FloatKind.f64.format.order xl ls == some Ordering.gt) || (FloatKind.f64.format.order xl ls == some Ordering.eq))=true))
  (o_leqxh_gs:(((FloatKind.f64.format.order xh gs == some Ordering.lt) || (FloatKind.f64.format.order xh gs == some Ordering.eq))=true))
  (o_leqxl_xh:(((FloatKind.f64.format.order xl xh == some Ordering.lt) || (FloatKind.f64.format.order xl xh == some Ordering.eq))=true)) :
  Calls Tryz.prog 29 #[.agg #[xl,xh],ls,gs] w fun r w'=>r = .returned (.bool true)∧Below w.heap.size w w':=by
 have M:=Lib.hid ((Own.nil w).made #[xl,xh] 31)
 have eqF:=eq_floats
 go_enter Tryz.func29,Tryz.ntmps29
 obtain⟨k1,k2⟩:=(M.out.nth 0 rfl).two
 go_wp2
 go_ret
 exact ⟨rfl,M.out.base⟩
theorem three1_walk {ls gs u0 u1 u2 u3 u4 u5 u6 u7 x y z:Nat} (w:World) (q:Nat) (hU:Hid (Has1 w (q,#[.int .u32 u0,.int .u32 u1,.int .u32 u2,.int .u32 u3,.int .u32 u4,.int .u32 u5,.int .u32 u6,.int .u32 u7])))
  (c1:Hid (∀ w,Calls Tryz.prog 23 #[ls,gs,.int .u32 u1] w (Rt (x:Value) w)))
  (c2:Hid (∀ w,Calls Tryz.prog 23 #[ls,gs,.int .u32 u2] w (Rt (y:Value) w)))
  (c3:Hid (∀ w,Calls Tryz.prog 23 #[ls,gs,.int .u32 u3] w (Rt (z:Value) w))) :
  Calls Tryz.prog 22 #[ls,gs,.int .i64 1,.pointer (some ⟨q,0,none⟩)] w (Rt (.agg #[x,y,z]) w):=by
 have M:=Lib.hid ((Own.nil w).made #[(),(),()] 26)
 have hw2:IntKind.i64.wrap 2=2:=by decide
 have hw3:IntKind.i64.wrap 3=3:=by decide
 have eqF:=eq_floats
 go_enter Tryz.func22,Tryz.ntmps22
 go_upto_region 1 with fail
 replace M:=Lib.hid M.out.drew
 revert M
 generalize (w.alloc (.cells #[(),(),()] 26))=W0_
 intro M
 obtain⟨kk1,kk2,kk3,kk4,kk5,kk6,kk7,kk8⟩:=(hU.out.below M.out.base).eight
 have kc0:=(M.out.nth 0 rfl).2.1
 have kf0:=(M.out.nth 0 rfl).2.2
 have zz_b1_U:=Nat.ne_of_gt (Nat.lt_of_lt_of_le hU.out.1 (M.out.lowest 0 rfl))
 dsimp only at zz_b1_U
 go_region_held3 (fun w'=>(w'.cell? ⟨q,0,none⟩=some (.int .u32 u0)∧w'.cell? ⟨q,1,none⟩=some (.int .u32 u1)∧w'.cell? ⟨q,2,none⟩=some (.int .u32 u2)∧w'.cell? ⟨q,3,none⟩=some (.int .u32 u3)∧w'.cell? ⟨q,4,none⟩=some (.int .u32 u4)∧w'.cell? ⟨q,5,none⟩=some (.int .u32 u5)∧w'.cell? ⟨q,6,none⟩=some (.int .u32 u6)∧w'.cell? ⟨q,7,none⟩=some (.int .u32 u7))) (((try dsimp only); (repeat' apply And.intro); all_goals (repeat (first | (with_reducible assumption) | ((with_reducible refine keep_undrew ?_); (with_reducible assumption)) | (with_reducible refine keep_drew ?_) | (with_reducible refine keep_alloc _ ?_) | (with_reducible refine keep_set _ (by first | (with_reducible assumption) | omega) ?_)))))
  (first
   | (go_at_call 23; (with_reducible refine (c1.out _).mono ?_); rintro rr w5 ⟨rfl,hb⟩; replace M:=Lib.hid (M.out.below hb); clear hb; clear kk1 kk2 kk3 kk4 kk5 kk6 kk7 kk8 kc0 kf0; obtain⟨kk1,kk2,kk3,kk4,kk5,kk6,kk7,kk8⟩:=(hU.out.below M.out.base).eight; have kc0:=(M.out.nth 0 rfl).2.1; have kf0:=(M.out.nth 0 rfl).2.2)
   | (go_at_call 23; (with_reducible refine (c2.out _).mono ?_); rintro rr w5 ⟨rfl,hb⟩; replace M:=Lib.hid (M.out.below hb); clear hb; clear kk1 kk2 kk3 kk4 kk5 kk6 kk7 kk8 kc0 kf0; obtain⟨kk1,kk2,kk3,kk4,kk5,kk6,kk7,kk8⟩:=(hU.out.below M.out.base).eight; have kc0:=(M.out.nth 0 rfl).2.1; have kf0:=(M.out.nth 0 rfl).2.2)
   | (go_at_call 23; (with_reducible refine (c3.out _).mono ?_); rintro rr w5 ⟨rfl,hb⟩; replace M:=Lib.hid (M.out.below hb); clear hb; clear kk1 kk2 kk3 kk4 kk5 kk6 kk7 kk8 kc0 kf0; obtain⟨kk1,kk2,kk3,kk4,kk5,kk6,kk7,kk8⟩:=(hU.out.below M.out.base).eight; have kc0:=(M.out.nth 0 rfl).2.1; have kf0:=(M.out.nth 0 rfl).2.2))
 clear kk1 kk2 kk3 kk4 kk5 kk6 kk7 kk8 kc0 kf0
 replace M:Hid (Own w [(w.heap.size,#[x,y,z])] _):=Lib.hid (M.out.set3 0 rfl (x:Value) (y:Value) (z:Value))
 go_wp2
 obtain⟨f1,f2,f3⟩:=(M.out.nth 0 rfl).three
 exact bodyPost_ret (v:=.agg #[.float .f64 x,.float .f64 y,.float .f64 z]) (by simp [results,Tryz.results22,go_sem,f1,f2,f3]) rfl ⟨rfl,M.out.base⟩
theorem three2_walk {ls gs u0 u1 u2 u3 u4 u5 u6 u7 x y z:Nat} (w:World) (q:Nat) (hU:Hid (Has1 w (q,#[.int .u32 u0,.int .u32 u1,.int .u32 u2,.int .u32 u3,.int .u32 u4,.int .u32 u5,.int .u32 u6,.int .u32 u7])))
  (c1:Hid (∀ w,Calls Tryz.prog 23 #[ls,gs,.int .u32 u2] w (Rt (x:Value) w)))
  (c2:Hid (∀ w,Calls Tryz.prog 23 #[ls,gs,.int .u32 u3] w (Rt (y:Value) w)))
  (c3:Hid (∀ w,Calls Tryz.prog 23 #[ls,gs,.int .u32 u4] w (Rt (z:Value) w))) :
  Calls Tryz.prog 22 #[ls,gs,.int .i64 2,.pointer (some ⟨q,0,none⟩)] w (Rt (.agg #[x,y,z]) w):=by
 have M:=Lib.hid ((Own.nil w).made #[(),(),()] 26)
 have hw3:IntKind.i64.wrap 3=3:=by decide
 have hw4:IntKind.i64.wrap 4=4:=by decide
 have eqF:=eq_floats
 go_enter Tryz.func22,Tryz.ntmps22
 go_upto_region 1 with fail
 replace M:=Lib.hid M.out.drew
 revert M
 generalize (w.alloc (.cells #[(),(),()] 26))=W0_
 intro M
 obtain⟨kk1,kk2,kk3,kk4,kk5,kk6,kk7,kk8⟩:=(hU.out.below M.out.base).eight
 have kc0:=(M.out.nth 0 rfl).2.1
 have kf0:=(M.out.nth 0 rfl).2.2
 have zz_b1_U:=Nat.ne_of_gt (Nat.lt_of_lt_of_le hU.out.1 (M.out.lowest 0 rfl))
 dsimp only at zz_b1_U
 go_region_held3 (fun w'=>(w'.cell? ⟨q,0,none⟩=some (.int .u32 u0)∧w'.cell? ⟨q,1,none⟩=some (.int .u32 u1)∧w'.cell? ⟨q,2,none⟩=some (.int .u32 u2)∧w'.cell? ⟨q,3,none⟩=some (.int .u32 u3)∧w'.cell? ⟨q,4,none⟩=some (.int .u32 u4)∧w'.cell? ⟨q,5,none⟩=some (.int .u32 u5)∧w'.cell? ⟨q,6,none⟩=some (.int .u32 u6)∧w'.cell? ⟨q,7,none⟩=some (.int .u32 u7))) (((try dsimp only); (repeat' apply And.intro); all_goals (repeat (first | (with_reducible assumption) | ((with_reducible refine keep_undrew ?_); (with_reducible assumption)) | (with_reducible refine keep_drew ?_) | (with_reducible refine keep_alloc _ ?_) | (with_reducible refine keep_set _ (by first | (with_reducible assumption) | omega) ?_)))))
  (first
   | (go_at_call 23; (with_reducible refine (c1.out _).mono ?_); rintro rr w5 ⟨rfl,hb⟩; replace M:=Lib.hid (M.out.below hb); clear hb; clear kk1 kk2 kk3 kk4 kk5 kk6 kk7 kk8 kc0 kf0; obtain⟨kk1,kk2,kk3,kk4,kk5,kk6,kk7,kk8⟩:=(hU.out.below M.out.base).eight; have kc0:=(M.out.nth 0 rfl).2.1; have kf0:=(M.out.nth 0 rfl).2.2)
   | (go_at_call 23; (with_reducible refine (c2.out _).mono ?_); rintro rr w5 ⟨rfl,hb⟩; replace M:=Lib.hid (M.out.below hb); clear hb; clear kk1 kk2 kk3 kk4 kk5 kk6 kk7 kk8 kc0 kf0; obtain⟨kk1,kk2,kk3,kk4,kk5,kk6,kk7,kk8⟩:=(hU.out.below M.out.base).eight; have kc0:=(M.out.nth 0 rfl).2.1; have kf0:=(M.out.nth 0 rfl).2.2)
   | (go_at_call 23; (with_reducible refine (c3.out _).mono ?_); rintro rr w5 ⟨rfl,hb⟩; replace M:=Lib.hid (M.out.below hb); clear hb; clear kk1 kk2 kk3 kk4 kk5 kk6 kk7 kk8 kc0 kf0; obtain⟨kk1,kk2,kk3,kk4,kk5,kk6,kk7,kk8⟩:=(hU.out.below M.out.base).eight; have kc0:=(M.out.nth 0 rfl).2.1; have kf0:=(M.out.nth 0 rfl).2.2))
 clear kk1 kk2 kk3 kk4 kk5 kk6 kk7 kk8 kc0 kf0
 replace M:Hid (Own w [(w.heap.size,#[x,y,z])] _):=Lib.hid (M.out.set3 0 rfl (x:Value) (y:Value) (z:Value))
 go_wp2
 obtain⟨f1,f2,f3⟩:=(M.out.nth 0 rfl).three
 exact bodyPost_ret (v:=.agg #[.float .f64 x,.float .f64 y,.float .f64 z]) (by simp [results,Tryz.results22,go_sem,f1,f2,f3]) rfl ⟨rfl,M.out.base⟩
theorem three5_walk {ls gs u0 u1 u2 u3 u4 u5 u6 u7 x y z:Nat} (w:World) (q:Nat) (hU:Hid (Has1 w (q,#[.int .u32 u0,.int .u32 u1,.int .u32 u2,.int .u32 u3,.int .u32 u4,.int .u32 u5,.int .u32 u6,.int .u32 u7])))
  (c1:Hid (∀ w,Calls Tryz.prog 23 #[ls,gs,.int .u32 u5] w (Rt (x:Value) w)))
  (c2:Hid (∀ w,Calls Tryz.prog 23 #[ls,gs,.int .u32 u6] w (Rt (y:Value) w)))
  (c3:Hid (∀ w,Calls Tryz.prog 23 #[ls,gs,.int .u32 u7] w (Rt (z:Value) w))) :
  Calls Tryz.prog 22 #[ls,gs,.int .i64 5,.pointer (some ⟨q,0,none⟩)] w (Rt (.agg #[x,y,z]) w):=by
 have M:=Lib.hid ((Own.nil w).made #[(),(),()] 26)
 have hw6:IntKind.i64.wrap 6=6:=by decide
 have hw7:IntKind.i64.wrap 7=7:=by decide
 have eqF:=eq_floats
 go_enter Tryz.func22,Tryz.ntmps22
 go_upto_region 1 with fail
 replace M:=Lib.hid M.out.drew
 revert M
 generalize (w.alloc (.cells #[(),(),()] 26))=W0_
 intro M
 obtain⟨kk1,kk2,kk3,kk4,kk5,kk6,kk7,kk8⟩:=(hU.out.below M.out.base).eight
 have kc0:=(M.out.nth 0 rfl).2.1
 have kf0:=(M.out.nth 0 rfl).2.2
 have zz_b1_U:=Nat.ne_of_gt (Nat.lt_of_lt_of_le hU.out.1 (M.out.lowest 0 rfl))
 dsimp only at zz_b1_U
 go_region_held3 (fun w'=>(w'.cell? ⟨q,0,none⟩=some (.int .u32 u0)∧w'.cell? ⟨q,1,none⟩=some (.int .u32 u1)∧w'.cell? ⟨q,2,none⟩=some (.int .u32 u2)∧w'.cell? ⟨q,3,none⟩=some (.int .u32 u3)∧w'.cell? ⟨q,4,none⟩=some (.int .u32 u4)∧w'.cell? ⟨q,5,none⟩=some (.int .u32 u5)∧w'.cell? ⟨q,6,none⟩=some (.int .u32 u6)∧w'.cell? ⟨q,7,none⟩=some (.int .u32 u7))) (((try dsimp only); (repeat' apply And.intro); all_goals (repeat (first | (with_reducible assumption) | ((with_reducible refine keep_undrew ?_); (with_reducible assumption)) | (with_reducible refine keep_drew ?_) | (with_reducible refine keep_alloc _ ?_) | (with_reducible refine keep_set _ (by first | (with_reducible assumption) | omega) ?_)))))
  (first
   | (go_at_call 23; (with_reducible refine (c1.out _).mono ?_); rintro rr w5 ⟨rfl,hb⟩; replace M:=Lib.hid (M.out.below hb); clear hb; clear kk1 kk2 kk3 kk4 kk5 kk6 kk7 kk8 kc0 kf0; obtain⟨kk1,kk2,kk3,kk4,kk5,kk6,kk7,kk8⟩:=(hU.out.below M.out.base).eight; have kc0:=(M.out.nth 0 rfl).2.1; have kf0:=(M.out.nth 0 rfl).2.2)
   | (go_at_call 23; (with_reducible refine (c2.out _).mono ?_); rintro rr w5 ⟨rfl,hb⟩; replace M:=Lib.hid (M.out.below hb); clear hb; clear kk1 kk2 kk3 kk4 kk5 kk6 kk7 kk8 kc0 kf0; obtain⟨kk1,kk2,kk3,kk4,kk5,kk6,kk7,kk8⟩:=(hU.out.below M.out.base).eight; have kc0:=(M.out.nth 0 rfl).2.1; have kf0:=(M.out.nth 0 rfl).2.2)
   | (go_at_call 23; (with_reducible refine (c3.out _).mono ?_); rintro rr w5 ⟨rfl,hb⟩; replace M:=Lib.hid (M.out.below hb); clear hb; clear kk1 kk2 kk3 kk4 kk5 kk6 kk7 kk8 kc0 kf0; obtain⟨kk1,kk2,kk3,kk4,kk5,kk6,kk7,kk8⟩:=(hU.out.below M.out.base).eight; have kc0:=(M.out.nth 0 rfl).2.1; have kf0:=(M.out.nth 0 rfl).2.2))
 clear kk1 kk2 kk3 kk4 kk5 kk6 kk7 kk8 kc0 kf0
 replace M:Hid (Own w [(w.heap.size,#[x,y,z])] _):=Lib.hid (M.out.set3 0 rfl (x:Value) (y:Value) (z:Value))
 go_wp2
 obtain⟨f1,f2,f3⟩:=(M.out.nth 0 rfl).three
 exact bodyPost_ret (v:=.agg #[.float .f64 x,.float .f64 y,.float .f64 z]) (by simp [results,Tryz.results22,go_sem,f1,f2,f3]) rfl ⟨rfl,M.out.base⟩
theorem leafL_walk {u0 u1 u2 u3 u4 u5 u6 u7 r0 r1 r2:Nat} (w:World)
  (q_rem:((u0:Int).tmod 4=0))
  (c1:Hid (∀ (q:Nat) (w:World),Has1 w (q,#[.int .u32 u0,.int .u32 u1,.int .u32 u2,.int .u32 u3,.int .u32 u4,.int .u32 u5,.int .u32 u6,.int .u32 u7])→Calls Tryz.prog 22 #[(),(4607182418800017408:Nat),.int .i64 1,.pointer (some ⟨q,0,none⟩)] w (Rt (.agg #[r0,r1,r2]) w))) :
  Calls Tryz.prog 6 #[.agg #[.int .u32 u0,.int .u32 u1,.int .u32 u2,.int .u32 u3,.int .u32 u4,.int .u32 u5,.int .u32 u6,.int .u32 u7]] w (Rt (.agg #[.int .u8 1,r0,r1,r2,(),(),(),(),(),(),(),(),(),(),(),(),(),true,true]) w):=by
 have M:=Lib.hid (((Own.nil w).made #[.int .u32 u0,.int .u32 u1,.int .u32 u2,.int .u32 u3,.int .u32 u4,.int .u32 u5,.int .u32 u6,.int .u32 u7] 23).made #[.int .u8 0,(),(),(),(),(),(),(),(),(),(),(),(),(),(),(),(),true,true] 28)
 simp only [World.size_alloc] at M
 have eqF:=eq_floats
 go_enter Tryz.func6,Tryz.ntmps6
 obtain⟨k1,k2,k3,k4,k5,k6,k7,k8⟩:=(M.out.nth 1 rfl).eight
 go_wp2_with fail
 refine (c1.out _ _ (M.out.nth 1 rfl)).mono ?_
 rintro r w1_ ⟨rfl,hb⟩
 replace M:=Lib.hid (M.out.below hb)
 clear hb
 clear k1 k2 k3 k4 k5 k6 k7 k8
 try go_simp
 repeat ((fail_if_success refine wpl_stnode (by kernel_rfl) rfl rfl rfl (by kernel_rfl) (M.out.nth 0 rfl) ?_); go_step)
 refine wpl_stnode (by kernel_rfl) rfl rfl rfl (by kernel_rfl) (M.out.nth 0 rfl) ?_
 simp only [Act.put,go_sem]
 replace M:=Lib.hid (M.out.setAll 0 rfl [.int .u8 1,.float .f64 r0,.float .f64 r1,.float .f64 r2,.float .f64 0,.float .f64 0,.float .f64 0,.float .f64 0,.float .f64 0,.float .f64 0,.float .f64 0,.float .f64 0,.float .f64 0,.float .f64 0,.float .f64 0,.float .f64 0,.float .f64 0,.int .i64 0,.int .i64 0] rfl)
 revert M
 generalize World.setCells w1_ (w.heap.size+1) 0 [.int .u8 1,.float .f64 r0,.float .f64 r1,.float .f64 r2,.float .f64 0,.float .f64 0,.float .f64 0,.float .f64 0,.float .f64 0,.float .f64 0,.float .f64 0,.float .f64 0,.float .f64 0,.float .f64 0,.float .f64 0,.float .f64 0,.float .f64 0,.int .i64 0,.int .i64 0]=W2_
 intro M
 replace M:Hid (Own w [((w.heap.size+1),#[.int .u8 1,r0,r1,r2,(),(),(),(),(),(),(),(),(),(),(),(),(),true,true]),(w.heap.size,#[.int .u32 u0,.int .u32 u1,.int .u32 u2,.int .u32 u3,.int .u32 u4,.int .u32 u5,.int .u32 u6,.int .u32 u7])] W2_):=M
 go_wp2
 exact bodyPost_ret (v:=.agg #[.int .u8 1,.float .f64 r0,.float .f64 r1,.float .f64 r2,.float .f64 0,.float .f64 0,.float .f64 0,.float .f64 0,.float .f64 0,.float .f64 0,.float .f64 0,.float .f64 0,.float .f64 0,.float .f64 0,.float .f64 0,.float .f64 0,.float .f64 0,.int .i64 0,.int .i64 0]) (results_node Tryz.results6 rfl (M.out.nth 0 rfl)) rfl ⟨rfl,M.out.base⟩
theorem leafO_walk {u0 u1 u2 u3 u4 u5 u6 u7 r0 r1 r2 sg:Nat} (w:World)
  (q_rem:((u0:Int).tmod 4=1))
  (c1:Hid (∀ (q:Nat) (w:World),Has1 w (q,#[.int .u32 u0,.int .u32 u1,.int .u32 u2,.int .u32 u3,.int .u32 u4,.int .u32 u5,.int .u32 u6,.int .u32 u7])→Calls Tryz.prog 22 #[(),(4607182418800017408:Nat),.int .i64 1,.pointer (some ⟨q,0,none⟩)] w (Rt (.agg #[r0,r1,r2]) w)))
  (c2:Hid (∀ w,Calls Tryz.prog 23 #[(),(4607182418800017408:Nat),.int .u32 u4] w fun r w'=>r = .returned (sg:Value)∧w=w')) :
  Calls Tryz.prog 6 #[.agg #[.int .u32 u0,.int .u32 u1,.int .u32 u2,.int .u32 u3,.int .u32 u4,.int .u32 u5,.int .u32 u6,.int .u32 u7]] w (Rt (.agg #[.int .u8 2,r0,r1,r2,(),(),(),(),(),(),(),(),(),sg,(),(),(),true,true]) w):=by
 have M:=Lib.hid (((Own.nil w).made #[.int .u32 u0,.int .u32 u1,.int .u32 u2,.int .u32 u3,.int .u32 u4,.int .u32 u5,.int .u32 u6,.int .u32 u7] 23).made #[.int .u8 0,(),(),(),(),(),(),(),(),(),(),(),(),(),(),(),(),true,true] 28)
 simp only [World.size_alloc] at M
 have eqF:=eq_floats
 go_enter Tryz.func6,Tryz.ntmps6
 obtain⟨k1,k2,k3,k4,k5,k6,k7,k8⟩:=(M.out.nth 1 rfl).eight
 go_upto_region 6 with fail
 clear k1 k2 k3 k4 k5 k6 k7 k8
 replace M:=Lib.hid M.out.drew
 revert M
 generalize ((w.alloc (.cells #[.int .u32 u0,.int .u32 u1,.int .u32 u2,.int .u32 u3,.int .u32 u4,.int .u32 u5,.int .u32 u6,.int .u32 u7] 23)).alloc (.cells #[.int .u8 0,(),(),(),(),(),(),(),(),(),(),(),(),(),(),(),(),true,true] 28))=W0_
 intro M
 refine wp_region_noPanic ?_
 refine tails_region (S:=fun w'=>(w'.cell? ⟨w.heap.size,0,none⟩=some (.int .u32 u0)∧w'.cell? ⟨w.heap.size,1,none⟩=some (.int .u32 u1)∧w'.cell? ⟨w.heap.size,2,none⟩=some (.int .u32 u2)∧w'.cell? ⟨w.heap.size,3,none⟩=some (.int .u32 u3)∧w'.cell? ⟨w.heap.size,4,none⟩=some (.int .u32 u4)∧w'.cell? ⟨w.heap.size,5,none⟩=some (.int .u32 u5)∧w'.cell? ⟨w.heap.size,6,none⟩=some (.int .u32 u6)∧w'.cell? ⟨w.heap.size,7,none⟩=some (.int .u32 u7))) [] (by kernel_rfl) ?_ (fun hS=>?_)
 ·exact (M.out.nth 1 rfl).eight
 refine tq 0 hS ?_
 refine tq 2 hS ?_
 refine tq 3 hS ?_
 conv=>arg 9; simp only [Act.put,go_sem]
 refine tails_one (T:=[]) (i:=1) (o:=_) rfl (by kernel_rfl) (fun K hK=>?_)
 go_simp
 refine (c1.out _ _ (M.out.nth 1 rfl)).mono ?_
 rintro rr w1_ ⟨rfl,hb⟩
 replace M:=Lib.hid (M.out.below hb)
 clear hb
 try go_wp2_with fail
 refine hK.out _ _ (Or.inr (M.out.nth 1 rfl).eight) (fun hHeld=>?_)
 clear hK K hHeld
 replace hS:=(M.out.nth 1 rfl).eight
 refine tails_one (T:=[]) (i:=4) (o:=_) rfl (by kernel_rfl) (fun K hK=>?_)
 go_simp
 refine (c2.out _).mono ?_
 rintro rr w2_ ⟨rfl,rfl⟩
 try go_wp2_with fail
 refine hK.out _ _ (Or.inr (M.out.nth 1 rfl).eight) (fun hHeld=>?_)
 clear hK K hHeld
 replace hS:=(M.out.nth 1 rfl).eight
 refine tq 5 hS ?_
 conv=>arg 9; simp only [Act.put,go_sem]
 refine tails_one (T:=[]) (i:=6) (o:=_) rfl (by kernel_rfl) (fun K hK=>?_)
 rw [if_pos (by kernel_rfl)]
 refine wp_stnode rfl rfl rfl (by kernel_rfl) (M.out.nth 0 rfl) ?_
 go_simp
 replace M:Hid (Own w [((w.heap.size+1),#[.int .u8 2,r0,r1,r2,(),(),(),(),(),(),(),(),(),sg,(),(),(),true,true]),(w.heap.size,#[.int .u32 u0,.int .u32 u1,.int .u32 u2,.int .u32 u3,.int .u32 u4,.int .u32 u5,.int .u32 u6,.int .u32 u7])] _):=Lib.hid (M.out.setAll 0 rfl [.int .u8 2,.float .f64 r0,.float .f64 r1,.float .f64 r2,.float .f64 0,.float .f64 0,.float .f64 0,.float .f64 0,.float .f64 0,.float .f64 0,.float .f64 0,.float .f64 0,.float .f64 0,.float .f64 sg,.float .f64 0,.float .f64 0,.float .f64 0,.int .i64 0,.int .i64 0] rfl)
 refine hK.out _ _ (Or.inr (M.out.nth 1 rfl).eight) (fun hHeld=>?_)
 clear hK K hHeld
 refine tails_done (by kernel_rfl) ?_ _
 refine NoPanic.normal ?_
 clear hS
 revert M
 generalize (World.setCells w1_ (w.heap.size+1) 0 [.int .u8 2,.float .f64 r0,.float .f64 r1,.float .f64 r2,.float .f64 0,.float .f64 0,.float .f64 0,.float .f64 0,.float .f64 0,.float .f64 0,.float .f64 0,.float .f64 0,.float .f64 0,.float .f64 sg,.float .f64 0,.float .f64 0,.float .f64 0,.int .i64 0,.int .i64 0])=W3_
 intro M
 go_wp2
 exact bodyPost_ret (v:=.agg #[.int .u8 2,.float .f64 r0,.float .f64 r1,.float .f64 r2,.float .f64 0,.float .f64 0,.float .f64 0,.float .f64 0,.float .f64 0,.float .f64 0,.float .f64 0,.float .f64 0,.float .f64 0,.float .f64 sg,.float .f64 0,.float .f64 0,.float .f64 0,.int .i64 0,.int .i64 0]) (results_node Tryz.results6 rfl (M.out.nth 0 rfl)) rfl ⟨rfl,M.out.base⟩
theorem leafP_walk {u0 u1 u2 u3 u4 u5 u6 u7 al io:Nat} (w:World)
  (q_rem:((u0:Int).tmod 4=2))
  (c1:Hid (∀ w,Calls Tryz.prog 23 #[(4584664420663164928:Nat),(4607182418800017408:Nat),.int .u32 u1] w fun r w'=>r = .returned (al:Value)∧w=w'))
  (c2:Hid (∀ w,Calls Tryz.prog 23 #[(4607463893776728064:Nat),(4616189618054758400:Nat),.int .u32 u2] w fun r w'=>r = .returned (io:Value)∧w=w')) :
  Calls Tryz.prog 6 #[.agg #[.int .u32 u0,.int .u32 u1,.int .u32 u2,.int .u32 u3,.int .u32 u4,.int .u32 u5,.int .u32 u6,.int .u32 u7]] w (Rt (.agg #[.int .u8 3,(),(),(),(),(),(),(),(),(),(),(),(),(),al,io,(),true,true]) w):=by
 have M:=Lib.hid (((Own.nil w).made #[.int .u32 u0,.int .u32 u1,.int .u32 u2,.int .u32 u3,.int .u32 u4,.int .u32 u5,.int .u32 u6,.int .u32 u7] 23).made #[.int .u8 0,(),(),(),(),(),(),(),(),(),(),(),(),(),(),(),(),true,true] 28)
 simp only [World.size_alloc] at M
 have eqF:=eq_floats
 go_enter Tryz.func6,Tryz.ntmps6
 obtain⟨k1,k2,k3,k4,k5,k6,k7,k8⟩:=(M.out.nth 1 rfl).eight
 go_upto_region 8 with fail
 clear k1 k2 k3 k4 k5 k6 k7 k8
 replace M:=Lib.hid M.out.drew
 revert M
 generalize ((w.alloc (.cells #[.int .u32 u0,.int .u32 u1,.int .u32 u2,.int .u32 u3,.int .u32 u4,.int .u32 u5,.int .u32 u6,.int .u32 u7] 23)).alloc (.cells #[.int .u8 0,(),(),(),(),(),(),(),(),(),(),(),(),(),(),(),(),true,true] 28))=W0_
 intro M
 refine wp_region_noPanic ?_
 refine tails_region (S:=fun w'=>(w'.cell? ⟨w.heap.size,0,none⟩=some (.int .u32 u0)∧w'.cell? ⟨w.heap.size,1,none⟩=some (.int .u32 u1)∧w'.cell? ⟨w.heap.size,2,none⟩=some (.int .u32 u2)∧w'.cell? ⟨w.heap.size,3,none⟩=some (.int .u32 u3)∧w'.cell? ⟨w.heap.size,4,none⟩=some (.int .u32 u4)∧w'.cell? ⟨w.heap.size,5,none⟩=some (.int .u32 u5)∧w'.cell? ⟨w.heap.size,6,none⟩=some (.int .u32 u6)∧w'.cell? ⟨w.heap.size,7,none⟩=some (.int .u32 u7))) [] (by kernel_rfl) ?_ (fun hS=>?_)
 ·exact (M.out.nth 1 rfl).eight
 revert hS M
 generalize W0_.drew=V_
 intro M hS
 refine tq 0 hS ?_
 refine tq 1 hS ?_
 refine tq 3 hS ?_
 refine tq 4 hS ?_
 conv=>arg 9; simp only [Act.put,go_sem]
 refine tails_one (T:=[]) (i:=2) (o:=_) rfl (by kernel_rfl) (fun K hK=>?_)
 go_simp
 refine (c1.out _).mono ?_
 rintro rr w1_ ⟨rfl,rfl⟩
 try go_wp2_with fail
 refine hK.out _ _ (Or.inr (M.out.nth 1 rfl).eight) (fun hHeld=>?_)
 clear hK K hHeld
 replace hS:=(M.out.nth 1 rfl).eight
 refine tails_one (T:=[]) (i:=5) (o:=_) rfl (by kernel_rfl) (fun K hK=>?_)
 go_simp
 refine (c2.out _).mono ?_
 rintro rr w2_ ⟨rfl,rfl⟩
 try go_wp2_with fail
 refine hK.out _ _ (Or.inr (M.out.nth 1 rfl).eight) (fun hHeld=>?_)
 clear hK K hHeld
 replace hS:=(M.out.nth 1 rfl).eight
 refine tq 6 hS ?_
 conv=>arg 9; simp only [Act.put,go_sem]
 refine tails_one (T:=[]) (i:=7) (o:=_) rfl (by kernel_rfl) (fun K hK=>?_)
 rw [if_pos (by kernel_rfl)]
 refine wp_stnode rfl rfl rfl (by kernel_rfl) (M.out.nth 0 rfl) ?_
 go_simp
 replace M:Hid (Own w [((w.heap.size+1),#[.int .u8 3,(),(),(),(),(),(),(),(),(),(),(),(),(),al,io,(),true,true]),(w.heap.size,#[.int .u32 u0,.int .u32 u1,.int .u32 u2,.int .u32 u3,.int .u32 u4,.int .u32 u5,.int .u32 u6,.int .u32 u7])] _):=Lib.hid (M.out.setAll 0 rfl [.int .u8 3,.float .f64 0,.float .f64 0,.float .f64 0,.float .f64 0,.float .f64 0,.float .f64 0,.float .f64 0,.float .f64 0,.float .f64 0,.float .f64 0,.float .f64 0,.float .f64 0,.float .f64 0,.float .f64 al,.float .f64 io,.float .f64 0,.int .i64 0,.int .i64 0] rfl)
 refine hK.out _ _ (Or.inr (M.out.nth 1 rfl).eight) (fun hHeld=>?_)
 clear hK K hHeld
 refine tails_done (by kernel_rfl) ?_ _
 refine NoPanic.normal ?_
 clear hS
 revert M
 generalize (World.setCells V_ (w.heap.size+1) 0 [.int .u8 3,.float .f64 0,.float .f64 0,.float .f64 0,.float .f64 0,.float .f64 0,.float .f64 0,.float .f64 0,.float .f64 0,.float .f64 0,.float .f64 0,.float .f64 0,.float .f64 0,.float .f64 0,.float .f64 al,.float .f64 io,.float .f64 0,.int .i64 0,.int .i64 0])=W3_
 intro M
 go_wp2
 exact bodyPost_ret (v:=.agg #[.int .u8 3,.float .f64 0,.float .f64 0,.float .f64 0,.float .f64 0,.float .f64 0,.float .f64 0,.float .f64 0,.float .f64 0,.float .f64 0,.float .f64 0,.float .f64 0,.float .f64 0,.float .f64 0,.float .f64 al,.float .f64 io,.float .f64 0,.int .i64 0,.int .i64 0]) (results_node Tryz.results6 rfl (M.out.nth 0 rfl)) rfl ⟨rfl,M.out.base⟩
theorem leafM_walk {u0 u1 u2 u3 u4 u5 u6 u7 al p0 p1 p2 q0 q1 q2:Nat} (w:World)
  (q_rem:((u0:Int).tmod 4=3))
  (c1:Hid (∀ w,Calls Tryz.prog 23 #[(4584664420663164928:Nat),(4607182418800017408:Nat),.int .u32 u1] w fun r w'=>r = .returned (al:Value)∧w=w'))
  (c2:Hid (∀ (q:Nat) (w:World),Has1 w (q,#[.int .u32 u0,.int .u32 u1,.int .u32 u2,.int .u32 u3,.int .u32 u4,.int .u32 u5,.int .u32 u6,.int .u32 u7])→Calls Tryz.prog 22 #[(4589168020290535424:Nat),(4625196817309499392:Nat),.int .i64 2,.pointer (some ⟨q,0,none⟩)] w (Rt (.agg #[p0,p1,p2]) w)))
  (c3:Hid (∀ (q:Nat) (w:World),Has1 w (q,#[.int .u32 u0,.int .u32 u1,.int .u32 u2,.int .u32 u3,.int .u32 u4,.int .u32 u5,.int .u32 u6,.int .u32 u7])→Calls Tryz.prog 22 #[(4589168020290535424:Nat),(4625196817309499392:Nat),.int .i64 5,.pointer (some ⟨q,0,none⟩)] w (Rt (.agg #[q0,q1,q2]) w))) :
  Calls Tryz.prog 6 #[.agg #[.int .u32 u0,.int .u32 u1,.int .u32 u2,.int .u32 u3,.int .u32 u4,.int .u32 u5,.int .u32 u6,.int .u32 u7]] w (Rt (.agg #[.int .u8 4,(),(),(),(),(),(),p0,p1,p2,q0,q1,q2,(),al,(),(),true,true]) w):=by
 have M:=Lib.hid (((Own.nil w).made #[.int .u32 u0,.int .u32 u1,.int .u32 u2,.int .u32 u3,.int .u32 u4,.int .u32 u5,.int .u32 u6,.int .u32 u7] 23).made #[.int .u8 0,(),(),(),(),(),(),(),(),(),(),(),(),(),(),(),(),true,true] 28)
 simp only [World.size_alloc] at M
 have eqF:=eq_floats
 go_enter Tryz.func6,Tryz.ntmps6
 obtain⟨k1,k2,k3,k4,k5,k6,k7,k8⟩:=(M.out.nth 1 rfl).eight
 go_wp2_with fail
 refine (c1.out _).mono ?_
 rintro r w1_ ⟨rfl,rfl⟩
 clear k1 k2 k3 k4 k5 k6 k7 k8
 go_wp2_with fail
 refine (c2.out _ _ (M.out.nth 1 rfl)).mono ?_
 rintro r w2_ ⟨rfl,hb⟩
 replace M:=Lib.hid (M.out.below hb)
 clear hb
 go_wp2_with fail
 refine (c3.out _ _ (M.out.nth 1 rfl)).mono ?_
 rintro r w3_ ⟨rfl,hb⟩
 replace M:=Lib.hid (M.out.below hb)
 clear hb
 try go_simp
 repeat ((fail_if_success refine wpl_stnode (by kernel_rfl) rfl rfl rfl (by kernel_rfl) (M.out.nth 0 rfl) ?_); go_step)
 refine wpl_stnode (by kernel_rfl) rfl rfl rfl (by kernel_rfl) (M.out.nth 0 rfl) ?_
 simp only [Act.put,go_sem]
 replace M:=Lib.hid (M.out.setAll 0 rfl [.int .u8 4,.float .f64 0,.float .f64 0,.float .f64 0,.float .f64 0,.float .f64 0,.float .f64 0,.float .f64 p0,.float .f64 p1,.float .f64 p2,.float .f64 q0,.float .f64 q1,.float .f64 q2,.float .f64 0,.float .f64 al,.float .f64 0,.float .f64 0,.int .i64 0,.int .i64 0] rfl)
 revert M
 generalize World.setCells w3_ (w.heap.size+1) 0 [.int .u8 4,.float .f64 0,.float .f64 0,.float .f64 0,.float .f64 0,.float .f64 0,.float .f64 0,.float .f64 p0,.float .f64 p1,.float .f64 p2,.float .f64 q0,.float .f64 q1,.float .f64 q2,.float .f64 0,.float .f64 al,.float .f64 0,.float .f64 0,.int .i64 0,.int .i64 0]=W4_
 intro M
 replace M:Hid (Own w [((w.heap.size+1),#[.int .u8 4,(),(),(),(),(),(),p0,p1,p2,q0,q1,q2,(),al,(),(),true,true]),(w.heap.size,#[.int .u32 u0,.int .u32 u1,.int .u32 u2,.int .u32 u3,.int .u32 u4,.int .u32 u5,.int .u32 u6,.int .u32 u7])] W4_):=M
 go_wp2
 exact bodyPost_ret (v:=.agg #[.int .u8 4,.float .f64 0,.float .f64 0,.float .f64 0,.float .f64 0,.float .f64 0,.float .f64 0,.float .f64 p0,.float .f64 p1,.float .f64 p2,.float .f64 q0,.float .f64 q1,.float .f64 q2,.float .f64 0,.float .f64 al,.float .f64 0,.float .f64 0,.int .i64 0,.int .i64 0]) (results_node Tryz.results6 rfl (M.out.nth 0 rfl)) rfl ⟨rfl,M.out.base⟩
theorem awake11_walk {al ah bl bh dl dh xl xh:Nat} (w:World)
  (c1:Hid (∀ w,Calls Tryz.prog 28 #[(4607182418800017408:Nat)] w (Rt (.agg #[(4607182418800017408:Nat),(4607182418800017408:Nat)]) w)))
  (c2:Hid (∀ w,Calls Tryz.prog 9 #[.agg #[.int .u8 1,(4607182418800017408:Nat),(4602678819172646912:Nat),(),(),(),(),(),(),(),(),(),(),(),(),(),(),true,true],true,.agg #[(),(),(),(),(4607182418800017408:Nat),(4607182418800017408:Nat)],.agg #[(),(),(),(),(4607182418800017408:Nat),(4607182418800017408:Nat)]] w (Rt (.tuple #[.agg #[al,ah],true]) w)))
  (c3:Hid (∀ w,Calls Tryz.prog 9 #[.agg #[.int .u8 1,(4607182418800017408:Nat),(4602678819172646912:Nat),(),(),(),(),(),(),(),(),(),(),(),(),(),(),true,true],.int .i64 1,.agg #[(),(),(),(),(4607182418800017408:Nat),(4607182418800017408:Nat)],.agg #[(),(),(),(),(4607182418800017408:Nat),(4607182418800017408:Nat)]] w (Rt (.tuple #[.agg #[bl,bh],true]) w)))
  (c4:Hid (∀ w,Calls Tryz.prog 9 #[.agg #[.int .u8 1,(4607182418800017408:Nat),(4602678819172646912:Nat),(),(),(),(),(),(),(),(),(),(),(),(),(),(),true,true],.int .i64 2,.agg #[(),(),(),(),(4607182418800017408:Nat),(4607182418800017408:Nat)],.agg #[(),(),(),(),(4607182418800017408:Nat),(4607182418800017408:Nat)]] w (Rt (.tuple #[.agg #[(),()],true]) w)))
  (c5:Hid (∀ w,Calls Tryz.prog 9 #[.agg #[.int .u8 1,(4607182418800017408:Nat),(4602678819172646912:Nat),(),(),(),(),(),(),(),(),(),(),(),(),(),(),true,true],.int .i64 3,.agg #[(),(),(),(),(4607182418800017408:Nat),(4607182418800017408:Nat)],.agg #[(),(),(),(),(4607182418800017408:Nat),(4607182418800017408:Nat)]] w (Rt (.tuple #[.agg #[(),()],.int .i64 2]) w)))
  (c6:Hid (∀ w,Calls Tryz.prog 9 #[.agg #[.int .u8 3,(),(),(),(),(),(),(),(),(),(),(),(),(),(4602678819172646912:Nat),(4609434218613702656:Nat),(),true,true],true,.agg #[(),(),(),(),(4607182418800017408:Nat),(4607182418800017408:Nat)],.agg #[(),(),(),(),(4607182418800017408:Nat),(4607182418800017408:Nat)]] w (Rt (.tuple #[.agg #[dl,dh],true]) w)))
  (c7:Hid (∀ w,Calls Tryz.prog 10 #[.agg #[.int .u8 3,(),(),(),(),(),(),(),(),(),(),(),(),(),(4602678819172646912:Nat),(4609434218613702656:Nat),(),true,true],.agg #[(),(),(),(),(4607182418800017408:Nat),(4607182418800017408:Nat)],.agg #[(),(),(),(),(4607182418800017408:Nat),(4607182418800017408:Nat)]] w (Rt (.tuple #[.agg #[xl,xh],true]) w)))
  (c8:Hid (∀ w,Calls Tryz.prog 29 #[.agg #[al,ah],(4599405781053817700:Nat),(4599405781071832099:Nat)] w (Rt (.bool true) w)))
  (c9:Hid (∀ w,Calls Tryz.prog 29 #[.agg #[bl,bh],(4594902181426447204:Nat),(4594902181462476001:Nat)] w (Rt (.bool true) w)))
  (e_0_0:(Op.floatEq .f64 0 0=true))
  (c10:Hid (∀ w,Calls Tryz.prog 29 #[.agg #[dl,dh],(4578493347781377788:Nat),(4578493348357838540:Nat)] w (Rt (.bool true) w)))
  (c11:Hid (∀ w,Calls Tryz.prog 29 #[.agg #[xl,xh],(4599405781053817700:Nat),(4599405781071832099:Nat)] w (Rt (.bool true) w)))
  (c12:Hid (∀ w,Calls Tryz.prog 8 #[.agg #[.int .u8 1,(4607182418800017408:Nat),(4602678819172646912:Nat),(),(),(),(),(),(),(),(),(),(),(),(),(),(),true,true]] w (Rt (.bool true) w)))
  (c13:Hid (∀ w,Calls Tryz.prog 8 #[.agg #[.int .u8 0,(),(),(),(),(),(),(),(),(),(),(),(),(),(),(),(),true,true]] w (Rt (.bool false) w))) :
  Calls Tryz.prog 12 #[] w fun r w'=>r = .returned (.bool true)∧Below w.heap.size w w':=by
 have M:=Lib.hid (Own.nil w)
 have eqF:=eq_floats
 go_enter Tryz.func12,Tryz.ntmps12
 go_wp2_with fail
 refine (c1.out _).mono ?_
 rintro r w1_ ⟨rfl,hb⟩
 replace M:=Lib.hid (M.out.below hb)
 clear hb
 replace M:=Lib.hid (M.out.made #[(),(),(),(),(4607182418800017408:Nat),(4607182418800017408:Nat)] 33)
 replace M:=Lib.hid (M.out.made #[.int .u8 0,(),(),(),(),(),(),(),(),(),(),(),(),(),(),(),(),true,true] 28)
 simp only [World.size_alloc] at M
 go_upto_region 2 with fail
 repeat ((fail_if_success refine wpl_stnode (by kernel_rfl) rfl rfl rfl (by kernel_rfl) (M.out.nth 0 rfl) ?_); go_step)
 refine wpl_stnode (by kernel_rfl) rfl rfl rfl (by kernel_rfl) (M.out.nth 0 rfl) ?_
 simp only [Act.put,go_sem]
 replace M:=Lib.hid (M.out.setAll 0 rfl [.int .u8 1,.float .f64 4607182418800017408,.float .f64 4602678819172646912,.float .f64 0,.float .f64 0,.float .f64 0,.float .f64 0,.float .f64 0,.float .f64 0,.float .f64 0,.float .f64 0,.float .f64 0,.float .f64 0,.float .f64 0,.float .f64 0,.float .f64 0,.float .f64 0,.int .i64 0,.int .i64 0] rfl)
 revert M
 generalize World.setCells ((w1_.alloc (.cells #[(),(),(),(),(4607182418800017408:Nat),(4607182418800017408:Nat)] 33)).alloc (.cells #[.int .u8 0,(),(),(),(),(),(),(),(),(),(),(),(),(),(),(),(),true,true] 28)) (w1_.heap.size+1) 0 [.int .u8 1,.float .f64 4607182418800017408,.float .f64 4602678819172646912,.float .f64 0,.float .f64 0,.float .f64 0,.float .f64 0,.float .f64 0,.float .f64 0,.float .f64 0,.float .f64 0,.float .f64 0,.float .f64 0,.float .f64 0,.float .f64 0,.float .f64 0,.float .f64 0,.int .i64 0,.int .i64 0]=W2_
 intro M
 replace M:Hid (Own w [((w1_.heap.size+1),#[.int .u8 1,(4607182418800017408:Nat),(4602678819172646912:Nat),(),(),(),(),(),(),(),(),(),(),(),(),(),(),true,true]),(w1_.heap.size,#[(),(),(),(),(4607182418800017408:Nat),(4607182418800017408:Nat)])] W2_):=M
 go_upto_region 3 with fail
 go_step
 refine wpl_node (by kernel_rfl) rfl rfl (M.out.nth 0 rfl) ?_
 simp only [Act.put,go_sem]
 obtain⟨k1,k2,k3,k4,k5,k6⟩:=(M.out.nth 1 rfl).six
 go_wp2_with fail
 refine (c2.out _).mono ?_
 rintro r w3_ ⟨rfl,hb⟩
 replace M:=Lib.hid (M.out.below hb)
 clear hb
 clear k1 k2 k3 k4 k5 k6
 replace M:=Lib.hid (M.out.made #[al,ah] 31)
 go_upto_region 4 with fail
 go_step
 refine wpl_node (by kernel_rfl) rfl rfl (M.out.nth 1 rfl) ?_
 simp only [Act.put,go_sem]
 obtain⟨k1,k2,k3,k4,k5,k6⟩:=(M.out.nth 2 rfl).six
 go_wp2_with fail
 refine (c3.out _).mono ?_
 rintro r w4_ ⟨rfl,hb⟩
 replace M:=Lib.hid (M.out.below hb)
 clear hb
 clear k1 k2 k3 k4 k5 k6
 replace M:=Lib.hid (M.out.made #[bl,bh] 31)
 go_upto_region 5 with fail
 go_step
 refine wpl_node (by kernel_rfl) rfl rfl (M.out.nth 2 rfl) ?_
 simp only [Act.put,go_sem]
 obtain⟨k1,k2,k3,k4,k5,k6⟩:=(M.out.nth 3 rfl).six
 go_wp2_with fail
 refine (c4.out _).mono ?_
 rintro r w5_ ⟨rfl,hb⟩
 replace M:=Lib.hid (M.out.below hb)
 clear hb
 clear k1 k2 k3 k4 k5 k6
 replace M:=Lib.hid (M.out.made #[(),()] 31)
 go_upto_region 6 with fail
 go_step
 refine wpl_node (by kernel_rfl) rfl rfl (M.out.nth 3 rfl) ?_
 simp only [Act.put,go_sem]
 obtain⟨k1,k2,k3,k4,k5,k6⟩:=(M.out.nth 4 rfl).six
 go_wp2_with fail
 refine (c5.out _).mono ?_
 rintro r w6_ ⟨rfl,hb⟩
 replace M:=Lib.hid (M.out.below hb)
 clear hb
 clear k1 k2 k3 k4 k5 k6
 replace M:=Lib.hid (M.out.made #[(),()] 31)
 replace M:=Lib.hid (M.out.made #[.int .u8 0,(),(),(),(),(),(),(),(),(),(),(),(),(),(),(),(),true,true] 28)
 simp only [World.size_alloc] at M
 go_upto_region 7 with fail
 repeat ((fail_if_success refine wpl_stnode (by kernel_rfl) rfl rfl rfl (by kernel_rfl) (M.out.nth 0 rfl) ?_); go_step)
 refine wpl_stnode (by kernel_rfl) rfl rfl rfl (by kernel_rfl) (M.out.nth 0 rfl) ?_
 simp only [Act.put,go_sem]
 replace M:=Lib.hid (M.out.setAll 0 rfl [.int .u8 3,.float .f64 0,.float .f64 0,.float .f64 0,.float .f64 0,.float .f64 0,.float .f64 0,.float .f64 0,.float .f64 0,.float .f64 0,.float .f64 0,.float .f64 0,.float .f64 0,.float .f64 0,.float .f64 4602678819172646912,.float .f64 4609434218613702656,.float .f64 0,.int .i64 0,.int .i64 0] rfl)
 revert M
 generalize World.setCells ((w6_.alloc (.cells #[(),()] 31)).alloc (.cells #[.int .u8 0,(),(),(),(),(),(),(),(),(),(),(),(),(),(),(),(),true,true] 28)) (w6_.heap.size+1) 0 [.int .u8 3,.float .f64 0,.float .f64 0,.float .f64 0,.float .f64 0,.float .f64 0,.float .f64 0,.float .f64 0,.float .f64 0,.float .f64 0,.float .f64 0,.float .f64 0,.float .f64 0,.float .f64 0,.float .f64 4602678819172646912,.float .f64 4609434218613702656,.float .f64 0,.int .i64 0,.int .i64 0]=W7_
 intro M
 replace M:Hid (Own w [((w6_.heap.size+1),#[.int .u8 3,(),(),(),(),(),(),(),(),(),(),(),(),(),(4602678819172646912:Nat),(4609434218613702656:Nat),(),true,true]),(w6_.heap.size,#[(),()]),(w5_.heap.size,#[(),()]),(w4_.heap.size,#[bl,bh]),(w3_.heap.size,#[al,ah]),((w1_.heap.size+1),#[.int .u8 1,(4607182418800017408:Nat),(4602678819172646912:Nat),(),(),(),(),(),(),(),(),(),(),(),(),(),(),true,true]),(w1_.heap.size,#[(),(),(),(),(4607182418800017408:Nat),(4607182418800017408:Nat)])] W7_):=M
 go_upto_region 8 with fail
 go_step
 refine wpl_node (by kernel_rfl) rfl rfl (M.out.nth 0 rfl) ?_
 simp only [Act.put,go_sem]
 obtain⟨k1,k2,k3,k4,k5,k6⟩:=(M.out.nth 6 rfl).six
 go_wp2_with fail
 refine (c6.out _).mono ?_
 rintro r w8_ ⟨rfl,hb⟩
 replace M:=Lib.hid (M.out.below hb)
 clear hb
 clear k1 k2 k3 k4 k5 k6
 replace M:=Lib.hid (M.out.made #[dl,dh] 31)
 go_upto_region 9 with fail
 go_step
 refine wpl_node (by kernel_rfl) rfl rfl (M.out.nth 1 rfl) ?_
 simp only [Act.put,go_sem]
 obtain⟨k1,k2,k3,k4,k5,k6⟩:=(M.out.nth 7 rfl).six
 go_wp2_with fail
 refine (c7.out _).mono ?_
 rintro r w9_ ⟨rfl,hb⟩
 replace M:=Lib.hid (M.out.below hb)
 clear hb
 clear k1 k2 k3 k4 k5 k6
 replace M:=Lib.hid (M.out.made #[xl,xh] 31)
 obtain⟨k1,k2⟩:=(M.out.nth 6 rfl).two
 go_wp2_with fail
 refine (c8.out _).mono ?_
 rintro r w10_ ⟨rfl,hb⟩
 replace M:=Lib.hid (M.out.below hb)
 clear hb
 clear k1 k2
 obtain⟨k1,k2⟩:=(M.out.nth 5 rfl).two
 go_wp2_with fail
 refine (c9.out _).mono ?_
 rintro r w11_ ⟨rfl,hb⟩
 replace M:=Lib.hid (M.out.below hb)
 clear hb
 clear k1 k2
 obtain⟨k1,k2⟩:=(M.out.nth 4 rfl).two
 obtain⟨k3,k4⟩:=(M.out.nth 1 rfl).two
 go_wp2_with fail
 refine (c10.out _).mono ?_
 rintro r w12_ ⟨rfl,hb⟩
 replace M:=Lib.hid (M.out.below hb)
 clear hb
 clear k1 k2 k3 k4
 obtain⟨k1,k2⟩:=(M.out.nth 0 rfl).two
 go_wp2_with fail
 refine (c11.out _).mono ?_
 rintro r w13_ ⟨rfl,hb⟩
 replace M:=Lib.hid (M.out.below hb)
 clear hb
 clear k1 k2
 try go_simp
 repeat ((fail_if_success refine wpl_node (by kernel_rfl) rfl rfl (M.out.nth 7 rfl) ?_); go_step)
 refine wpl_node (by kernel_rfl) rfl rfl (M.out.nth 7 rfl) ?_
 simp only [Act.put,go_sem]
 go_wp2_with fail
 refine (c12.out _).mono ?_
 rintro r w14_ ⟨rfl,hb⟩
 replace M:=Lib.hid (M.out.below hb)
 clear hb
 go_wp2_with fail
 refine (c13.out _).mono ?_
 rintro r w15_ ⟨rfl,hb⟩
 replace M:=Lib.hid (M.out.below hb)
 clear hb
 go_wp2
 go_ret
 exact ⟨rfl,M.out.base⟩
end
end Go.Proofs.YtmkgfflebfpcdaaGreat
