/- What the claim stands on, part 21: PaD. -/
import Derived.Test.YtmkgfflebfpcdaaGreatPA17
import Derived.Deep.RegionHeld3
set_option maxHeartbeats 16000000
set_option maxRecDepth 100000
namespace Go.Proofs.YtmkgfflebfpcdaaGreat
section
open Go.RowKit
attribute [local go_sem] run_store_float run_store_fun run_store_nilfun
theorem valO0_walk {r0 r1 r2 sg i0 i1 i2 i3 i4 i5 o0 o1 o2 o3 o4 o5 dl dh tl sl th sh zl zh:Nat} {ez:Int} (w:World)
   (d1:Hid (∀ pb v,Has1 v (pb,#[true])→Calls Tryz.prog 84 #[.pointer (some ⟨pb,0,none⟩),.agg #[i0,i1,i2,i3,i4,i5],.agg #[o0,o1,o2,o3,o4,o5]] v fun r w'=>r = .returned (.agg #[dl,dh])∧Put ⟨pb,0,none⟩ (.int .i64 0) v w'))
   (m_tl:(∀ ts t w,(Builtin.max_ ts t #[dl,(13830554455654793216:Nat)]).run Tryz.prog w = .ok (.float .f64 tl) w))
   (m_sl:(∀ ts t w,(Builtin.min_ ts t #[tl,(4607182418800017408:Nat)]).run Tryz.prog w = .ok (.float .f64 sl) w))
   (m_th:(∀ ts t w,(Builtin.max_ ts t #[dh,(13830554455654793216:Nat)]).run Tryz.prog w = .ok (.float .f64 th) w))
   (m_sh:(∀ ts t w,(Builtin.min_ ts t #[th,(4607182418800017408:Nat)]).run Tryz.prog w = .ok (.float .f64 sh) w))
   (c4:Hid (∀ w,Calls Tryz.prog 85 #[.agg #[r0,r0],.agg #[sg,sg],.agg #[i4,i5],.agg #[o4,o5],.agg #[sl,sh]] w (Rt (.tuple #[.agg #[zl,zh],.int .i64 ez]) w))) :
   Calls Tryz.prog 65 #[.agg #[.int .u8 2,r0,r1,r2,(),(),(),(),(),(),(),(),(),sg,(),(),(),true,true],true,.agg #[i0,i1,i2,i3,i4,i5],.agg #[o0,o1,o2,o3,o4,o5]] w (Rt (.tuple #[.agg #[zl,zh],.int .i64 ez]) w):=by
 have M:=Lib.hid (((((Own.nil w).made #[.int .u8 2,r0,r1,r2,(),(),(),(),(),(),(),(),(),sg,(),(),(),true,true] 72).made #[i0,i1,i2,i3,i4,i5] 33).made #[o0,o1,o2,o3,o4,o5] 33).made #[(),()] 31)
 simp only [World.size_alloc] at M
 have eqF:=eq_floats
 go_enter Tryz.func65,Tryz.ntmps65
 replace M:=Lib.hid (M.out.made #[true] 50)
 simp only [World.size_alloc] at M
 obtain⟨k1,k2,k3,k4,k5,k6⟩:=(M.out.nth 3 rfl).six
 obtain⟨k7,k8,k9,k10,k11,k12⟩:=(M.out.nth 2 rfl).six
 go_wp2_with fail
 refine (d1.out _ _ (M.out.nth 0 rfl)).mono ?_
 rintro r w1_ ⟨rfl,hb⟩
 replace M:=Lib.hid (M.out.putAt 0 rfl hb)
 dsimp only [List.set] at M
 clear hb
 clear k1 k2 k3 k4 k5 k6 k7 k8 k9 k10 k11 k12
 replace M:=Lib.hid (M.out.made #[sl,sh] 31).front
 go_upto_region 4 with fail
 replace M:=Lib.hid M.out.drew
 revert M
 generalize (w1_.alloc (.cells #[sl,sh] 31))=W2_
 intro M
 refine wp_region_noPanic ?_
 refine tails_region (S:=fun w'=>(w'.cell? ⟨w.heap.size,1,none⟩=some (.float .f64 r0)∧w'.cell? ⟨w.heap.size,13,none⟩=some (.float .f64 sg))∧(w'.cell? ⟨(w.heap.size+1),0,none⟩=some (.float .f64 i0)∧w'.cell? ⟨(w.heap.size+1),1,none⟩=some (.float .f64 i1)∧w'.cell? ⟨(w.heap.size+1),2,none⟩=some (.float .f64 i2)∧w'.cell? ⟨(w.heap.size+1),3,none⟩=some (.float .f64 i3)∧w'.cell? ⟨(w.heap.size+1),4,none⟩=some (.float .f64 i4)∧w'.cell? ⟨(w.heap.size+1),5,none⟩=some (.float .f64 i5))∧(w'.cell? ⟨(w.heap.size+1+1),0,none⟩=some (.float .f64 o0)∧w'.cell? ⟨(w.heap.size+1+1),1,none⟩=some (.float .f64 o1)∧w'.cell? ⟨(w.heap.size+1+1),2,none⟩=some (.float .f64 o2)∧w'.cell? ⟨(w.heap.size+1+1),3,none⟩=some (.float .f64 o3)∧w'.cell? ⟨(w.heap.size+1+1),4,none⟩=some (.float .f64 o4)∧w'.cell? ⟨(w.heap.size+1+1),5,none⟩=some (.float .f64 o5))∧(w'.cell? ⟨w1_.heap.size,0,none⟩=some (.float .f64 sl)∧w'.cell? ⟨w1_.heap.size,1,none⟩=some (.float .f64 sh))) [] (by kernel_rfl) ?_ (fun hS=>?_)
 · exact ⟨(And.intro ((M.out.nth 5 rfl).get 1 (.float .f64 r0) rfl) ((M.out.nth 5 rfl).get 13 (.float .f64 sg) rfl)),(M.out.nth 4 rfl).six,(M.out.nth 3 rfl).six,(M.out.nth 1 rfl).two⟩
 refine tq 0 hS ?_
 refine tq 1 hS ?_
 refine tq 2 hS ?_
 refine tq 3 hS ?_
 refine tq 5 hS ?_
 refine tq 6 hS ?_
 refine tq 8 hS ?_
 refine tq 9 hS ?_
 refine tq 10 hS ?_
 refine tq 11 hS ?_
 refine tq 12 hS ?_
 conv=>arg 9; simp only [Act.put,go_sem]
 refine tails_one (T:=[]) (i:=4) (o:=_) rfl (by kernel_rfl) (fun K hK=>?_)
 go_simp
 refine (psingle_any r0 _).mono ?_
 rintro rr w3_ ⟨rfl,hb⟩
 replace M:=Lib.hid (M.out.below hb)
 clear hb
 try go_wp2_with fail
 refine hK.out _ _ (Or.inr ⟨(And.intro ((M.out.nth 5 rfl).get 1 (.float .f64 r0) rfl) ((M.out.nth 5 rfl).get 13 (.float .f64 sg) rfl)),(M.out.nth 4 rfl).six,(M.out.nth 3 rfl).six,(M.out.nth 1 rfl).two⟩) (fun hHeld=>?_)
 clear hK K hHeld
 replace hS:=(And.intro (And.intro ((M.out.nth 5 rfl).get 1 (.float .f64 r0) rfl) ((M.out.nth 5 rfl).get 13 (.float .f64 sg) rfl)) (And.intro (M.out.nth 4 rfl).six (And.intro (M.out.nth 3 rfl).six (M.out.nth 1 rfl).two)))
 refine tails_one (T:=[]) (i:=7) (o:=_) rfl (by kernel_rfl) (fun K hK=>?_)
 go_simp
 refine (psingle_any sg _).mono ?_
 rintro rr w4_ ⟨rfl,hb⟩
 replace M:=Lib.hid (M.out.below hb)
 clear hb
 try go_wp2_with fail
 refine hK.out _ _ (Or.inr ⟨(And.intro ((M.out.nth 5 rfl).get 1 (.float .f64 r0) rfl) ((M.out.nth 5 rfl).get 13 (.float .f64 sg) rfl)),(M.out.nth 4 rfl).six,(M.out.nth 3 rfl).six,(M.out.nth 1 rfl).two⟩) (fun hHeld=>?_)
 clear hK K hHeld
 replace hS:=(And.intro (And.intro ((M.out.nth 5 rfl).get 1 (.float .f64 r0) rfl) ((M.out.nth 5 rfl).get 13 (.float .f64 sg) rfl)) (And.intro (M.out.nth 4 rfl).six (And.intro (M.out.nth 3 rfl).six (M.out.nth 1 rfl).two)))
 refine tails_one (T:=[]) (i:=13) (o:=_) rfl (by kernel_rfl) (fun K hK=>?_)
 go_simp
 refine (c4.out _).mono ?_
 rintro rr w5_ ⟨rfl,hb⟩
 replace M:=Lib.hid (M.out.below hb)
 clear hb
 try go_wp2_with fail
 refine hK.out _ _ (Or.inr ⟨(And.intro ((M.out.nth 5 rfl).get 1 (.float .f64 r0) rfl) ((M.out.nth 5 rfl).get 13 (.float .f64 sg) rfl)),(M.out.nth 4 rfl).six,(M.out.nth 3 rfl).six,(M.out.nth 1 rfl).two⟩) (fun hHeld=>?_)
 clear hK K hHeld
 replace hS:=(And.intro (And.intro ((M.out.nth 5 rfl).get 1 (.float .f64 r0) rfl) ((M.out.nth 5 rfl).get 13 (.float .f64 sg) rfl)) (And.intro (M.out.nth 4 rfl).six (And.intro (M.out.nth 3 rfl).six (M.out.nth 1 rfl).two)))
 refine tq 14 hS ?_
 refine tq 15 hS ?_
 refine tails_one (T:=[]) (i:=16) (o:=_) rfl (by kernel_rfl) (fun K hK=>?_)
 have kc:=(M.out.nth 2 rfl).2.1
 have kf:=(M.out.nth 2 rfl).2.2
 replace M:=Lib.hid (M.out.set2 2 rfl (.float .f64 zl) (.float .f64 zh))
 dsimp only [List.set] at M
 go_simp
 refine hK.out _ _ (Or.inr ⟨(And.intro ((M.out.nth 5 rfl).get 1 (.float .f64 r0) rfl) ((M.out.nth 5 rfl).get 13 (.float .f64 sg) rfl)),(M.out.nth 4 rfl).six,(M.out.nth 3 rfl).six,(M.out.nth 1 rfl).two⟩) (fun hHeld=>?_)
 clear hK K hHeld kc kf
 refine tails_one (T:=[]) (i:=17) (o:=_) rfl (by kernel_rfl) (fun K hK=>?_)
 go_simp
 refine hK.out _ _ (Or.inr ⟨(And.intro ((M.out.nth 5 rfl).get 1 (.float .f64 r0) rfl) ((M.out.nth 5 rfl).get 13 (.float .f64 sg) rfl)),(M.out.nth 4 rfl).six,(M.out.nth 3 rfl).six,(M.out.nth 1 rfl).two⟩) (fun hHeld=>?_)
 clear hK K hHeld
 refine tails_done (by kernel_rfl) ?_ _
 refine NoPanic.normal ?_
 clear hS
 revert M
 generalize ((w5_.setCell ⟨(w.heap.size+1+1+1),0,none⟩ (.float .f64 zl)).setCell ⟨(w.heap.size+1+1+1),1,none⟩ (.float .f64 zh))=W6_
 intro M
 go_wp2
 obtain⟨f1,f2⟩:=(M.out.nth 2 rfl).two
 exact bodyPost_ret (v:=.tuple #[.agg #[.float .f64 zl,.float .f64 zh],.int .i64 ez]) (by simp [results,Tryz.results65,go_sem,f1,f2]) rfl ⟨rfl,M.out.base⟩
theorem valO1_walk {r0 r1 r2 sg i0 i1 i2 i3 i4 i5 o0 o1 o2 o3 o4 o5 dl dh tl sl th sh zl zh:Nat} {ez:Int} (w:World)
   (d1:Hid (∀ pb v,Has1 v (pb,#[true])→Calls Tryz.prog 84 #[.pointer (some ⟨pb,0,none⟩),.agg #[i0,i1,i2,i3,i4,i5],.agg #[o0,o1,o2,o3,o4,o5]] v fun r w'=>r = .returned (.agg #[dl,dh])∧Put ⟨pb,0,none⟩ (.int .i64 0) v w'))
   (m_tl:(∀ ts t w,(Builtin.max_ ts t #[dl,(13830554455654793216:Nat)]).run Tryz.prog w = .ok (.float .f64 tl) w))
   (m_sl:(∀ ts t w,(Builtin.min_ ts t #[tl,(4607182418800017408:Nat)]).run Tryz.prog w = .ok (.float .f64 sl) w))
   (m_th:(∀ ts t w,(Builtin.max_ ts t #[dh,(13830554455654793216:Nat)]).run Tryz.prog w = .ok (.float .f64 th) w))
   (m_sh:(∀ ts t w,(Builtin.min_ ts t #[th,(4607182418800017408:Nat)]).run Tryz.prog w = .ok (.float .f64 sh) w))
   (c4:Hid (∀ w,Calls Tryz.prog 85 #[.agg #[r1,r1],.agg #[sg,sg],.agg #[i4,i5],.agg #[o4,o5],.agg #[sl,sh]] w (Rt (.tuple #[.agg #[zl,zh],.int .i64 ez]) w))) :
   Calls Tryz.prog 65 #[.agg #[.int .u8 2,r0,r1,r2,(),(),(),(),(),(),(),(),(),sg,(),(),(),true,true],.int .i64 1,.agg #[i0,i1,i2,i3,i4,i5],.agg #[o0,o1,o2,o3,o4,o5]] w (Rt (.tuple #[.agg #[zl,zh],.int .i64 ez]) w):=by
 have M:=Lib.hid (((((Own.nil w).made #[.int .u8 2,r0,r1,r2,(),(),(),(),(),(),(),(),(),sg,(),(),(),true,true] 72).made #[i0,i1,i2,i3,i4,i5] 33).made #[o0,o1,o2,o3,o4,o5] 33).made #[(),()] 31)
 simp only [World.size_alloc] at M
 have eqF:=eq_floats
 go_enter Tryz.func65,Tryz.ntmps65
 replace M:=Lib.hid (M.out.made #[true] 50)
 simp only [World.size_alloc] at M
 obtain⟨k1,k2,k3,k4,k5,k6⟩:=(M.out.nth 3 rfl).six
 obtain⟨k7,k8,k9,k10,k11,k12⟩:=(M.out.nth 2 rfl).six
 go_wp2_with fail
 refine (d1.out _ _ (M.out.nth 0 rfl)).mono ?_
 rintro r w1_ ⟨rfl,hb⟩
 replace M:=Lib.hid (M.out.putAt 0 rfl hb)
 dsimp only [List.set] at M
 clear hb
 clear k1 k2 k3 k4 k5 k6 k7 k8 k9 k10 k11 k12
 replace M:=Lib.hid (M.out.made #[sl,sh] 31).front
 go_upto_region 4 with fail
 replace M:=Lib.hid M.out.drew
 revert M
 generalize (w1_.alloc (.cells #[sl,sh] 31))=W2_
 intro M
 refine wp_region_noPanic ?_
 refine tails_region (S:=fun w'=>(w'.cell? ⟨w.heap.size,2,none⟩=some (.float .f64 r1)∧w'.cell? ⟨w.heap.size,13,none⟩=some (.float .f64 sg))∧(w'.cell? ⟨(w.heap.size+1),0,none⟩=some (.float .f64 i0)∧w'.cell? ⟨(w.heap.size+1),1,none⟩=some (.float .f64 i1)∧w'.cell? ⟨(w.heap.size+1),2,none⟩=some (.float .f64 i2)∧w'.cell? ⟨(w.heap.size+1),3,none⟩=some (.float .f64 i3)∧w'.cell? ⟨(w.heap.size+1),4,none⟩=some (.float .f64 i4)∧w'.cell? ⟨(w.heap.size+1),5,none⟩=some (.float .f64 i5))∧(w'.cell? ⟨(w.heap.size+1+1),0,none⟩=some (.float .f64 o0)∧w'.cell? ⟨(w.heap.size+1+1),1,none⟩=some (.float .f64 o1)∧w'.cell? ⟨(w.heap.size+1+1),2,none⟩=some (.float .f64 o2)∧w'.cell? ⟨(w.heap.size+1+1),3,none⟩=some (.float .f64 o3)∧w'.cell? ⟨(w.heap.size+1+1),4,none⟩=some (.float .f64 o4)∧w'.cell? ⟨(w.heap.size+1+1),5,none⟩=some (.float .f64 o5))∧(w'.cell? ⟨w1_.heap.size,0,none⟩=some (.float .f64 sl)∧w'.cell? ⟨w1_.heap.size,1,none⟩=some (.float .f64 sh))) [] (by kernel_rfl) ?_ (fun hS=>?_)
 · exact ⟨(And.intro ((M.out.nth 5 rfl).get 2 (.float .f64 r1) rfl) ((M.out.nth 5 rfl).get 13 (.float .f64 sg) rfl)),(M.out.nth 4 rfl).six,(M.out.nth 3 rfl).six,(M.out.nth 1 rfl).two⟩
 refine tq 0 hS ?_
 refine tq 1 hS ?_
 refine tq 2 hS ?_
 refine tq 3 hS ?_
 refine tq 5 hS ?_
 refine tq 6 hS ?_
 refine tq 8 hS ?_
 refine tq 9 hS ?_
 refine tq 10 hS ?_
 refine tq 11 hS ?_
 refine tq 12 hS ?_
 conv=>arg 9; simp only [Act.put,go_sem]
 refine tails_one (T:=[]) (i:=4) (o:=_) rfl (by kernel_rfl) (fun K hK=>?_)
 go_simp
 refine (psingle_any r1 _).mono ?_
 rintro rr w3_ ⟨rfl,hb⟩
 replace M:=Lib.hid (M.out.below hb)
 clear hb
 try go_wp2_with fail
 refine hK.out _ _ (Or.inr ⟨(And.intro ((M.out.nth 5 rfl).get 2 (.float .f64 r1) rfl) ((M.out.nth 5 rfl).get 13 (.float .f64 sg) rfl)),(M.out.nth 4 rfl).six,(M.out.nth 3 rfl).six,(M.out.nth 1 rfl).two⟩) (fun hHeld=>?_)
 clear hK K hHeld
 replace hS:=(And.intro (And.intro ((M.out.nth 5 rfl).get 2 (.float .f64 r1) rfl) ((M.out.nth 5 rfl).get 13 (.float .f64 sg) rfl)) (And.intro (M.out.nth 4 rfl).six (And.intro (M.out.nth 3 rfl).six (M.out.nth 1 rfl).two)))
 refine tails_one (T:=[]) (i:=7) (o:=_) rfl (by kernel_rfl) (fun K hK=>?_)
 go_simp
 refine (psingle_any sg _).mono ?_
 rintro rr w4_ ⟨rfl,hb⟩
 replace M:=Lib.hid (M.out.below hb)
 clear hb
 try go_wp2_with fail
 refine hK.out _ _ (Or.inr ⟨(And.intro ((M.out.nth 5 rfl).get 2 (.float .f64 r1) rfl) ((M.out.nth 5 rfl).get 13 (.float .f64 sg) rfl)),(M.out.nth 4 rfl).six,(M.out.nth 3 rfl).six,(M.out.nth 1 rfl).two⟩) (fun hHeld=>?_)
 clear hK K hHeld
 replace hS:=(And.intro (And.intro ((M.out.nth 5 rfl).get 2 (.float .f64 r1) rfl) ((M.out.nth 5 rfl).get 13 (.float .f64 sg) rfl)) (And.intro (M.out.nth 4 rfl).six (And.intro (M.out.nth 3 rfl).six (M.out.nth 1 rfl).two)))
 refine tails_one (T:=[]) (i:=13) (o:=_) rfl (by kernel_rfl) (fun K hK=>?_)
 go_simp
 refine (c4.out _).mono ?_
 rintro rr w5_ ⟨rfl,hb⟩
 replace M:=Lib.hid (M.out.below hb)
 clear hb
 try go_wp2_with fail
 refine hK.out _ _ (Or.inr ⟨(And.intro ((M.out.nth 5 rfl).get 2 (.float .f64 r1) rfl) ((M.out.nth 5 rfl).get 13 (.float .f64 sg) rfl)),(M.out.nth 4 rfl).six,(M.out.nth 3 rfl).six,(M.out.nth 1 rfl).two⟩) (fun hHeld=>?_)
 clear hK K hHeld
 replace hS:=(And.intro (And.intro ((M.out.nth 5 rfl).get 2 (.float .f64 r1) rfl) ((M.out.nth 5 rfl).get 13 (.float .f64 sg) rfl)) (And.intro (M.out.nth 4 rfl).six (And.intro (M.out.nth 3 rfl).six (M.out.nth 1 rfl).two)))
 refine tq 14 hS ?_
 refine tq 15 hS ?_
 refine tails_one (T:=[]) (i:=16) (o:=_) rfl (by kernel_rfl) (fun K hK=>?_)
 have kc:=(M.out.nth 2 rfl).2.1
 have kf:=(M.out.nth 2 rfl).2.2
 replace M:=Lib.hid (M.out.set2 2 rfl (.float .f64 zl) (.float .f64 zh))
 dsimp only [List.set] at M
 go_simp
 refine hK.out _ _ (Or.inr ⟨(And.intro ((M.out.nth 5 rfl).get 2 (.float .f64 r1) rfl) ((M.out.nth 5 rfl).get 13 (.float .f64 sg) rfl)),(M.out.nth 4 rfl).six,(M.out.nth 3 rfl).six,(M.out.nth 1 rfl).two⟩) (fun hHeld=>?_)
 clear hK K hHeld kc kf
 refine tails_one (T:=[]) (i:=17) (o:=_) rfl (by kernel_rfl) (fun K hK=>?_)
 go_simp
 refine hK.out _ _ (Or.inr ⟨(And.intro ((M.out.nth 5 rfl).get 2 (.float .f64 r1) rfl) ((M.out.nth 5 rfl).get 13 (.float .f64 sg) rfl)),(M.out.nth 4 rfl).six,(M.out.nth 3 rfl).six,(M.out.nth 1 rfl).two⟩) (fun hHeld=>?_)
 clear hK K hHeld
 refine tails_done (by kernel_rfl) ?_ _
 refine NoPanic.normal ?_
 clear hS
 revert M
 generalize ((w5_.setCell ⟨(w.heap.size+1+1+1),0,none⟩ (.float .f64 zl)).setCell ⟨(w.heap.size+1+1+1),1,none⟩ (.float .f64 zh))=W6_
 intro M
 go_wp2
 obtain⟨f1,f2⟩:=(M.out.nth 2 rfl).two
 exact bodyPost_ret (v:=.tuple #[.agg #[.float .f64 zl,.float .f64 zh],.int .i64 ez]) (by simp [results,Tryz.results65,go_sem,f1,f2]) rfl ⟨rfl,M.out.base⟩
theorem valO2_walk {r0 r1 r2 sg i0 i1 i2 i3 i4 i5 o0 o1 o2 o3 o4 o5 dl dh tl sl th sh zl zh:Nat} {ez:Int} (w:World)
   (d1:Hid (∀ pb v,Has1 v (pb,#[true])→Calls Tryz.prog 84 #[.pointer (some ⟨pb,0,none⟩),.agg #[i0,i1,i2,i3,i4,i5],.agg #[o0,o1,o2,o3,o4,o5]] v fun r w'=>r = .returned (.agg #[dl,dh])∧Put ⟨pb,0,none⟩ (.int .i64 0) v w'))
   (m_tl:(∀ ts t w,(Builtin.max_ ts t #[dl,(13830554455654793216:Nat)]).run Tryz.prog w = .ok (.float .f64 tl) w))
   (m_sl:(∀ ts t w,(Builtin.min_ ts t #[tl,(4607182418800017408:Nat)]).run Tryz.prog w = .ok (.float .f64 sl) w))
   (m_th:(∀ ts t w,(Builtin.max_ ts t #[dh,(13830554455654793216:Nat)]).run Tryz.prog w = .ok (.float .f64 th) w))
   (m_sh:(∀ ts t w,(Builtin.min_ ts t #[th,(4607182418800017408:Nat)]).run Tryz.prog w = .ok (.float .f64 sh) w))
   (c4:Hid (∀ w,Calls Tryz.prog 85 #[.agg #[r2,r2],.agg #[sg,sg],.agg #[i4,i5],.agg #[o4,o5],.agg #[sl,sh]] w (Rt (.tuple #[.agg #[zl,zh],.int .i64 ez]) w))) :
   Calls Tryz.prog 65 #[.agg #[.int .u8 2,r0,r1,r2,(),(),(),(),(),(),(),(),(),sg,(),(),(),true,true],.int .i64 2,.agg #[i0,i1,i2,i3,i4,i5],.agg #[o0,o1,o2,o3,o4,o5]] w (Rt (.tuple #[.agg #[zl,zh],.int .i64 ez]) w):=by
 have M:=Lib.hid (((((Own.nil w).made #[.int .u8 2,r0,r1,r2,(),(),(),(),(),(),(),(),(),sg,(),(),(),true,true] 72).made #[i0,i1,i2,i3,i4,i5] 33).made #[o0,o1,o2,o3,o4,o5] 33).made #[(),()] 31)
 simp only [World.size_alloc] at M
 have eqF:=eq_floats
 go_enter Tryz.func65,Tryz.ntmps65
 replace M:=Lib.hid (M.out.made #[true] 50)
 simp only [World.size_alloc] at M
 obtain⟨k1,k2,k3,k4,k5,k6⟩:=(M.out.nth 3 rfl).six
 obtain⟨k7,k8,k9,k10,k11,k12⟩:=(M.out.nth 2 rfl).six
 go_wp2_with fail
 refine (d1.out _ _ (M.out.nth 0 rfl)).mono ?_
 rintro r w1_ ⟨rfl,hb⟩
 replace M:=Lib.hid (M.out.putAt 0 rfl hb)
 dsimp only [List.set] at M
 clear hb
 clear k1 k2 k3 k4 k5 k6 k7 k8 k9 k10 k11 k12
 replace M:=Lib.hid (M.out.made #[sl,sh] 31).front
 go_upto_region 4 with fail
 replace M:=Lib.hid M.out.drew
 revert M
 generalize (w1_.alloc (.cells #[sl,sh] 31))=W2_
 intro M
 refine wp_region_noPanic ?_
 refine tails_region (S:=fun w'=>(w'.cell? ⟨w.heap.size,3,none⟩=some (.float .f64 r2)∧w'.cell? ⟨w.heap.size,13,none⟩=some (.float .f64 sg))∧(w'.cell? ⟨(w.heap.size+1),0,none⟩=some (.float .f64 i0)∧w'.cell? ⟨(w.heap.size+1),1,none⟩=some (.float .f64 i1)∧w'.cell? ⟨(w.heap.size+1),2,none⟩=some (.float .f64 i2)∧w'.cell? ⟨(w.heap.size+1),3,none⟩=some (.float .f64 i3)∧w'.cell? ⟨(w.heap.size+1),4,none⟩=some (.float .f64 i4)∧w'.cell? ⟨(w.heap.size+1),5,none⟩=some (.float .f64 i5))∧(w'.cell? ⟨(w.heap.size+1+1),0,none⟩=some (.float .f64 o0)∧w'.cell? ⟨(w.heap.size+1+1),1,none⟩=some (.float .f64 o1)∧w'.cell? ⟨(w.heap.size+1+1),2,none⟩=some (.float .f64 o2)∧w'.cell? ⟨(w.heap.size+1+1),3,none⟩=some (.float .f64 o3)∧w'.cell? ⟨(w.heap.size+1+1),4,none⟩=some (.float .f64 o4)∧w'.cell? ⟨(w.heap.size+1+1),5,none⟩=some (.float .f64 o5))∧(w'.cell? ⟨w1_.heap.size,0,none⟩=some (.float .f64 sl)∧w'.cell? ⟨w1_.heap.size,1,none⟩=some (.float .f64 sh))) [] (by kernel_rfl) ?_ (fun hS=>?_)
 · exact ⟨(And.intro ((M.out.nth 5 rfl).get 3 (.float .f64 r2) rfl) ((M.out.nth 5 rfl).get 13 (.float .f64 sg) rfl)),(M.out.nth 4 rfl).six,(M.out.nth 3 rfl).six,(M.out.nth 1 rfl).two⟩
 refine tq 0 hS ?_
 refine tq 1 hS ?_
 refine tq 2 hS ?_
 refine tq 3 hS ?_
 refine tq 5 hS ?_
 refine tq 6 hS ?_
 refine tq 8 hS ?_
 refine tq 9 hS ?_
 refine tq 10 hS ?_
 refine tq 11 hS ?_
 refine tq 12 hS ?_
 conv=>arg 9; simp only [Act.put,go_sem]
 refine tails_one (T:=[]) (i:=4) (o:=_) rfl (by kernel_rfl) (fun K hK=>?_)
 go_simp
 refine (psingle_any r2 _).mono ?_
 rintro rr w3_ ⟨rfl,hb⟩
 replace M:=Lib.hid (M.out.below hb)
 clear hb
 try go_wp2_with fail
 refine hK.out _ _ (Or.inr ⟨(And.intro ((M.out.nth 5 rfl).get 3 (.float .f64 r2) rfl) ((M.out.nth 5 rfl).get 13 (.float .f64 sg) rfl)),(M.out.nth 4 rfl).six,(M.out.nth 3 rfl).six,(M.out.nth 1 rfl).two⟩) (fun hHeld=>?_)
 clear hK K hHeld
 replace hS:=(And.intro (And.intro ((M.out.nth 5 rfl).get 3 (.float .f64 r2) rfl) ((M.out.nth 5 rfl).get 13 (.float .f64 sg) rfl)) (And.intro (M.out.nth 4 rfl).six (And.intro (M.out.nth 3 rfl).six (M.out.nth 1 rfl).two)))
 refine tails_one (T:=[]) (i:=7) (o:=_) rfl (by kernel_rfl) (fun K hK=>?_)
 go_simp
 refine (psingle_any sg _).mono ?_
 rintro rr w4_ ⟨rfl,hb⟩
 replace M:=Lib.hid (M.out.below hb)
 clear hb
 try go_wp2_with fail
 refine hK.out _ _ (Or.inr ⟨(And.intro ((M.out.nth 5 rfl).get 3 (.float .f64 r2) rfl) ((M.out.nth 5 rfl).get 13 (.float .f64 sg) rfl)),(M.out.nth 4 rfl).six,(M.out.nth 3 rfl).six,(M.out.nth 1 rfl).two⟩) (fun hHeld=>?_)
 clear hK K hHeld
 replace hS:=(And.intro (And.intro ((M.out.nth 5 rfl).get 3 (.float .f64 r2) rfl) ((M.out.nth 5 rfl).get 13 (.float .f64 sg) rfl)) (And.intro (M.out.nth 4 rfl).six (And.intro (M.out.nth 3 rfl).six (M.out.nth 1 rfl).two)))
 refine tails_one (T:=[]) (i:=13) (o:=_) rfl (by kernel_rfl) (fun K hK=>?_)
 go_simp
 refine (c4.out _).mono ?_
 rintro rr w5_ ⟨rfl,hb⟩
 replace M:=Lib.hid (M.out.below hb)
 clear hb
 try go_wp2_with fail
 refine hK.out _ _ (Or.inr ⟨(And.intro ((M.out.nth 5 rfl).get 3 (.float .f64 r2) rfl) ((M.out.nth 5 rfl).get 13 (.float .f64 sg) rfl)),(M.out.nth 4 rfl).six,(M.out.nth 3 rfl).six,(M.out.nth 1 rfl).two⟩) (fun hHeld=>?_)
 clear hK K hHeld
 replace hS:=(And.intro (And.intro ((M.out.nth 5 rfl).get 3 (.float .f64 r2) rfl) ((M.out.nth 5 rfl).get 13 (.float .f64 sg) rfl)) (And.intro (M.out.nth 4 rfl).six (And.intro (M.out.nth 3 rfl).six (M.out.nth 1 rfl).two)))
 refine tq 14 hS ?_
 refine tq 15 hS ?_
 refine tails_one (T:=[]) (i:=16) (o:=_) rfl (by kernel_rfl) (fun K hK=>?_)
 have kc:=(M.out.nth 2 rfl).2.1
 have kf:=(M.out.nth 2 rfl).2.2
 replace M:=Lib.hid (M.out.set2 2 rfl (.float .f64 zl) (.float .f64 zh))
 dsimp only [List.set] at M
 go_simp
 refine hK.out _ _ (Or.inr ⟨(And.intro ((M.out.nth 5 rfl).get 3 (.float .f64 r2) rfl) ((M.out.nth 5 rfl).get 13 (.float .f64 sg) rfl)),(M.out.nth 4 rfl).six,(M.out.nth 3 rfl).six,(M.out.nth 1 rfl).two⟩) (fun hHeld=>?_)
 clear hK K hHeld kc kf
 refine tails_one (T:=[]) (i:=17) (o:=_) rfl (by kernel_rfl) (fun K hK=>?_)
 go_simp
 refine hK.out _ _ (Or.inr ⟨(And.intro ((M.out.nth 5 rfl).get 3 (.float .f64 r2) rfl) ((M.out.nth 5 rfl).get 13 (.float .f64 sg) rfl)),(M.out.nth 4 rfl).six,(M.out.nth 3 rfl).six,(M.out.nth 1 rfl).two⟩) (fun hHeld=>?_)
 clear hK K hHeld
 refine tails_done (by kernel_rfl) ?_ _
 refine NoPanic.normal ?_
 clear hS
 revert M
 generalize ((w5_.setCell ⟨(w.heap.size+1+1+1),0,none⟩ (.float .f64 zl)).setCell ⟨(w.heap.size+1+1+1),1,none⟩ (.float .f64 zh))=W6_
 intro M
 go_wp2
 obtain⟨f1,f2⟩:=(M.out.nth 2 rfl).two
 exact bodyPost_ret (v:=.tuple #[.agg #[.float .f64 zl,.float .f64 zh],.int .i64 ez]) (by simp [results,Tryz.results65,go_sem,f1,f2]) rfl ⟨rfl,M.out.base⟩
end
end Go.Proofs.YtmkgfflebfpcdaaGreat
