/- What the claim stands on, part 22: QTU, TcV, UnR. -/
import Derived.Test.YtnaomilkgfkegaaGreatTA17
import Derived.Deep.RegionHeld3
import Derived.Test.YtnaomilkgfkegaaGreatTA20
import Derived.Test.YtnaomilkgfkegaaGreatTA9
import Derived.Test.YtnaomilkgfkegaaGreatTA6
import Derived.Test.YtnaomilkgfkegaaGreatTA5
import Derived.Test.YtnaomilkgfkegaaGreatTA0
import Derived.Test.YtnaomilkgfkegaaGreatTA4
import Derived.Test.YtnaomilkgfkegaaGreatTA8
import Derived.LoopTactic
import Derived.Test.YtnaomilkgfkegaaGreatTA10
import Derived.Outline
set_option maxHeartbeats 8000000
set_option maxRecDepth 100000
namespace Go.Proofs.YtnaomilkgfkegaaGreat
section
open Go.RowKit
attribute [local go_sem] run_store_float
def MemIs (w:World) (l:List (Nat×Array Value)) (wx:World):Prop:=Mem w l wx
abbrev CalcH (al ah bl bh rl rh:Nat):Prop:=∀ w:World,Calls Tryz.prog 65 #[.agg #[.float .f64 al,.float .f64 ah],.agg #[.float .f64 bl,.float .f64 bh]] w fun r w'=>r = .returned (.agg #[.float .f64 rl,.float .f64 rh])∧Below w.heap.size w w'
abbrev CalcO (x sl sh kl kh:Nat):Prop:=∀ (pb:Nat) (v:World),Has1 v (pb,#[.int .i64 0])→Calls Tryz.prog 64 #[.pointer (some ⟨pb,0,none⟩),.float .f64 x] v fun r w'=>r = .returned (.tuple #[.agg #[.float .f64 sl,.float .f64 sh],.agg #[.float .f64 kl,.float .f64 kh]])∧Put ⟨pb,0,none⟩ (.int .i64 0) v w'
abbrev CalcHas (al ah x:Nat) (b:Bool):Prop:=∀ w:World,Calls Tryz.prog 66 #[.agg #[.float .f64 al,.float .f64 ah],.float .f64 x] w fun r w'=>r = .returned (.bool b)∧Below w.heap.size w w'
theorem sin_walk (al ah sl sh kl kh tl th vl vh pl ph ql qh xl xh yl yh gl gh il ih jl jh:Nat) (b1 b2 b3:Bool) (w:World)
   (cR:Hid (∀ w,Calls Tryz.prog 46 #[.agg #[.float .f64 al,.float .f64 ah]] w fun r w'=>r = .returned (.bool true)∧Below w.heap.size w w'))
   (o1:(FloatKind.f64.format.order al 0 == some Ordering.lt)=false) (o2:(FloatKind.f64.format.order ah 4607182418800017408 == some Ordering.gt)=false)
   (cO1:Hid (CalcO al sl sh kl kh)) (cO2:Hid (CalcO ah tl th vl vh)) (cS:Hid (CalcH sl sh tl th pl ph)) (cK:Hid (CalcH kl kh vl vh ql qh))
   (h1:Hid (CalcHas al ah 4598175219545276416 b1)) (h2:Hid (CalcHas al ah 4604930618986332160 b2)) (h3:Hid (CalcHas al ah 4602678819172646912 b3))
   (cN1:Hid (∀ pb,CalcN pb 4607182418800017408)) (cN2:Hid (∀ pb,CalcN pb 13830554455654793216))
   (c1:Hid (CalcH pl ph 4607182418800017408 4607182418800017408 gl gh)) (c2:Hid (CalcH xl xh 13830554455654793216 13830554455654793216 il ih)) (c3:Hid (CalcH ql qh 13830554455654793216 13830554455654793216 jl jh))
   (e1:Hid (xl=(cond b1 gl pl)∧xh=(cond b1 gh ph))) (e2:Hid (yl=(cond b2 il xl)∧yh=(cond b2 ih xh))) (zl zh:Nat) (e3:Hid (zl=(cond b3 jl ql)∧zh=(cond b3 jh qh))) :
   Calls Tryz.prog 29 #[.agg #[.float .f64 al,.float .f64 ah]] w fun r w'=>r = .returned (.tuple #[.agg #[.float .f64 yl,.float .f64 yh],.agg #[.float .f64 zl,.float .f64 zh],.int .i64 0])∧Below w.heap.size w w':=by
 have M:Hid (Mem w [(w.heap.size+1+1,#[.float .f64 0,.float .f64 0]),(w.heap.size+1,#[.float .f64 0,.float .f64 0]),(w.heap.size,#[.float .f64 al,.float .f64 ah])] (((w.alloc (.cells #[.float .f64 al,.float .f64 ah] 31)).alloc (.cells #[.float .f64 0,.float .f64 0] 31)).alloc (.cells #[.float .f64 0,.float .f64 0] 31))):=by
   have h:=(((Mem.nil w).made #[.float .f64 al,.float .f64 ah] 31).made #[.float .f64 0,.float .f64 0] 31).made #[.float .f64 0,.float .f64 0] 31
   simp only [World.size_alloc] at h
   exact Lib.hid h
 obtain⟨k1,k2⟩:=(M.out.nth 2 rfl).two
 go_enter Tryz.func29,Tryz.ntmps29
 go_wp2_with fail
 refine (cR.out _).mono ?_
 rintro r w1 ⟨rfl,hb⟩
 have M0:=Lib.hid (M.out.below hb)
 have z1:w.heap.size+1+1 < w1.heap.size:=M0.out.size 0 rfl
 clear hb k1 k2 cR M
 obtain⟨k1,k2⟩:=(M0.out.blocks (w.heap.size,#[.float .f64 al,.float .f64 ah]) (by simp)).two
 go_upto_region 4 with fail
 have M:=Lib.hid (M0.out.made #[.int .i64 0] 74)
 clear k1 k2 M0 o1 o2
 obtain⟨k1,k2⟩:=(M.out.blocks (w.heap.size,#[.float .f64 al,.float .f64 ah]) (by simp)).two
 go_wp2_with fail
 refine (cO1.out _ _ (M.out.nth 0 rfl)).mono ?_
 rintro r w2 ⟨rfl,hb⟩
 have z2:w1.heap.size < w2.heap.size:=(M.out.put hb (by omega) (by simp; omega):Mem w [(w1.heap.size,#[.int .i64 0]),(w.heap.size+1+1,#[.float .f64 0,.float .f64 0]),(w.heap.size+1,#[.float .f64 0,.float .f64 0]),(w.heap.size,#[.float .f64 al,.float .f64 ah])] w2).size 0 rfl
 have M0:=Lib.hid ((M.out.put hb (by omega) (by simp; omega):Mem w [(w1.heap.size,#[.int .i64 0]),(w.heap.size+1+1,#[.float .f64 0,.float .f64 0]),(w.heap.size+1,#[.float .f64 0,.float .f64 0]),(w.heap.size,#[.float .f64 al,.float .f64 ah])] w2))
 clear hb k1 k2 M cO1
 have M:Hid (Mem w [(w2.heap.size+1,#[.float .f64 kl,.float .f64 kh]),(w2.heap.size,#[.float .f64 sl,.float .f64 sh]),(w1.heap.size,#[.int .i64 0]),(w.heap.size+1+1,#[.float .f64 0,.float .f64 0]),(w.heap.size+1,#[.float .f64 0,.float .f64 0]),(w.heap.size,#[.float .f64 al,.float .f64 ah])] ((w2.alloc (.cells #[.float .f64 sl,.float .f64 sh] 31)).alloc (.cells #[.float .f64 kl,.float .f64 kh] 31))):=by
   have h:=(M0.out.made #[.float .f64 sl,.float .f64 sh] 31).made #[.float .f64 kl,.float .f64 kh] 31
   simp only [World.size_alloc] at h
   exact Lib.hid h
 clear M0
 obtain⟨k1,k2⟩:=(M.out.blocks (w.heap.size,#[.float .f64 al,.float .f64 ah]) (by simp)).two
 go_wp2_with fail
 refine (cO2.out _ _ (M.out.blocks (w1.heap.size,#[.int .i64 0]) (by simp))).mono ?_
 rintro r w3 ⟨rfl,hb⟩
 have M0:Hid (Mem w [(w1.heap.size,#[.int .i64 0]),(w2.heap.size,#[.float .f64 sl,.float .f64 sh]),(w2.heap.size+1,#[.float .f64 kl,.float .f64 kh]),(w.heap.size+1+1,#[.float .f64 0,.float .f64 0]),(w.heap.size+1,#[.float .f64 0,.float .f64 0]),(w.heap.size,#[.float .f64 al,.float .f64 ah])] w3):=Lib.hid ((M.out.sub (by simp):Mem w [(w1.heap.size,#[.int .i64 0]),(w2.heap.size,#[.float .f64 sl,.float .f64 sh]),(w2.heap.size+1,#[.float .f64 kl,.float .f64 kh]),(w.heap.size+1+1,#[.float .f64 0,.float .f64 0]),(w.heap.size+1,#[.float .f64 0,.float .f64 0]),(w.heap.size,#[.float .f64 al,.float .f64 ah])] _).put hb (by omega) (by simp; omega))
 have z3:w2.heap.size+1 < w3.heap.size:=M0.out.size 2 rfl
 clear hb k1 k2 M cO2
 have M:Hid (Mem w [(w1.heap.size,#[.int .i64 0]),(w2.heap.size,#[.float .f64 sl,.float .f64 sh]),(w2.heap.size+1,#[.float .f64 kl,.float .f64 kh]),(w3.heap.size,#[.float .f64 tl,.float .f64 th]),(w3.heap.size+1,#[.float .f64 vl,.float .f64 vh]),(w.heap.size+1+1,#[.float .f64 0,.float .f64 0]),(w.heap.size+1,#[.float .f64 0,.float .f64 0]),(w.heap.size,#[.float .f64 al,.float .f64 ah])] ((w3.alloc (.cells #[.float .f64 tl,.float .f64 th] 31)).alloc (.cells #[.float .f64 vl,.float .f64 vh] 31))):=by
   have h:=(M0.out.made #[.float .f64 tl,.float .f64 th] 31).made #[.float .f64 vl,.float .f64 vh] 31
   simp only [World.size_alloc] at h
   exact Lib.hid (h.sub (by simp))
 clear M0
 go_upto_region 6 with fail
 revert M
 generalize ((w3.alloc (.cells #[.float .f64 tl,.float .f64 th] 31)).alloc (.cells #[.float .f64 vl,.float .f64 vh] 31))=W
 intro M
 replace M:=Lib.hid M.out.drew
 obtain⟨k1,k2⟩:=(M.out.blocks (w2.heap.size,#[.float .f64 sl,.float .f64 sh]) (by simp)).two; obtain⟨k3,k4⟩:=(M.out.blocks (w3.heap.size,#[.float .f64 tl,.float .f64 th]) (by simp)).two; obtain⟨k5,k6⟩:=(M.out.blocks (w2.heap.size+1,#[.float .f64 kl,.float .f64 kh]) (by simp)).two; obtain⟨k7,k8⟩:=(M.out.blocks (w3.heap.size+1,#[.float .f64 vl,.float .f64 vh]) (by simp)).two
 refine wp_region_noPanic ?_
 refine tails_region (S:=fun w'=>w'.cell? ⟨w2.heap.size,0,none⟩=some (.float .f64 sl)∧w'.cell? ⟨w2.heap.size,1,none⟩=some (.float .f64 sh)∧w'.cell? ⟨w3.heap.size,0,none⟩=some (.float .f64 tl)∧w'.cell? ⟨w3.heap.size,1,none⟩=some (.float .f64 th)∧w'.cell? ⟨w2.heap.size+1,0,none⟩=some (.float .f64 kl)∧w'.cell? ⟨w2.heap.size+1,1,none⟩=some (.float .f64 kh)∧w'.cell? ⟨w3.heap.size+1,0,none⟩=some (.float .f64 vl)∧w'.cell? ⟨w3.heap.size+1,1,none⟩=some (.float .f64 vh)) [6,7] (by kernel_rfl) ?_ (fun hS=>?_)
 · exact ⟨k1,k2,k3,k4,k5,k6,k7,k8⟩
 refine tails_take (T:=[6,7]) (i:=0) (o:=_) (x:=?_) rfl (by kernel_rfl) (by kernel_rfl) (by kernel_rfl) (by kernel_rfl) (fun _ _ _ h=>h) (Or.inl ⟨by rfl,?_⟩) (by assumption) ?_
 rotate_left; focus (intro w hSw; (try dsimp only at hSw); go_simp; first | done | with_reducible rfl)
 refine tails_take (T:=[6,7]) (i:=1) (o:=_) (x:=?_) rfl (by kernel_rfl) (by kernel_rfl) (by kernel_rfl) (by kernel_rfl) (fun _ _ _ h=>h) (Or.inl ⟨by rfl,?_⟩) (by assumption) ?_
 rotate_left; focus (intro w hSw; (try dsimp only at hSw); go_simp; first | done | with_reducible rfl)
 refine tails_take (T:=[6,7]) (i:=3) (o:=_) (x:=?_) rfl (by kernel_rfl) (by kernel_rfl) (by kernel_rfl) (by kernel_rfl) (fun _ _ _ h=>h) (Or.inl ⟨by rfl,?_⟩) (by assumption) ?_
 rotate_left; focus (intro w hSw; (try dsimp only at hSw); go_simp; first | done | with_reducible rfl)
 refine tails_take (T:=[6,7]) (i:=4) (o:=_) (x:=?_) rfl (by kernel_rfl) (by kernel_rfl) (by kernel_rfl) (by kernel_rfl) (fun _ _ _ h=>h) (Or.inl ⟨by rfl,?_⟩) (by assumption) ?_
 rotate_left; focus (intro w hSw; (try dsimp only at hSw); go_simp; first | done | with_reducible rfl)
 refine tails_one (T:=[6,7]) (i:=2) (o:=_) rfl (by kernel_rfl) (fun K hK=>?_)
 go_simp
 ((with_reducible refine (cS.out _).mono ?_); rintro rr w7 ⟨rfl,hb⟩; replace M:=Lib.hid (M.out.below hb); clear hb k1 k2 k3 k4 k5 k6 k7 k8; obtain⟨k1,k2⟩:=(M.out.blocks (w2.heap.size,#[.float .f64 sl,.float .f64 sh]) (by simp)).two; obtain⟨k3,k4⟩:=(M.out.blocks (w3.heap.size,#[.float .f64 tl,.float .f64 th]) (by simp)).two; obtain⟨k5,k6⟩:=(M.out.blocks (w2.heap.size+1,#[.float .f64 kl,.float .f64 kh]) (by simp)).two; obtain⟨k7,k8⟩:=(M.out.blocks (w3.heap.size+1,#[.float .f64 vl,.float .f64 vh]) (by simp)).two)
 try go_wp2_with fail
 refine hK.out _ _ (Or.inr ⟨k1,k2,k3,k4,k5,k6,k7,k8⟩) (fun hHeld=>?_)
 clear hK K hS
 have hS:=hHeld.resolve_left (by decide)
 clear hHeld
 refine tails_one (T:=[6,7]) (i:=5) (o:=_) rfl (by kernel_rfl) (fun K hK=>?_)
 go_simp
 ((with_reducible refine (cK.out _).mono ?_); rintro rr w7 ⟨rfl,hb⟩; replace M:=Lib.hid (M.out.below hb); clear hb k1 k2 k3 k4 k5 k6 k7 k8; obtain⟨k1,k2⟩:=(M.out.blocks (w2.heap.size,#[.float .f64 sl,.float .f64 sh]) (by simp)).two; obtain⟨k3,k4⟩:=(M.out.blocks (w3.heap.size,#[.float .f64 tl,.float .f64 th]) (by simp)).two; obtain⟨k5,k6⟩:=(M.out.blocks (w2.heap.size+1,#[.float .f64 kl,.float .f64 kh]) (by simp)).two; obtain⟨k7,k8⟩:=(M.out.blocks (w3.heap.size+1,#[.float .f64 vl,.float .f64 vh]) (by simp)).two)
 try go_wp2_with fail
 refine hK.out _ _ (Or.inr ⟨k1,k2,k3,k4,k5,k6,k7,k8⟩) (fun hHeld=>?_)
 clear hK K hS
 have hS:=hHeld.resolve_left (by decide)
 clear hHeld
 clear k1 k2 k3 k4 k5 k6 k7 k8 hS
 refine tails_one (T:=[6,7]) (i:=6) (o:=_) rfl (by kernel_rfl) (fun K hK=>?_)
 have kc:=(M.out.blocks (w2.heap.size,#[.float .f64 sl,.float .f64 sh]) (by simp)).2.1
 have kf:=(M.out.blocks (w2.heap.size,#[.float .f64 sl,.float .f64 sh]) (by simp)).2.2
 replace M:=Lib.hid (M.out.sets (M.out.blocks (w2.heap.size,#[.float .f64 sl,.float .f64 sh]) (by simp)) (.float .f64 pl) (.float .f64 ph) (by omega) [(w1.heap.size,#[.int .i64 0]),(w2.heap.size,#[.float .f64 pl,.float .f64 ph]),(w2.heap.size+1,#[.float .f64 kl,.float .f64 kh]),(w3.heap.size,#[.float .f64 tl,.float .f64 th]),(w3.heap.size+1,#[.float .f64 vl,.float .f64 vh]),(w.heap.size+1+1,#[.float .f64 0,.float .f64 0]),(w.heap.size+1,#[.float .f64 0,.float .f64 0]),(w.heap.size,#[.float .f64 al,.float .f64 ah])] (by simp; omega))
 go_simp
 refine hK.out _ _ (Or.inl (by decide)) (fun hHeld=>?_)
 clear hK K hHeld kc kf
 refine tails_one (T:=[6,7]) (i:=7) (o:=_) rfl (by kernel_rfl) (fun K hK=>?_)
 have kc:=(M.out.blocks (w2.heap.size+1,#[.float .f64 kl,.float .f64 kh]) (by simp)).2.1
 have kf:=(M.out.blocks (w2.heap.size+1,#[.float .f64 kl,.float .f64 kh]) (by simp)).2.2
 replace M:=Lib.hid (M.out.sets (M.out.blocks (w2.heap.size+1,#[.float .f64 kl,.float .f64 kh]) (by simp)) (.float .f64 ql) (.float .f64 qh) (by omega) [(w1.heap.size,#[.int .i64 0]),(w2.heap.size,#[.float .f64 pl,.float .f64 ph]),(w2.heap.size+1,#[.float .f64 ql,.float .f64 qh]),(w3.heap.size,#[.float .f64 tl,.float .f64 th]),(w3.heap.size+1,#[.float .f64 vl,.float .f64 vh]),(w.heap.size+1+1,#[.float .f64 0,.float .f64 0]),(w.heap.size+1,#[.float .f64 0,.float .f64 0]),(w.heap.size,#[.float .f64 al,.float .f64 ah])] (by simp; omega))
 go_simp
 refine hK.out _ _ (Or.inl (by decide)) (fun hHeld=>?_)
 clear hK K hHeld kc kf
 refine tails_done (by kernel_rfl) ?_ _
 refine NoPanic.normal ?_
 replace M:Hid (Mem w [(w1.heap.size,#[.int .i64 0]),(w2.heap.size,#[.float .f64 pl,.float .f64 ph]),(w2.heap.size+1,#[.float .f64 ql,.float .f64 qh]),(w.heap.size+1+1,#[.float .f64 0,.float .f64 0]),(w.heap.size+1,#[.float .f64 0,.float .f64 0]),(w.heap.size,#[.float .f64 al,.float .f64 ah])] _):=Lib.hid (M.out.sub (by simp))
 obtain⟨k1,k2⟩:=(M.out.blocks (w.heap.size,#[.float .f64 al,.float .f64 ah]) (by simp)).two
 go_wp2_with fail
 refine (h1.out _).mono ?_
 rintro r w5 ⟨rfl,hb⟩
 replace M:=Lib.hid (M.out.below hb)
 clear hb k1 k2
 go_upto_if 44 with (fail)
 go_cut [] (MemIs w [(w1.heap.size,#[.int .i64 0]),(w2.heap.size,#[.float .f64 xl,.float .f64 xh]),(w2.heap.size+1,#[.float .f64 ql,.float .f64 qh]),(w.heap.size+1+1,#[.float .f64 0,.float .f64 0]),(w.heap.size+1,#[.float .f64 0,.float .f64 0]),(w.heap.size,#[.float .f64 al,.float .f64 ah])])
 case first =>
   cases b1
   · obtain⟨d1,d2⟩:xl=pl∧xh=ph:=e1.out
     subst d1 d2
     go_wp2_with fail
     go_meet
     exact M.out
   · obtain⟨d1,d2⟩:xl=gl∧xh=gh:=e1.out
     subst d1 d2
     go_upto_region 8 with fail
     replace M:=Lib.hid M.out.drew
     obtain⟨k1,k2⟩:=(M.out.blocks (w2.heap.size,#[.float .f64 pl,.float .f64 ph]) (by simp)).two
     refine wp_region_noPanic ?_
     refine tails_region (S:=fun w'=>w'.cell? ⟨w2.heap.size,0,none⟩=some (.float .f64 pl)∧w'.cell? ⟨w2.heap.size,1,none⟩=some (.float .f64 ph)) [3] (by kernel_rfl) ?_ (fun hS=>?_)
     · exact ⟨k1,k2⟩
     refine tails_take (T:=[3]) (i:=0) (o:=_) (x:=?_) rfl (by kernel_rfl) (by kernel_rfl) (by kernel_rfl) (by kernel_rfl) (fun _ _ _ h=>h) (Or.inl ⟨by rfl,?_⟩) (by assumption) ?_
     rotate_left; focus (intro w hSw; (try dsimp only at hSw); go_simp; first | done | with_reducible rfl)
     refine tails_one (T:=[3]) (i:=1) (o:=_) rfl (by kernel_rfl) (fun K hK=>?_)
     go_simp
     ((with_reducible refine (cN1.out _ _ (M.out.blocks (w1.heap.size,#[.int .i64 0]) (by simp))).mono ?_); rintro rr w7 ⟨rfl,hb⟩; replace M:=Lib.hid (M.out.put hb (by omega) (by simp; omega)); clear hb k1 k2; obtain⟨k1,k2⟩:=(M.out.blocks (w2.heap.size,#[.float .f64 pl,.float .f64 ph]) (by simp)).two)
     try go_wp2_with fail
     refine hK.out _ _ (Or.inr ⟨k1,k2⟩) (fun hHeld=>?_)
     clear hK K hS
     have hS:=hHeld.resolve_left (by decide)
     clear hHeld
     refine tails_one (T:=[3]) (i:=2) (o:=_) rfl (by kernel_rfl) (fun K hK=>?_)
     go_simp
     ((with_reducible refine (c1.out _).mono ?_); rintro rr w7 ⟨rfl,hb⟩; replace M:=Lib.hid (M.out.below hb); clear hb k1 k2; obtain⟨k1,k2⟩:=(M.out.blocks (w2.heap.size,#[.float .f64 pl,.float .f64 ph]) (by simp)).two)
     try go_wp2_with fail
     refine hK.out _ _ (Or.inr ⟨k1,k2⟩) (fun hHeld=>?_)
     clear hK K hS
     have hS:=hHeld.resolve_left (by decide)
     clear hHeld
     clear k1 k2 hS
     refine tails_one (T:=[3]) (i:=3) (o:=_) rfl (by kernel_rfl) (fun K hK=>?_)
     have kc:=(M.out.blocks (w2.heap.size,#[.float .f64 pl,.float .f64 ph]) (by simp)).2.1
     have kf:=(M.out.blocks (w2.heap.size,#[.float .f64 pl,.float .f64 ph]) (by simp)).2.2
     replace M:=Lib.hid (M.out.sets (M.out.blocks (w2.heap.size,#[.float .f64 pl,.float .f64 ph]) (by simp)) (.float .f64 xl) (.float .f64 xh) (by omega) [(w1.heap.size,#[.int .i64 0]),(w2.heap.size,#[.float .f64 xl,.float .f64 xh]),(w2.heap.size+1,#[.float .f64 ql,.float .f64 qh]),(w.heap.size+1+1,#[.float .f64 0,.float .f64 0]),(w.heap.size+1,#[.float .f64 0,.float .f64 0]),(w.heap.size,#[.float .f64 al,.float .f64 ah])] (by simp; omega))
     go_simp
     refine hK.out _ _ (Or.inl (by decide)) (fun hHeld=>?_)
     clear hK K hHeld kc kf
     refine tails_done (by kernel_rfl) ?_ _
     refine NoPanic.normal ?_
     go_wp2_with fail
     go_meet
     exact M.out
 case rest =>
   obtain⟨w4,rfl⟩:∃ x:World,x=wc:=⟨_,rfl⟩
   have M':=hcut
   unfold MemIs at M'
   clear M
   have M:=Lib.hid M'
   clear M' hcut
   obtain⟨k1,k2⟩:=(M.out.blocks (w.heap.size,#[.float .f64 al,.float .f64 ah]) (by simp)).two
   go_wp2_with fail
   refine (h2.out _).mono ?_
   rintro r w5 ⟨rfl,hb⟩
   replace M:=Lib.hid (M.out.below hb)
   clear hb k1 k2
   go_upto_if 49 with (fail)
   go_cut [] (MemIs w [(w1.heap.size,#[.int .i64 0]),(w2.heap.size,#[.float .f64 yl,.float .f64 yh]),(w2.heap.size+1,#[.float .f64 ql,.float .f64 qh]),(w.heap.size+1+1,#[.float .f64 0,.float .f64 0]),(w.heap.size+1,#[.float .f64 0,.float .f64 0]),(w.heap.size,#[.float .f64 al,.float .f64 ah])])
   case first =>
     cases b2
     · obtain⟨d1,d2⟩:yl=xl∧yh=xh:=e2.out
       subst d1 d2
       go_wp2_with fail
       go_meet
       exact M.out
     · obtain⟨d1,d2⟩:yl=il∧yh=ih:=e2.out
       subst d1 d2
       go_upto_region 10 with fail
       replace M:=Lib.hid M.out.drew
       obtain⟨k1,k2⟩:=(M.out.blocks (w2.heap.size,#[.float .f64 xl,.float .f64 xh]) (by simp)).two
       refine wp_region_noPanic ?_
       refine tails_region (S:=fun w'=>w'.cell? ⟨w2.heap.size,0,none⟩=some (.float .f64 xl)∧w'.cell? ⟨w2.heap.size,1,none⟩=some (.float .f64 xh)) [3] (by kernel_rfl) ?_ (fun hS=>?_)
       · exact ⟨k1,k2⟩
       refine tails_take (T:=[3]) (i:=0) (o:=_) (x:=?_) rfl (by kernel_rfl) (by kernel_rfl) (by kernel_rfl) (by kernel_rfl) (fun _ _ _ h=>h) (Or.inl ⟨by rfl,?_⟩) (by assumption) ?_
       rotate_left; focus (intro w hSw; (try dsimp only at hSw); go_simp; first | done | with_reducible rfl)
       refine tails_one (T:=[3]) (i:=1) (o:=_) rfl (by kernel_rfl) (fun K hK=>?_)
       go_simp
       ((with_reducible refine (cN2.out _ _ (M.out.blocks (w1.heap.size,#[.int .i64 0]) (by simp))).mono ?_); rintro rr w7 ⟨rfl,hb⟩; replace M:=Lib.hid (M.out.put hb (by omega) (by simp; omega)); clear hb k1 k2; obtain⟨k1,k2⟩:=(M.out.blocks (w2.heap.size,#[.float .f64 xl,.float .f64 xh]) (by simp)).two)
       try go_wp2_with fail
       refine hK.out _ _ (Or.inr ⟨k1,k2⟩) (fun hHeld=>?_)
       clear hK K hS
       have hS:=hHeld.resolve_left (by decide)
       clear hHeld
       refine tails_one (T:=[3]) (i:=2) (o:=_) rfl (by kernel_rfl) (fun K hK=>?_)
       go_simp
       ((with_reducible refine (c2.out _).mono ?_); rintro rr w7 ⟨rfl,hb⟩; replace M:=Lib.hid (M.out.below hb); clear hb k1 k2; obtain⟨k1,k2⟩:=(M.out.blocks (w2.heap.size,#[.float .f64 xl,.float .f64 xh]) (by simp)).two)
       try go_wp2_with fail
       refine hK.out _ _ (Or.inr ⟨k1,k2⟩) (fun hHeld=>?_)
       clear hK K hS
       have hS:=hHeld.resolve_left (by decide)
       clear hHeld
       clear k1 k2 hS
       refine tails_one (T:=[3]) (i:=3) (o:=_) rfl (by kernel_rfl) (fun K hK=>?_)
       have kc:=(M.out.blocks (w2.heap.size,#[.float .f64 xl,.float .f64 xh]) (by simp)).2.1
       have kf:=(M.out.blocks (w2.heap.size,#[.float .f64 xl,.float .f64 xh]) (by simp)).2.2
       replace M:=Lib.hid (M.out.sets (M.out.blocks (w2.heap.size,#[.float .f64 xl,.float .f64 xh]) (by simp)) (.float .f64 yl) (.float .f64 yh) (by omega) [(w1.heap.size,#[.int .i64 0]),(w2.heap.size,#[.float .f64 yl,.float .f64 yh]),(w2.heap.size+1,#[.float .f64 ql,.float .f64 qh]),(w.heap.size+1+1,#[.float .f64 0,.float .f64 0]),(w.heap.size+1,#[.float .f64 0,.float .f64 0]),(w.heap.size,#[.float .f64 al,.float .f64 ah])] (by simp; omega))
       go_simp
       refine hK.out _ _ (Or.inl (by decide)) (fun hHeld=>?_)
       clear hK K hHeld kc kf
       refine tails_done (by kernel_rfl) ?_ _
       refine NoPanic.normal ?_
       go_wp2_with fail
       go_meet
       exact M.out
   case rest =>
     obtain⟨w4,rfl⟩:∃ x:World,x=wc:=⟨_,rfl⟩
     have M':=hcut
     unfold MemIs at M'
     clear M
     have M:=Lib.hid M'
     clear M' hcut
     obtain⟨k1,k2⟩:=(M.out.blocks (w.heap.size,#[.float .f64 al,.float .f64 ah]) (by simp)).two
     go_wp2_with fail
     refine (h3.out _).mono ?_
     rintro r w5 ⟨rfl,hb⟩
     replace M:=Lib.hid (M.out.below hb)
     clear hb k1 k2
     go_upto_if 54 with (fail)
     go_cut [] (MemIs w [(w1.heap.size,#[.int .i64 0]),(w2.heap.size,#[.float .f64 yl,.float .f64 yh]),(w2.heap.size+1,#[.float .f64 zl,.float .f64 zh]),(w.heap.size+1+1,#[.float .f64 0,.float .f64 0]),(w.heap.size+1,#[.float .f64 0,.float .f64 0]),(w.heap.size,#[.float .f64 al,.float .f64 ah])])
     case first =>
       cases b3
       · obtain⟨d1,d2⟩:zl=ql∧zh=qh:=e3.out
         subst d1 d2
         go_wp2_with fail
         go_meet
         exact M.out
       · obtain⟨d1,d2⟩:zl=jl∧zh=jh:=e3.out
         subst d1 d2
         go_upto_region 12 with fail
         replace M:=Lib.hid M.out.drew
         obtain⟨k1,k2⟩:=(M.out.blocks (w2.heap.size+1,#[.float .f64 ql,.float .f64 qh]) (by simp)).two
         refine wp_region_noPanic ?_
         refine tails_region (S:=fun w'=>w'.cell? ⟨w2.heap.size+1,0,none⟩=some (.float .f64 ql)∧w'.cell? ⟨w2.heap.size+1,1,none⟩=some (.float .f64 qh)) [3] (by kernel_rfl) ?_ (fun hS=>?_)
         · exact ⟨k1,k2⟩
         refine tails_take (T:=[3]) (i:=0) (o:=_) (x:=?_) rfl (by kernel_rfl) (by kernel_rfl) (by kernel_rfl) (by kernel_rfl) (fun _ _ _ h=>h) (Or.inl ⟨by rfl,?_⟩) (by assumption) ?_
         rotate_left; focus (intro w hSw; (try dsimp only at hSw); go_simp; first | done | with_reducible rfl)
         refine tails_one (T:=[3]) (i:=1) (o:=_) rfl (by kernel_rfl) (fun K hK=>?_)
         go_simp
         ((with_reducible refine (cN2.out _ _ (M.out.blocks (w1.heap.size,#[.int .i64 0]) (by simp))).mono ?_); rintro rr w7 ⟨rfl,hb⟩; replace M:=Lib.hid (M.out.put hb (by omega) (by simp; omega)); clear hb k1 k2; obtain⟨k1,k2⟩:=(M.out.blocks (w2.heap.size+1,#[.float .f64 ql,.float .f64 qh]) (by simp)).two)
         try go_wp2_with fail
         refine hK.out _ _ (Or.inr ⟨k1,k2⟩) (fun hHeld=>?_)
         clear hK K hS
         have hS:=hHeld.resolve_left (by decide)
         clear hHeld
         refine tails_one (T:=[3]) (i:=2) (o:=_) rfl (by kernel_rfl) (fun K hK=>?_)
         go_simp
         ((with_reducible refine (c3.out _).mono ?_); rintro rr w7 ⟨rfl,hb⟩; replace M:=Lib.hid (M.out.below hb); clear hb k1 k2; obtain⟨k1,k2⟩:=(M.out.blocks (w2.heap.size+1,#[.float .f64 ql,.float .f64 qh]) (by simp)).two)
         try go_wp2_with fail
         refine hK.out _ _ (Or.inr ⟨k1,k2⟩) (fun hHeld=>?_)
         clear hK K hS
         have hS:=hHeld.resolve_left (by decide)
         clear hHeld
         clear k1 k2 hS
         refine tails_one (T:=[3]) (i:=3) (o:=_) rfl (by kernel_rfl) (fun K hK=>?_)
         have kc:=(M.out.blocks (w2.heap.size+1,#[.float .f64 ql,.float .f64 qh]) (by simp)).2.1
         have kf:=(M.out.blocks (w2.heap.size+1,#[.float .f64 ql,.float .f64 qh]) (by simp)).2.2
         replace M:=Lib.hid (M.out.sets (M.out.blocks (w2.heap.size+1,#[.float .f64 ql,.float .f64 qh]) (by simp)) (.float .f64 zl) (.float .f64 zh) (by omega) [(w1.heap.size,#[.int .i64 0]),(w2.heap.size,#[.float .f64 yl,.float .f64 yh]),(w2.heap.size+1,#[.float .f64 zl,.float .f64 zh]),(w.heap.size+1+1,#[.float .f64 0,.float .f64 0]),(w.heap.size+1,#[.float .f64 0,.float .f64 0]),(w.heap.size,#[.float .f64 al,.float .f64 ah])] (by simp; omega))
         go_simp
         refine hK.out _ _ (Or.inl (by decide)) (fun hHeld=>?_)
         clear hK K hHeld kc kf
         refine tails_done (by kernel_rfl) ?_ _
         refine NoPanic.normal ?_
         go_wp2_with fail
         go_meet
         exact M.out
     case rest =>
       obtain⟨w4,rfl⟩:∃ x:World,x=wc:=⟨_,rfl⟩
       have M':=hcut
       unfold MemIs at M'
       clear M
       have M:=Lib.hid M'
       clear M' hcut
       obtain⟨k1,k2⟩:=(M.out.blocks (w2.heap.size,#[.float .f64 yl,.float .f64 yh]) (by simp)).two
       obtain⟨k3,k4⟩:=(M.out.blocks (w2.heap.size+1,#[.float .f64 zl,.float .f64 zh]) (by simp)).two
       have k5:=(M.out.blocks (w.heap.size+1,#[.float .f64 0,.float .f64 0]) (by simp)).2.1
       have k6:=(M.out.blocks (w.heap.size+1,#[.float .f64 0,.float .f64 0]) (by simp)).2.2
       have k7:=(M.out.blocks (w.heap.size+1+1,#[.float .f64 0,.float .f64 0]) (by simp)).2.1
       have k8:=(M.out.blocks (w.heap.size+1+1,#[.float .f64 0,.float .f64 0]) (by simp)).2.2
       go_upto_region 13 with fail
       go_region_held3 (fun w'=>w'.cell? ⟨w2.heap.size,0,none⟩=some (.float .f64 yl)∧w'.cell? ⟨w2.heap.size,1,none⟩=some (.float .f64 yh)∧w'.cell? ⟨w2.heap.size+1,0,none⟩=some (.float .f64 zl)∧w'.cell? ⟨w2.heap.size+1,1,none⟩=some (.float .f64 zh)) (((try dsimp only); (repeat' apply And.intro); all_goals (repeat (first | (with_reducible assumption) | ((with_reducible refine keep_undrew ?_); (with_reducible assumption)) | (with_reducible refine keep_drew ?_) | (with_reducible refine keep_alloc _ ?_) | (with_reducible refine keep_set _ (by first | (with_reducible assumption) | omega) ?_)))))
         (fail)
       have M1:=Lib.hid (M.out.sets (M.out.blocks (w.heap.size+1,#[.float .f64 0,.float .f64 0]) (by simp)) (.float .f64 yl) (.float .f64 yh) (by omega) [(w.heap.size+1,#[.float .f64 yl,.float .f64 yh]),(w.heap.size+1+1,#[.float .f64 0,.float .f64 0])] (by simp))
       have M2:=Lib.hid (M1.out.sets (M1.out.nth 1 rfl) (.float .f64 zl) (.float .f64 zh) (by omega) [(w.heap.size+1,#[.float .f64 yl,.float .f64 yh]),(w.heap.size+1+1,#[.float .f64 zl,.float .f64 zh])] (by simp))
       go_wp2
       have M3:=Lib.hid M2.out.drew
       have f1:=(M3.out.nth 0 rfl).2.1
       have g1:=(M3.out.nth 1 rfl).2.1
       exact bodyPost_ret (v:=.tuple #[.agg #[.float .f64 yl,.float .f64 yh],.agg #[.float .f64 zl,.float .f64 zh],.int .i64 0]) (by simp [results,Tryz.results29,go_sem,f1,g1]) rfl ⟨rfl,M3.out.base⟩
end
section
open Go.RowKit
attribute [local go_sem] run_store_float
theorem sinT0 (s c:Res):sinT s c 0=s:=rfl
theorem sinT1 (s c:Res):sinT s c 1=c:=rfl
theorem sinT2 (s c:Res):sinT s c 2=negR s:=rfl
theorem sinT3 (s c:Res):sinT s c 3=negR c:=rfl
theorem sinT4 (s c:Res):sinT s c 4=s:=rfl
theorem cosT0 (s c:Res):cosT s c 0=c:=rfl
theorem cosT1 (s c:Res):cosT s c 1=negR s:=rfl
theorem cosT2 (s c:Res):cosT s c 2=negR c:=rfl
theorem cosT3 (s c:Res):cosT s c 3=s:=rfl
theorem cosT4 (s c:Res):cosT s c 4=c:=rfl
theorem at_sin {x j:Nat} {r:Res} (hj:qN x=j) (hr:sinT (sinS (angleR x (qN x))) (cosS (angleR x (qN x))) j=r):(sinR x).lo=(boundR r).lo∧(sinR x).hi=(boundR r).hi:=by
 have h:sinR x=boundR r:=(congrArg (fun k=>boundR (sinT (sinS (angleR x (qN x))) (cosS (angleR x (qN x))) k)) hj).trans (congrArg boundR hr)
 rw [h]; exact ⟨rfl,rfl⟩
theorem at_cos {x j:Nat} {r:Res} (hj:qN x=j) (hr:cosT (sinS (angleR x (qN x))) (cosS (angleR x (qN x))) j=r):(cosR x).lo=(boundR r).lo∧(cosR x).hi=(boundR r).hi:=by
 have h:cosR x=boundR r:=(congrArg (fun k=>boundR (cosT (sinS (angleR x (qN x))) (cosS (angleR x (qN x))) k)) hj).trans (congrArg boundR hr)
 rw [h]; exact ⟨rfl,rfl⟩
theorem bound_call {r:Res} (h:Fit r):CalcB r.lo r.hi (boundR r).lo (boundR r).hi:=fun w=>bounded_any r.lo r.hi w h.lo h.hi h.rlo h.rhi
theorem ofNum_any {x:Nat} (h:Turn x):CalcO x (sinR x).lo (sinR x).hi (cosR x).lo (cosR x).hi:=fun pb w hC=>by
 have ft:=(angle_in h).fit
 have fs:=(sinS_in h).fit
 have fk:=(cosS_in h).fit
 have f20:Fit (serR (sqrR (angleR x (qN x))) 20):=(ser_in ok20.1 ok20.2 (square_in h) 9 (by decide)).fit
 refine of_walk x (qN x) (angleR x (qN x)).lo (angleR x (qN x)).hi (serR (sqrR (angleR x (qN x))) 20).lo (serR (sqrR (angleR x (qN x))) 20).hi (sinS (angleR x (qN x))).lo (sinS (angleR x (qN x))).hi (cosS (angleR x (qN x))).lo (cosS (angleR x (qN x))).hi
   (negR (sinS (angleR x (qN x)))).lo (negR (sinS (angleR x (qN x)))).hi (negR (cosS (angleR x (qN x)))).lo (negR (cosS (angleR x (qN x)))).hi
   (boundR (sinS (angleR x (qN x)))).lo (boundR (sinS (angleR x (qN x)))).hi (boundR (cosS (angleR x (qN x)))).lo (boundR (cosS (angleR x (qN x)))).hi
   (boundR (negR (sinS (angleR x (qN x))))).lo (boundR (negR (sinS (angleR x (qN x))))).hi (boundR (negR (cosS (angleR x (qN x))))).lo (boundR (negR (cosS (angleR x (qN x))))).hi
   (sinR x).lo (sinR x).hi (cosR x).lo (cosR x).hi pb w hC (qN_le x)
   (Lib.hid fun w=>quarter_any x w h.lt h.right) (Lib.hid fun v hv=>angle_any h pb v hv)
   (Lib.hid fun v hv=>series_any (m:=20) (Or.inr rfl) ft (square_in h) pb v hv) (Lib.hid (calc_mul ft f20 fs pb)) (Lib.hid fun v hv=>series_any (m:=19) (Or.inl rfl) ft (square_in h) pb v hv)
   (Lib.hid (calc_neg fs pb)) (Lib.hid (calc_neg fk pb)) (Lib.hid (bound_call fs)) (Lib.hid (bound_call fk)) (Lib.hid (bound_call (neg_fit fs))) (Lib.hid (bound_call (neg_fit fk))) (Lib.hid ?_)
 have hq:=qN_le x
 rcases (show qN x=0∨qN x=1∨qN x=2∨qN x=3∨qN x=4 by omega) with g | g | g | g | g
 · exact Or.inl ⟨Or.inl g,(at_sin g (sinT0 _ _)).1,(at_sin g (sinT0 _ _)).2,(at_cos g (cosT0 _ _)).1,(at_cos g (cosT0 _ _)).2⟩
 · exact Or.inr (Or.inl ⟨g,(at_sin g (sinT1 _ _)).1,(at_sin g (sinT1 _ _)).2,(at_cos g (cosT1 _ _)).1,(at_cos g (cosT1 _ _)).2⟩)
 · exact Or.inr (Or.inr (Or.inl ⟨g,(at_sin g (sinT2 _ _)).1,(at_sin g (sinT2 _ _)).2,(at_cos g (cosT2 _ _)).1,(at_cos g (cosT2 _ _)).2⟩))
 · exact Or.inr (Or.inr (Or.inr ⟨g,(at_sin g (sinT3 _ _)).1,(at_sin g (sinT3 _ _)).2,(at_cos g (cosT3 _ _)).1,(at_cos g (cosT3 _ _)).2⟩))
 · exact Or.inl ⟨Or.inr g,(at_sin g (sinT4 _ _)).1,(at_sin g (sinT4 _ _)).2,(at_cos g (cosT4 _ _)).1,(at_cos g (cosT4 _ _)).2⟩
def fineB (al ah:Nat):Bool:=ivR al ah&&leB 0 al&&leB ah u1
theorem fine_turn {al ah:Nat} (la:al < 18446744073709551616) (ha:ah < 18446744073709551616) (h:fineB al ah=true):Turn al∧Turn ah∧ivR al ah=true∧val al≤val ah:=by
 unfold fineB leB at h
 simp only [Bool.and_eq_true,decide_eq_true_eq] at h
 obtain⟨⟨h1,h2⟩,h3⟩:=h
 obtain⟨a1,a2,a3⟩:=ivR_parts h1
 rw [val_nil] at h2
 exact ⟨⟨la,a1,h2,Int.le_trans a3 h3⟩,⟨ha,a2,Int.le_trans h2 a3,h3⟩,h1,a3⟩
theorem hull_call {a b:Res} (fa:Fit a) (fb:Fit b):CalcH a.lo a.hi b.lo b.hi (hullR a b).lo (hullR a b).hi:=fun w=>hull_any a.lo a.hi b.lo b.hi w fa.lo fa.hi fb.lo fb.hi fa.rlo fa.rhi fb.rlo fb.rhi
theorem cond_lo (b:Bool) (r s:Res):(if b then r else s).lo=cond b r.lo s.lo∧(if b then r else s).hi=cond b r.hi s.hi:=by cases b <;> exact ⟨rfl,rfl⟩
theorem sin_fits {al ah:Nat} (t1:Turn al) (t2:Turn ah):Fit (sin2 al ah)∧Fit (sin3 al ah)∧Fit (cos2 al ah):=by
 have f2:=hull_fit (sinR_facts t1).1 (sinR_facts t2).1
 refine ⟨f2,?_,hull_fit (cosR_facts t1).1 (cosR_facts t2).1⟩
 unfold sin3
 cases hasB al ah 4598175219545276416
 · exact f2
 · exact hull_fit f2 u1_fit
theorem sin_any (al ah:Nat) (w:World) (la:al < 18446744073709551616) (ha:ah < 18446744073709551616) (h:fineB al ah=true) :
   Calls Tryz.prog 29 #[.agg #[.float .f64 al,.float .f64 ah]] w fun r w'=>r = .returned (.tuple #[.agg #[.float .f64 (sinU al ah).lo,.float .f64 (sinU al ah).hi],.agg #[.float .f64 (cosU al ah).lo,.float .f64 (cosU al ah).hi],.int .i64 0])∧Below w.heap.size w w':=by
 obtain⟨t1,t2,hr,hle⟩:=fine_turn la ha h
 obtain⟨f2,f3,g2⟩:=sin_fits t1 t2
 have cR:=fun w=>ivRight_any al ah w la ha
 rw [hr] at cR
 have o1:(FloatKind.f64.format.order al 0 == some Ordering.lt)=false:=by
   rw [lt_zero al la t1.right]; unfold ltB; rw [val_nil]; have:=t1.lo; exact decide_eq_false (by omega)
 have o2:(FloatKind.f64.format.order ah 4607182418800017408 == some Ordering.gt)=false:=by
   rw [order_gt ah _ ha (by decide) t2.right (by decide)]; have:=t2.hi; exact decide_eq_false (by show ¬ val u1 < val ah; omega)
 exact sin_walk al ah (sinR al).lo (sinR al).hi (cosR al).lo (cosR al).hi (sinR ah).lo (sinR ah).hi (cosR ah).lo (cosR ah).hi (sin2 al ah).lo (sin2 al ah).hi (cos2 al ah).lo (cos2 al ah).hi (sin3 al ah).lo (sin3 al ah).hi (sinU al ah).lo (sinU al ah).hi
   (hullR (sin2 al ah) (oneR u1)).lo (hullR (sin2 al ah) (oneR u1)).hi (hullR (sin3 al ah) (oneR m1)).lo (hullR (sin3 al ah) (oneR m1)).hi (hullR (cos2 al ah) (oneR m1)).lo (hullR (cos2 al ah) (oneR m1)).hi
   (hasB al ah 4598175219545276416) (hasB al ah 4604930618986332160) (hasB al ah 4602678819172646912) w (Lib.hid cR) o1 o2 (Lib.hid (ofNum_any t1)) (Lib.hid (ofNum_any t2))
   (Lib.hid (hull_call (sinR_facts t1).1 (sinR_facts t2).1)) (Lib.hid (hull_call (cosR_facts t1).1 (cosR_facts t2).1))
   (Lib.hid fun w=>has_any al ah _ w la ha) (Lib.hid fun w=>has_any al ah _ w la ha) (Lib.hid fun w=>has_any al ah _ w la ha)
   (Lib.hid fun pb=>calc_num u1_fit pb) (Lib.hid fun pb=>calc_num m1_fit pb)
   (Lib.hid (hull_call f2 u1_fit)) (Lib.hid (hull_call f3 m1_fit)) (Lib.hid (hull_call g2 m1_fit))
   (Lib.hid (cond_lo _ _ _)) (Lib.hid (cond_lo _ _ _)) (cosU al ah).lo (cosU al ah).hi (Lib.hid (cond_lo _ _ _))
end
section
open Go.RowKit
attribute [local go_sem] run_store_float
end
section
open Go.RowKit
theorem right_one:rightB 4607182418800017408=true:=by decide
end
section
open Go.RowKit
theorem and_2047:∀ n:Nat,n < 2048→bits .and .i64 (n:Int) 2047=(n:Int):=by decide +kernel
theorem andNot_field (a:Nat) (ha:a < 9223372036854775808):bits .andNot .u64 (a:Int) 9218868437227405312=((a % 4503599627370496:Nat):Int):=by
 rw [show (9218868437227405312:Int)=((9218868437227405312:Nat):Int) from rfl,bits_andNot_u64_nat a _ (by omega) (by decide)]
 congr 1
 have e:(18446744073709551615 - 9218868437227405312:Nat)=2 ^ 63 ||| (2 ^ 52 - 1):=by decide
 rw [e,Nat.and_or_distrib_left,Nat.and_two_pow_sub_one_eq_mod]
 have h:a &&& 2 ^ 63=0:=by
   have h1:=and_two_pow_eq a 63
   rw [h1,Nat.div_eq_of_lt (by omega)]
 rw [h,Nat.zero_or]
theorem or_field (a k:Nat) (ha:a < 4503599627370496) (hk:k < 2048):bits .or .u64 ((a:Nat):Int) ((k*4503599627370496:Nat):Int)=((k*4503599627370496+a:Nat):Int):=by
 rw [bits_or_u64_nat _ _ (by omega) (by omega)]
 congr 1
 rw [Nat.or_comm]
 have:=or_add k a 52 (by omega)
 exact this
theorem val_least_normal:val 4503599627370496=4503599627370496:=by decide
theorem ldexp_zero (e:Int) (w:World):Calls Tryz.prog 83 #[.float .f64 0,.int .i64 e] w fun r w'=>r = .returned (.float .f64 0)∧w=w':=by
 have o1:(FloatKind.f64.format.order 0 0 == some Ordering.eq)=true:=by decide +kernel
 go_enter Tryz.func83,Tryz.ntmps83
 go_wp2
 go_ret
 exact ⟨rfl,rfl⟩
end
section
open Go.RowKit
attribute [local go_sem] run_store_float
end
section
open Go.RowKit
end
section
open Go.RowKit
theorem val_tiny (c:Nat) (h:2 ^ dr≤steps c):4503599627370496≤c:=by
 rcases Nat.lt_or_ge c 4503599627370496 with g | g
 · exfalso
   have h1:=steps_le (Nat.le_of_lt g)
   have e:steps 4503599627370496=2 ^ 52:=by decide
   have h2:(2:Nat) ^ 52 < 2 ^ dr:=Nat.pow_lt_pow_right (by decide) (by rw [dr_eq]; decide)
   omega
 · exact g
theorem steps_one:steps 4607182418800017408=2 ^ sq:=by decide +kernel
theorem whole_of (c:Nat) (h:9007199254740992*2 ^ dr≤steps c):∃ m,steps c=m*2 ^ dr:=by
 obtain⟨m,k,hk,hm⟩:=steps_form c
 have hkd:dr≤k:=by
   rcases Nat.lt_or_ge k dr with g | g
   · exfalso
     have h1:2 ^ k≤2 ^ dr:=Nat.pow_le_pow_right (by decide) (Nat.le_of_lt g)
     have h2:m*2 ^ k≤m*2 ^ dr:=Nat.mul_le_mul_left _ h1
     have h3:m*2 ^ dr < 9007199254740992*2 ^ dr:=Nat.mul_lt_mul_of_pos_right hm (Nat.two_pow_pos _)
     omega
   · exact g
 exact ⟨m*2 ^ (k - dr),by rw [hk,Nat.mul_assoc,←Nat.pow_add,Nat.sub_add_cancel hkd]⟩
structure OfFacts (u:Nat):Prop where
 lo:ofLo u < 9218868437227405312
 hi:ofHi u < 9218868437227405312
 below:steps (ofLo u)≤u*2 ^ dr
 above:u*2 ^ dr≤steps (ofHi u)
 one:steps (ofHi u)≤2 ^ sq
 less:steps (ofLo u) < 2 ^ sq
 lonorm:ofLo u=0∨4503599627370496≤ofLo u
 hinorm:ofHi u=0∨4503599627370496≤ofHi u
 ne:ofLo u≠ofHi u→steps (ofLo u) < u*2 ^ dr∧u < bnd (ofHi u)
 next:addE (ofLo u) 1 true=0∧addW (ofLo u) 1 true < 18446744073709551616∧rightB (addW (ofLo u) 1 true)=true∧(ofLo u≠ofHi u→ofHi u=addW (ofLo u) 1 true)
theorem of_facts (u:Nat) (hu:u < 18446744073709551616):OfFacts u:=by
 obtain⟨hd,hup,_,_⟩:=of_tight u hu
 obtain⟨a1,a2,a3,a4⟩:=hd.ok
 obtain⟨b1,b2,b3,b4⟩:=hup.ok
 rw [show ((1:Nat):Int)=1 from rfl,Int.mul_one] at a3 b3
 have z:=a4 0 (by decide) right_0 (by rw [val_0]; omega)
 rw [val_0] at z
 have lo:=pos_word _ a1 a2 z
 have hpos:0≤val (ofHi u):=by omega
 have hi:=pos_word _ b1 b2 hpos
 obtain⟨_,_,_,_,lv⟩:=pos_facts _ lo
 obtain⟨_,_,_,_,hv⟩:=pos_facts _ hi
 rw [lv] at a3
 rw [hv] at b3
 have below:steps (ofLo u)≤u*2 ^ dr:=Int.ofNat_le.1 a3
 have above:u*2 ^ dr≤steps (ofHi u):=Int.ofNat_le.1 b3
 have hlt:u*2 ^ dr < 2 ^ sq:=by rw [one_dr]; exact Nat.mul_lt_mul_of_pos_right hu (Nat.two_pow_pos _)
 have one:steps (ofHi u)≤2 ^ sq:=by
   have:=b4 4607182418800017408 (by decide) right_one (by rw [val_one]; omega)
   rw [hv,val_one] at this
   exact Int.ofNat_le.1 this
 -- a number that is just the draw
 have exact_of:∀ c,c < 9218868437227405312→steps c=u*2 ^ dr→ofLo u=c∧ofHi u=c:=by
   intro c hc hs
   obtain⟨c1,c2,_,_,c5⟩:=pos_facts c hc
   have e:val c=((u*2 ^ dr:Nat):Int):=by rw [c5,hs]
   have h1:=a4 c c1 c2 (by rw [e]; omega)
   have h2:=b4 c c1 c2 (by rw [e]; omega)
   exact ⟨val_inj a1 c1 a2 c2 (by omega),val_inj b1 c1 b2 c2 (by omega)⟩
 have lonorm:ofLo u=0∨4503599627370496≤ofLo u:=by
   by_cases h0:u=0
   · left; exact (exact_of 0 (by decide) (by rw [h0,Nat.zero_mul]; rfl)).1
   · right
     obtain⟨c,hc,hs⟩:=num_at 1 dr (by decide) (by rw [dr_eq]; decide) (by rw [dr_eq]; decide)
     obtain⟨c1,c2,_,_,c5⟩:=pos_facts c hc
     rw [Nat.one_mul] at hs
     have h1:1*2 ^ dr≤u*2 ^ dr:=Nat.mul_le_mul_right _ (by omega)
     have h2:=a4 c c1 c2 (by rw [c5,hs]; omega)
     rw [c5,hs,lv] at h2
     exact val_tiny _ (Int.ofNat_le.1 h2)
 have big:ofLo u≠ofHi u→9007199254740992≤u:=by
   intro hne
   rcases Nat.lt_or_ge u 9007199254740992 with g | g
   · exfalso
     obtain⟨c,hc,hs⟩:=num_at u dr g (by rw [dr_eq]; decide) (by rw [dr_eq]; decide)
     obtain⟨e1,e2⟩:=exact_of c hc hs
     exact hne (e1.trans e2.symm)
   · exact g
 have ne:ofLo u≠ofHi u→steps (ofLo u) < u*2 ^ dr∧u*2 ^ dr < steps (ofHi u):=by
   intro hne
   refine ⟨?_,?_⟩
   · rcases Nat.eq_or_lt_of_le below with h | h
     · exact absurd (exact_of _ lo h).2.symm hne
     · exact h
   · rcases Nat.eq_or_lt_of_le above with h | h
     · exact absurd (exact_of _ hi h.symm).1 hne
     · exact h
 refine ⟨lo,hi,below,above,one,by omega,lonorm,?_,?_,?_⟩
 · by_cases h0:u=0
   · left; exact (exact_of 0 (by decide) (by rw [h0,Nat.zero_mul]; rfl)).2
   · right
     have h1:1*2 ^ dr≤u*2 ^ dr:=Nat.mul_le_mul_right _ (by omega)
     exact val_tiny _ (by omega)
 · intro hne
   obtain⟨n1,n2⟩:=ne hne
   refine ⟨n1,?_⟩
   have hb:=big hne
   have h1:9007199254740992*2 ^ dr≤u*2 ^ dr:=Nat.mul_le_mul_right _ hb
   obtain⟨m,hm⟩:=whole_of (ofHi u) (by omega)
   unfold bnd
   rw [hm,Nat.mul_div_cancel _ (Nat.two_pow_pos _)]
   rw [hm] at n2
   exact Nat.lt_of_mul_lt_mul_right n2
 · rcases next_up (ofLo u) a2 with ⟨n1,n2,n3,n4,n5⟩ | ⟨_,n2⟩
   · refine ⟨n1,n2,n3,fun hne=>?_⟩
     obtain⟨m1,m2⟩:=ne hne
     have h1:((u*2 ^ dr:Nat):Int) < val (addW (ofLo u) 1 true):=by
       rcases Int.lt_or_le ((u*2 ^ dr:Nat):Int) (val (addW (ofLo u) 1 true)) with g | g
       · exact g
       · have:=a4 _ n2 n3 (by omega); omega
     have h2:=b4 _ n2 n3 (by omega)
     have h3:=n5 (ofHi u) b1 b2 (by rw [lv,hv]; omega)
     exact val_inj b1 n2 b2 n3 (by omega)
   · exfalso
     have:=n2 4607182418800017408 (by decide) right_one
     rw [val_one,lv] at this
     omega
end
section
open Go.RowKit
attribute [local go_sem] run_store_float
end
section
open Go.RowKit
theorem usteps_shift (F k K:Nat) (hK:K=k*4503599627370496) (h:4503599627370496≤F):steps (F+K)=steps F*2 ^ k:=by
 subst hK
 unfold steps
 rw [if_neg (by omega),if_neg (by omega),show (F+k*4503599627370496) / 4503599627370496 - 1=F / 4503599627370496 - 1+k by omega,show (F+k*4503599627370496) % 4503599627370496=F % 4503599627370496 by omega,Nat.pow_add,←Nat.mul_assoc]
end
section
open Go.RowKit
end
section
open Go.RowKit
attribute [local go_sem] run_store_float
def TopAt (u B j:Nat):Prop:=B=2 ^ j∧j≤11∧(j=0∨9007199254740992≤u / 2 ^ (j - 1))
def TopRel (u:Nat) (v:Value):Prop:=∃ j B:Nat,v = .int .u64 (B:Int)∧TopAt u B j
theorem TopAt.next {u B j:Nat} (h:TopAt u B j) (hu:u < 18446744073709551616) (hg:9007199254740992≤u / B):TopAt u (2*B) (j+1):=by
 obtain⟨h1,h2,h3⟩:=h
 refine ⟨by rw [h1,Nat.pow_succ]; omega,?_,Or.inr (by rw [Nat.add_sub_cancel,←h1]; exact hg)⟩
 rcases Nat.lt_or_ge j 11 with g | g
 · exact g
 · have hj:j=11:=by omega
   have e:B=2048:=by rw [h1,hj]
   rw [e] at hg
   omega
theorem TopAt.bounds {u B j:Nat} (h:TopAt u B j):1≤B∧B≤2048:=by
 obtain⟨h1,h2,_⟩:=h
 have h3:2 ^ j≤2 ^ 11:=Nat.pow_le_pow_right (by decide) h2
 have h4:=Nat.two_pow_pos j
 rw [h1]
 exact ⟨h4,h3⟩
theorem top_walk (u B q r X:Nat) (rest:Bool) (w:World) (hu:u < 18446744073709551616)
   (hend:Hid (∀ j' B',TopAt u B' j'→u / B' < 9007199254740992→B'=B)) (Hq:Hid (u / B=q)) (Hr:Hid (u % B=r))
   (hX:∀ w,(binOp .mul 25 (.float .f64 (floatOfInt .f64 (q:Int))) (.float .f64 (floatOfInt .f64 (B:Int)))).run Tryz.prog w = .ok (.float .f64 X) w)
   (hr:((r:Int) != 0)=rest) :
   Calls Tryz.prog 82 #[.int .u64 u] w fun e w'=>e = .returned (.tuple #[.float .f64 X,.bool rest])∧Below w.heap.size w w':=by
 go_enter Tryz.func82,Tryz.ntmps82
 go_wp2
 go_loop [4] (fun b=>TopRel u b) (fun b=>4096 - (intOf b).toNat)
 case atStart=>exact ⟨0,1,rfl,rfl,by omega,Or.inl rfl⟩
 case round =>
   obtain⟨k,b,rfl,hT⟩:=hrel
   obtain⟨b1,b2⟩:=hT.bounds
   have HT:=Lib.hid hT
   clear hT
   obtain⟨q',hq'⟩:∃ q',u / b=q':=⟨_,rfl⟩
   have hle:q'≤u:=by rw [←hq']; exact Nat.div_le_self _ _
   have h1:(u:Int) / (b:Int)=(q':Int):=by rw [←Int.natCast_ediv,hq']
   have HQ:=Lib.hid hq'
   clear hq'
   by_cases hge:9007199254740992≤q'
   · have HN:=Lib.hid (HT.out.next hu (by rw [HQ.out]; exact hge))
     have g1:decide ((9007199254740992:Int)≤(q':Int))=true:=decide_eq_true (by omega)
     clear hge
     go_wp2
     go_round
     case rel=>exact ⟨k+1,2*b,congrArg (Value.int .u64) (by omega),HN.out⟩
     case measure=>simp [intOf]; omega
   · obtain rfl:=hend.out k b HT.out (by rw [HQ.out]; omega)
     obtain rfl:q'=q:=by rw [←HQ.out,←Hq.out]
     have g1:decide ((9007199254740992:Int)≤(q':Int))=false:=decide_eq_false (by omega)
     have h2:(u:Int) % (b:Int)=(r:Int):=by rw [←Int.natCast_emod,Hr.out]
     clear hge
     go_wp2
     go_quiet (fail)
     go_wp2
     go_ret2
     exact ⟨rfl,Below.drewN (Below.refl _ _) _⟩
end
section
open Go.RowKit
attribute [local go_sem] run_store_float
theorem top_unique {u B B' j j':Nat} (h:TopAt u B j) (hq:u / B < 9007199254740992) (h':TopAt u B' j') (hq':u / B' < 9007199254740992):B'=B:=by
 obtain⟨a1,_,a3⟩:=h
 obtain⟨b1,_,b3⟩:=h'
 have key:∀ i k,i < k→(k=0∨9007199254740992≤u / 2 ^ (k - 1))→u / 2 ^ i < 9007199254740992→False:=by
   intro i k hik h1 h2
   rcases h1 with h1 | h1
   · omega
   · have h3:2 ^ i≤2 ^ (k - 1):=Nat.pow_le_pow_right (by decide) (by omega)
     have h4:=Nat.div_le_div_left (a:=u) h3 (Nat.two_pow_pos i)
     omega
 rcases Nat.lt_trichotomy j j' with g | g | g
 · exact (key j j' g b3 (by rw [←a1]; exact hq)).elim
 · rw [a1,b1,g]
 · exact (key j' j g a3 (by rw [←b1]; exact hq')).elim
theorem top_exists (u:Nat) (hu:u < 18446744073709551616):∃ j B,TopAt u B j∧u / B < 9007199254740992:=by
 have h:∀ n,(∃ j B,TopAt u B j∧u / B < 9007199254740992)∨TopAt u (2 ^ n) n:=by
   intro n
   induction n with
   | zero=>exact Or.inr ⟨rfl,by omega,Or.inl rfl⟩
   | succ n ih =>
     rcases ih with h | h
     · exact Or.inl h
     · by_cases hq:u / 2 ^ n < 9007199254740992
       · exact Or.inl ⟨n,_,h,hq⟩
       · have:=h.next hu (by omega)
         rw [Nat.pow_succ,Nat.mul_comm]
         exact Or.inr this
 rcases h 12 with h | h
 · exact h
 · exact absurd h.2.1 (by decide)
theorem ldexp_m64 (F:Nat) (w:World) (h1:4607182418800017408≤F) (h2:F < 9218868437227405312) :
   Calls Tryz.prog 83 #[.float .f64 F,.int .i64 (-64)] w fun r w'=>r = .returned (.float .f64 (F - 288230376151711744))∧w=w':=by
 obtain⟨f1,f2,f3,f4,f5⟩:=pos_facts F (by omega)
 obtain⟨g1,g2,g3,g4,g5⟩:=pos_facts (F - 288230376151711744) (by omega)
 have hge:4503599627370496≤steps F:=by
   have:=steps_le (show 4503599627370496≤F by omega)
   have e:steps 4503599627370496=4503599627370496:=by decide
   omega
 obtain⟨E,hE⟩:∃ E,E=F / 4503599627370496:=⟨_,rfl⟩
 obtain⟨M,hM⟩:∃ M,M=F % 4503599627370496:=⟨_,rfl⟩
 have hX:(E - 64)*4503599627370496+M=F - 288230376151711744:=by omega
 refine ldexp_at F M ((E - 64)*4503599627370496) (F - 288230376151711744) (F - 288230376151711744) (-64) E (-64+((E:Int) - 1023)) w (by rw [andNot_sign F f1,f4]) ?_ ?_ ?_ ?_ (by rw [hE]; exact (Int.natCast_ediv _ _).symm) (by omega) (by omega) (and_2047 E (by omega)) (by decide) (by decide) rfl (by omega) (by omega)
   (by rw [andNot_field F (by omega),hM]) ?_ ?_ ?_
 · rw [order_eq F 0 f1 (by decide) f2 right_0,val_0]; exact decide_eq_false (by omega)
 · rw [order_gt F _ f1 (by decide) f2 right_max]
   refine decide_eq_false ?_
   have:=val_max F f2
   omega
 · have:=order_eq F F f1 f1 f2 f2
   rw [decide_eq_true rfl] at this
   rw [bne,this]; rfl
 · rw [order_lt F _ f1 (by decide) f2 (by decide),val_least_normal]; exact decide_eq_false (by omega)
 · rw [IntKind.wrap_u64]; omega
 · rw [or_field M (E - 64) (by omega) (by omega),hX]
 · exact mul_exact _ _ _ (by decide) g1 right_one g2 (by omega) (by omega) (by rw [val_one,Int.mul_comm])
theorem ldexp_down (q:Nat) (X:Nat) (hX:X < 9218868437227405312) (hs:steps X=q*2 ^ sq) :
   ∃ L,(∀ w,Calls Tryz.prog 83 #[.float .f64 X,.int .i64 (-64)] w fun r w'=>r = .returned (.float .f64 L)∧w=w')∧L < 9218868437227405312∧steps L=q*2 ^ dr:=by
 by_cases h0:q=0
 · have hz:X=0:=(steps_zero X).1 (by rw [hs,h0,Nat.zero_mul])
   subst hz
   exact ⟨0,fun w=>ldexp_zero (-64) w,by decide,by rw [h0,Nat.zero_mul]; rfl⟩
 · have h1:4607182418800017408≤X:=by
     refine (steps_le_iff _ _).1 ?_
     rw [steps_one,hs]
     have:1*2 ^ sq≤q*2 ^ sq:=Nat.mul_le_mul_right _ (by omega)
     omega
   have hup:=usteps_shift (X - 288230376151711744) 64 288230376151711744 (by decide) (by omega)
   rw [Nat.sub_add_cancel (by omega),hs,one_dr] at hup
   refine ⟨X - 288230376151711744,fun w=>ldexp_m64 X w h1 hX,by omega,?_⟩
   rw [show (2:Nat) ^ 64=18446744073709551616 by decide,Nat.mul_comm (steps _),Nat.mul_left_comm] at hup
   exact (Nat.eq_of_mul_eq_mul_left (by decide) hup).symm
theorem top_word (q B j:Nat) (hq:q < 9007199254740992) (hB:B=2 ^ j) (hj:j≤11) :
   ∃ X,floatBits .mul .f64 (floatOfInt .f64 (q:Int)) (floatOfInt .f64 (B:Int))=some X∧X < 9218868437227405312∧steps X=q*B*2 ^ sq:=by
 have h3:2 ^ j≤2 ^ 11:=Nat.pow_le_pow_right (by decide) hj
 have hB2:B < 9007199254740992:=by rw [hB]; omega
 obtain⟨f1,f2⟩:=from_int q hq
 obtain⟨g1,g2⟩:=from_int B hB2
 obtain⟨a1,a2,_,_,a5⟩:=pos_facts _ f1
 obtain⟨b1,b2,_,_,b5⟩:=pos_facts _ g1
 have hsq:=sq_eq
 obtain⟨c,hc,hcv⟩:=num_at q (j+sq) hq (by omega) (by omega)
 have hcv':steps c=q*B*2 ^ sq:=by rw [hcv,Nat.pow_add,←Nat.mul_assoc,←hB]
 by_cases h0:q=0
 · subst h0
   have e:FloatKind.f64.nearest ((0:Nat):Int)=0:=by decide +kernel
   obtain⟨r,hr,hbe⟩:=mul_beside 0 (FloatKind.f64.nearest (B:Int)) (by decide) b1 (by decide) b2
   refine ⟨0,?_,by decide,by rw [Nat.zero_mul,Nat.zero_mul]; rfl⟩
   unfold floatOfInt
   rw [e]
   show (((Ieee.double.read 0).product (Ieee.double.read (FloatKind.f64.nearest (B:Int)))).map Ieee.double.write)=some 0
   rw [read_num 0 (by decide) (by decide),read_num _ b1 (right_rung _ b2)]
   have m0:mant 0=0:=by decide
   have s0:sgnB 0=false:=by decide
   have sB:sgnB (FloatKind.f64.nearest (B:Int))=false:=(pos_facts _ g1).2.2.1
   unfold Ieee.Datum.product
   rw [m0,s0,sB]
   dsimp only
   rw [Nat.zero_mul]
   rfl
 · obtain⟨_,_,_,_,c5⟩:=pos_facts c hc
   have hne:c≠0:=by
     intro h
     subst h
     have h5:q*2 ^ (j+sq)=0:=hcv.symm
     rcases Nat.mul_eq_zero.1 h5 with h | h
     · omega
     · have:=Nat.two_pow_pos (j+sq); omega
   refine ⟨c,?_,hc,hcv'⟩
   unfold floatOfInt
   refine mul_exact _ _ c a1 b1 a2 b2 hc hne ?_
   rw [a5,b5,c5,f2,g2,hcv',←Int.natCast_mul,←Int.natCast_mul,Nat.mul_mul_mul_comm,Nat.mul_assoc]
theorem top_lo (u j B L:Nat) (hu:u < 18446744073709551616) (hT:TopAt u B j) (hq:u / B < 9007199254740992) (hL:L < 9218868437227405312) (hs:steps L=u / B*B*2 ^ dr):L=ofLo u:=by
 have F:=of_facts u hu
 obtain⟨hd,hup,_,_⟩:=of_tight u hu
 obtain⟨a1,a2,a3,a4⟩:=hd.ok
 obtain⟨l1,l2,_,_,l5⟩:=pos_facts L hL
 obtain⟨_,_,_,_,o5⟩:=pos_facts _ F.lo
 obtain⟨t1,t2,t3⟩:=hT
 have hp:=Nat.two_pow_pos dr
 have hle:u / B*B≤u:=Nat.div_mul_le_self _ _
 have h1:steps L≤u*2 ^ dr:=by rw [hs]; exact Nat.mul_le_mul_right _ hle
 have h2:=a4 L l1 l2 (by rw [l5,show ((1:Nat):Int)=1 from rfl,Int.mul_one]; exact Int.ofNat_le.2 h1)
 rw [l5,o5] at h2
 have h3:L≤ofLo u:=(steps_le_iff _ _).1 (Int.ofNat_le.1 h2)
 have hbel:=F.below
 rcases t3 with h0 | h0
 · have hB:B=1:=by rw [t1,h0]
   rw [hB,Nat.div_one,Nat.mul_one] at hs
   have:steps (ofLo u)≤steps L:=by omega
   have:=(steps_le_iff _ _).1 this
   omega
 · have hjp:j≠0:=by
     intro h
     rw [h] at h0 t1
     rw [t1] at hq
     simp at h0 hq
     omega
   have hq2:4503599627370496≤u / B:=by
     have e:B=2 ^ (j - 1)*2:=by rw [t1,←Nat.pow_succ]; congr 1; omega
     rw [e,←Nat.div_div_eq_div_mul]
     omega
   have hK:steps L=steps ((j+dr)*4503599627370496+u / B):=by
     rw [steps_km _ _ (by omega) (Or.inr hq2),hs,t1,Nat.pow_add,Nat.mul_assoc]
   have hLe:L=(j+dr)*4503599627370496+u / B:=steps_inj hK
   have hN:steps (L+1)=(u / B+1)*B*2 ^ dr:=by
     rw [hLe,Nat.add_assoc,steps_km _ _ (by omega) (Or.inr (by omega)),t1,Nat.pow_add,Nat.mul_assoc]
   have hBp:0 < B:=by rw [t1]; exact Nat.two_pow_pos _
   have h5:u < (u / B+1)*B:=by
     have:=Nat.lt_mul_div_succ u hBp
     rw [Nat.mul_comm] at this
     exact this
   have h6:u*2 ^ dr < steps (L+1):=by rw [hN]; exact Nat.mul_lt_mul_of_pos_right h5 hp
   have h7:¬ L+1≤ofLo u:=fun h=>by have:=steps_le h; omega
   omega
theorem refOf_walk (u X lo hi:Nat) (rest:Bool) (w:World) (cT:Hid (∀ w,Calls Tryz.prog 82 #[.int .u64 u] w fun e w'=>e = .returned (.tuple #[.float .f64 X,.bool rest])∧Below w.heap.size w w'))
   (cL:Hid (∀ w,Calls Tryz.prog 83 #[.float .f64 X,.int .i64 (-64)] w fun r w'=>r = .returned (.float .f64 lo)∧w=w'))
   (cN:Hid (rest=true→∀ w,Calls Tryz.prog 84 #[.float .f64 lo,.bool true] w fun r w'=>r = .returned (.tuple #[.float .f64 hi,.int .i64 0])∧w=w')) (h:Hid (rest=false→hi=lo)) :
   Calls Tryz.prog 39 #[.int .u64 u] w fun r w'=>r = .returned (.agg #[.float .f64 lo,.float .f64 hi])∧Below w.heap.size w w':=by
 go_enter Tryz.func39,Tryz.ntmps39
 go_wp2_with fail
 refine (cT.out _).mono ?_
 rintro r w1 ⟨rfl,hb⟩
 obtain⟨z1,c1,f1,b1⟩:=after1 hb
 have B1:=Lib.hid b1
 clear b1 hb
 go_wp2_with fail
 refine (cL.out _).mono ?_
 rintro r ww ⟨rfl,rfl⟩
 cases rest
 · have hh:hi=lo:=h.out (by simp)
   subst hh
   go_wp2
   refine bodyPost_ret (v:=.agg #[.float .f64 hi,.float .f64 hi]) (by simp [results,Tryz.results39,go_sem,c1]) rfl ⟨rfl,?_⟩
   exact (B1.out.setCell (by show w.heap.size≤w.heap.size; omega) _).setCell (by show w.heap.size≤w.heap.size; omega) _
 · go_wp2_with fail
   refine (cN.out (by simp) _).mono ?_
   rintro r ww ⟨rfl,rfl⟩
   go_wp2
   refine bodyPost_ret (v:=.agg #[.float .f64 lo,.float .f64 hi]) (by simp [results,Tryz.results39,go_sem,c1]) rfl ⟨rfl,?_⟩
   exact (B1.out.setCell (by show w.heap.size≤w.heap.size; omega) _).setCell (by show w.heap.size≤w.heap.size; omega) _
theorem refOf_any (u:Nat) (w:World) (hu:u < 18446744073709551616) :
   Calls Tryz.prog 39 #[.int .u64 u] w fun r w'=>r = .returned (.agg #[.float .f64 (ofLo u),.float .f64 (ofHi u)])∧Below w.heap.size w w':=by
 obtain⟨j,B,hT,hq⟩:=top_exists u hu
 obtain⟨X,x1,x2,x3⟩:=top_word (u / B) B j hq hT.1 hT.2.1
 obtain⟨L,l1,l2,l3⟩:=ldexp_down (u / B*B) X x2 x3
 have hL:=top_lo u j B L hu hT hq l2 l3
 subst hL
 have F:=of_facts u hu
 obtain⟨a1,a2,_,_,a5⟩:=pos_facts _ F.lo
 obtain⟨n1,n2,n3,n4⟩:=F.next
 have hp:=Nat.two_pow_pos dr
 have hdm:=Nat.div_add_mod u B
 rw [Nat.mul_comm] at hdm
 have cN:=fun w=>refNext_any (ofLo u) true w a1
 rw [show tinyW true=1 from rfl,n1] at cN
 refine refOf_walk u X _ _ (((u % B:Nat):Int) != 0) w (Lib.hid fun w=>top_walk u B (u / B) (u % B) X _ w hu (Lib.hid fun j' B' h' hq'=>top_unique hT hq h' hq') (Lib.hid rfl) (Lib.hid rfl) (fun w=>run_float_arith w .mul 25 .f64 _ _ _ x1) rfl) (Lib.hid l1) (Lib.hid ?_) (Lib.hid ?_)
 · intro hr w
   rw [bne_iff_ne] at hr
   have hne:ofLo u≠ofHi u:=by
     intro he
     have h1:=F.above
     rw [←he,l3] at h1
     have h2:u≤u / B*B:=Nat.le_of_mul_le_mul_right h1 hp
     omega
   rw [n4 hne]
   exact cN w
 · intro hr
   rw [bne_eq_false_iff_eq] at hr
   by_cases he:ofLo u=ofHi u
   · exact he.symm
   · exfalso
     have h1:=(F.ne he).1
     rw [l3] at h1
     have h2:=Nat.lt_of_mul_lt_mul_right h1
     omega
end
end Go.Proofs.YtnaomilkgfkegaaGreat
