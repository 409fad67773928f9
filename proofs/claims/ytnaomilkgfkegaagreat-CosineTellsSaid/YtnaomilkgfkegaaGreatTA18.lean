/- What the claim stands on, part 19: QTR. -/
import Derived.Test.YtnaomilkgfkegaaGreatTA17
import Derived.Test.YtnaomilkgfkegaaGreatTA14
import Derived.Test.YtnaomilkgfkegaaGreatTA16
import Derived.Deep.CutRange
import Derived.Deep.CutBlock
set_option maxHeartbeats 4000000
set_option maxRecDepth 100000
namespace Go.Proofs.YtnaomilkgfkegaaGreat
section
open Go.RowKit
attribute [local go_sem] run_store_float
abbrev CalcM (f:FuncId) (pb x:Nat):Prop:=∀ v:World,Has1 v (pb,#[.int .i64 0])→Calls Tryz.prog f #[.pointer (some ⟨pb,0,none⟩),.float .f64 x] v fun r w'=>r = .returned (.agg #[.float .f64 x,.float .f64 x])∧Put ⟨pb,0,none⟩ (.int .i64 0) v w'
theorem rc_num {x:Nat} (f:Fit (oneR x)) (pb:Nat):CalcM 43 pb x:=fun v h=>by
 have c:=rNum_any 0 x pb v f.lo h
 have e:stepI 0 true (ofI x)=⟨0,x,x⟩:=by
   unfold stepI ofI
   rw [if_pos rfl,if_pos rfl,if_pos (show rightB x=true from f.rlo)]
 rw [e] at c
 exact told_none rfl c
theorem rc_add {a b:Res} (fa:Fit a) (fb:Fit b) (fr:Fit (addR a b)) (pb:Nat):Calc2 120 pb a.lo a.hi b.lo b.hi (addR a b).lo (addR a b).hi:=fun v h=>by
 have c:=rAdd_any 0 a.lo a.hi b.lo b.hi pb v fa.lo fa.hi fb.lo fb.hi h
 rw [step_two fa fb] at c
 exact told_none fr.e c
theorem rc_sub {a b:Res} (fa:Fit a) (fb:Fit b) (fr:Fit (subR a b)) (pb:Nat):Calc2 42 pb a.lo a.hi b.lo b.hi (subR a b).lo (subR a b).hi:=fun v h=>by
 have c:=rSub_any 0 a.lo a.hi b.lo b.hi pb v fa.lo fa.hi fb.lo fb.hi h
 rw [step_two fa fb] at c
 exact told_none fr.e c
theorem rc_mul {a b:Res} (fa:Fit a) (fb:Fit b) (fr:Fit (mulR a b)) (pb:Nat):Calc2 45 pb a.lo a.hi b.lo b.hi (mulR a b).lo (mulR a b).hi:=fun v h=>by
 have c:=rMul_any 0 a.lo a.hi b.lo b.hi pb v fa.lo fa.hi fb.lo fb.hi h
 rw [step_two fa fb] at c
 exact told_none fr.e c
theorem rc_div {a b:Res} (fa:Fit a) (fb:Fit b) (fr:Fit (divR a b)) (pb:Nat):Calc2 167 pb a.lo a.hi b.lo b.hi (divR a b).lo (divR a b).hi:=fun v h=>by
 have c:=rDiv_any 0 a.lo a.hi b.lo b.hi pb v fa.lo fa.hi fb.lo fb.hi h
 rw [step_two fa fb] at c
 exact told_none fr.e c
theorem rc_sqr {a:Res} (fa:Fit a) (fr:Fit (sqrR a)) (pb:Nat):Calc1 166 pb a.lo a.hi (sqrR a).lo (sqrR a).hi:=fun v h=>by
 have c:=rSqr_any 0 a.lo a.hi pb v fa.lo fa.hi h
 rw [step_one fa] at c
 exact told_none fr.e c
theorem rc_neg {a:Res} (fa:Fit a) (pb:Nat):Calc1 123 pb a.lo a.hi (negR a).lo (negR a).hi:=fun v h=>by
 have c:=rNeg_any 0 a.lo a.hi pb v fa.lo fa.hi h
 rw [step_one fa] at c
 exact told_none rfl c
theorem Env.second {w v:World} {pb q:Nat} {l:List (Nat×Array Value)} {a b:Value} (h:Env w pb ((q,#[a,b]) :: l) v) (hq:w.heap.size≤q) (hl:∀ p,p∈l→q≠p.1) (y:Value) :
   Env w pb ((q,#[a,y]) :: l) (v.setCell ⟨q,1,none⟩ y) where
 put:=by
   have hb:Below w.heap.size (w.setCell ⟨pb,0,none⟩ (.int .i64 0)) v:=h.put
   exact hb.setCell hq _
 cal:=h.cal.set (Ne.symm (h.ne 0 rfl))
 blocks:=fun p hp=>by
   rcases List.mem_cons.1 hp with e | e
   · subst e
     exact ⟨(h.nth 0 rfl).setIn 1 y,(h.ne 0 rfl:pb≠(q,#[a,b]).1)⟩
   · exact ⟨(h.blocks p (List.mem_cons_of_mem _ e)).1.set (hl p e),(h.blocks p (List.mem_cons_of_mem _ e)).2⟩
end
section
open Go.RowKit
attribute [local go_sem] run_store_float
theorem row_walk (m tl th yl yh t0l t0h s0l s0h pb:Nat) (y:Res) (w:World) (hC:Has1 w (pb,#[.int .i64 0])) (hm:19≤m∧m≤20)
   (cQ:Hid (Calc1 166 pb tl th yl yh)) (cO:Hid (CalcM 43 pb 4607182418800017408)) (cN0:Hid (CalcM 43 pb (nW m))) (cD0:Hid (Calc2 167 pb yl yh (nW m) (nW m) t0l t0h)) (cS0:Hid (Calc2 42 pb 4607182418800017408 4607182418800017408 t0l t0h s0l s0h)) (h0:Hid ((serN y m 0).lo=s0l∧(serN y m 0).hi=4607182418800017408))
   (cN:Hid (∀ i,i < 9→CalcM 43 pb (nW (m - 2 - 2*i))))
   (cD:Hid (∀ i,i < 9→Calc2 167 pb yl yh (nW (m - 2 - 2*i)) (nW (m - 2 - 2*i)) (termR y (m - 2 - 2*i)).lo (termR y (m - 2 - 2*i)).hi))
   (cM:Hid (∀ i,i < 9→Calc2 45 pb (termR y (m - 2 - 2*i)).lo (termR y (m - 2 - 2*i)).hi (serN y m i).lo (serN y m i).hi (mulR (termR y (m - 2 - 2*i)) (serN y m i)).lo (mulR (termR y (m - 2 - 2*i)) (serN y m i)).hi))
   (cS:Hid (∀ i,i < 9→Calc2 42 pb 4607182418800017408 4607182418800017408 (mulR (termR y (m - 2 - 2*i)) (serN y m i)).lo (mulR (termR y (m - 2 - 2*i)) (serN y m i)).hi (serN y m (i+1)).lo (serN y m (i+1)).hi)) :
   Calls Tryz.prog 121 #[.pointer (some ⟨pb,0,none⟩),.agg #[.float .f64 tl,.float .f64 th],.int .i64 m] w fun r w'=>r = .returned (.agg #[.float .f64 (serN y m 9).lo,.float .f64 (serN y m 9).hi])∧Put ⟨pb,0,none⟩ (.int .i64 0) w w':=by
 obtain⟨hm1,hm2⟩:=hm
 have E:Hid (Env w pb [(w.heap.size+1,#[.float .f64 0,.float .f64 0]),(w.heap.size,#[.float .f64 tl,.float .f64 th])] ((w.alloc (.cells #[.float .f64 tl,.float .f64 th] 31)).alloc (.cells #[.float .f64 0,.float .f64 0] 31))):=by
   have h:=((Env.start hC).made #[.float .f64 tl,.float .f64 th] 31).made #[.float .f64 0,.float .f64 0] 31
   simp only [World.size_alloc] at h
   exact Lib.hid h
 obtain⟨k2,k3⟩:=(E.out.nth 1 rfl).two
 clear hC
 go_enter Tryz.func121,Tryz.ntmps121
 go_wp2_with fail
 refine (cQ.out _ E.out.cal).mono ?_
 rintro r w1 ⟨rfl,hp⟩
 have zy:w.heap.size+1 < w1.heap.size:=((E.out.putc hp).nth 0 rfl).1
 replace E:Hid (Env w pb [(w.heap.size+1,#[.float .f64 0,.float .f64 0]),(w1.heap.size,#[.float .f64 yl,.float .f64 yh])] (w1.alloc (.cells #[.float .f64 yl,.float .f64 yh] 31))):=Lib.hid (((E.out.putc hp).made #[.float .f64 yl,.float .f64 yh] 31).sub (by simp))
 clear hp k2 k3
 go_wp2_with fail
 refine (cO.out _ E.out.cal).mono ?_
 rintro r w2 ⟨rfl,hp⟩
 have zo:w1.heap.size < w2.heap.size:=((E.out.putc hp).nth 1 rfl).1
 replace E:Hid (Env w pb [(w.heap.size+1,#[.float .f64 0,.float .f64 0]),(w1.heap.size,#[.float .f64 yl,.float .f64 yh]),(w2.heap.size,#[.float .f64 4607182418800017408,.float .f64 4607182418800017408])] (w2.alloc (.cells #[.float .f64 4607182418800017408,.float .f64 4607182418800017408] 31))):=Lib.hid (((E.out.putc hp).made #[.float .f64 4607182418800017408,.float .f64 4607182418800017408] 31).sub (by simp))
 clear hp
 go_upto_region 3 with fail
 revert E
 generalize w2.alloc (.cells #[.float .f64 4607182418800017408,.float .f64 4607182418800017408] 31)=W
 intro E
 unfold nW at cN0 cD0
 have z0:(0:Int)≤m:=by omega
 have z9:(m:Int)≤20:=by omega
 have z3:(m:Int)*((m:Int)+1)≤420:=by
   have:(m:Int)*((m:Int)+1)≤20*21:=Int.mul_le_mul z9 (by omega) (by omega) (by omega)
   omega
 have z4:0≤(m:Int)*((m:Int)+1):=Int.mul_nonneg z0 (by omega)
 have a3:IntKind.i64.wrap ((m:Int)+1)=(m:Int)+1:=IntWalk.i64_in _ ⟨by omega,by omega⟩
 have a4:IntKind.i64.wrap ((m:Int)*((m:Int)+1))=(m:Int)*((m:Int)+1):=IntWalk.i64_in _ ⟨by omega,by omega⟩
 have a5:wrap64 ((m:Int)+1)=(m:Int)+1:=wrap64_in _ (by omega) (by omega)
 have a6:wrap64 ((m:Int)*((m:Int)+1))=(m:Int)*((m:Int)+1):=wrap64_in _ (by omega) (by omega)
 obtain⟨y2,y3⟩:=(E.out.blocks (w1.heap.size,#[.float .f64 yl,.float .f64 yh]) (by simp)).1.two
 obtain⟨o2,o3⟩:=(E.out.blocks (w2.heap.size,#[.float .f64 4607182418800017408,.float .f64 4607182418800017408]) (by simp)).1.two
 have z1:=(E.out.blocks (w1.heap.size,#[.float .f64 yl,.float .f64 yh]) (by simp)).1.1
 have z2:=(E.out.blocks (w2.heap.size,#[.float .f64 4607182418800017408,.float .f64 4607182418800017408]) (by simp)).1.1
 have k8:=(E.out.nth 0 rfl).2.1
 have k9:=(E.out.nth 0 rfl).2.2
 go_cut [9] (KeptE w pb [(w.heap.size+1,#[.float .f64 0,.float .f64 0]),(w1.heap.size,#[.float .f64 yl,.float .f64 yh]),(w2.heap.size,#[.float .f64 4607182418800017408,.float .f64 4607182418800017408])] s0l s0h)
 case first =>
   go_region_held3 (fun w'=>(w'.cell? ⟨w1.heap.size,0,none⟩=some (.float .f64 yl)∧w'.cell? ⟨w1.heap.size,1,none⟩=some (.float .f64 yh))∧(w'.cell? ⟨w2.heap.size,0,none⟩=some (.float .f64 4607182418800017408)∧w'.cell? ⟨w2.heap.size,1,none⟩=some (.float .f64 4607182418800017408))) (((try dsimp only); (repeat' apply And.intro); all_goals (repeat (first | (with_reducible assumption) | ((with_reducible refine keep_undrew ?_); (with_reducible assumption)) | (with_reducible refine keep_drew ?_) | (with_reducible refine keep_alloc _ ?_) | (with_reducible refine keep_set _ (by first | (with_reducible assumption) | omega) ?_)))))
     (first
       | (go_at_call 43; (with_reducible refine ((cN0).out _ (E.out).cal).mono ?_); rintro rr w5 ⟨rfl,hp⟩; have E':=Lib.hid ((E.out).putc hp); clear E hp; clear y2 y3 o2 o3 z1 z2 k8 k9; have E:=E'; clear E'; obtain⟨y2,y3⟩:=(E.out.blocks (w1.heap.size,#[.float .f64 yl,.float .f64 yh]) (by simp)).1.two; obtain⟨o2,o3⟩:=(E.out.blocks (w2.heap.size,#[.float .f64 4607182418800017408,.float .f64 4607182418800017408]) (by simp)).1.two; have z1:=(E.out.blocks (w1.heap.size,#[.float .f64 yl,.float .f64 yh]) (by simp)).1.1; have z2:=(E.out.blocks (w2.heap.size,#[.float .f64 4607182418800017408,.float .f64 4607182418800017408]) (by simp)).1.1; have k8:=(E.out.nth 0 rfl).2.1; have k9:=(E.out.nth 0 rfl).2.2)
       | (go_at_call 43; (with_reducible refine ((cN0).out _ (E.out.drew).cal).mono ?_); rintro rr w5 ⟨rfl,hp⟩; have E':=Lib.hid ((E.out.drew).putc hp); clear E hp; clear y2 y3 o2 o3 z1 z2 k8 k9; have E:=E'; clear E'; obtain⟨y2,y3⟩:=(E.out.blocks (w1.heap.size,#[.float .f64 yl,.float .f64 yh]) (by simp)).1.two; obtain⟨o2,o3⟩:=(E.out.blocks (w2.heap.size,#[.float .f64 4607182418800017408,.float .f64 4607182418800017408]) (by simp)).1.two; have z1:=(E.out.blocks (w1.heap.size,#[.float .f64 yl,.float .f64 yh]) (by simp)).1.1; have z2:=(E.out.blocks (w2.heap.size,#[.float .f64 4607182418800017408,.float .f64 4607182418800017408]) (by simp)).1.1; have k8:=(E.out.nth 0 rfl).2.1; have k9:=(E.out.nth 0 rfl).2.2)
       | (go_at_call 43; (with_reducible refine ((cN0).out _ ((E.out.made _ _)).cal).mono ?_); rintro rr w5 ⟨rfl,hp⟩; have hF:=Lib.hid E.out.fresh; have a1:=Nat.ne_of_gt z1; have a2:=Nat.ne_of_gt z2; have E':=Lib.hid (((E.out.made _ _)).putc hp); clear E hp; clear y2 y3 o2 o3 z1 z2 k8 k9; have E:=E'; clear E'; obtain⟨y2,y3⟩:=(E.out.blocks (w1.heap.size,#[.float .f64 yl,.float .f64 yh]) (by simp)).1.two; obtain⟨o2,o3⟩:=(E.out.blocks (w2.heap.size,#[.float .f64 4607182418800017408,.float .f64 4607182418800017408]) (by simp)).1.two; have z1:=(E.out.blocks (w1.heap.size,#[.float .f64 yl,.float .f64 yh]) (by simp)).1.1; have z2:=(E.out.blocks (w2.heap.size,#[.float .f64 4607182418800017408,.float .f64 4607182418800017408]) (by simp)).1.1; have k8:=(E.out.nth 0 rfl).2.1; have k9:=(E.out.nth 0 rfl).2.2)
       | (go_at_call 43; (with_reducible refine ((cN0).out _ ((E.out.made _ _).drew).cal).mono ?_); rintro rr w5 ⟨rfl,hp⟩; have hF:=Lib.hid E.out.fresh; have a1:=Nat.ne_of_gt z1; have a2:=Nat.ne_of_gt z2; have E':=Lib.hid (((E.out.made _ _).drew).putc hp); clear E hp; clear y2 y3 o2 o3 z1 z2 k8 k9; have E:=E'; clear E'; obtain⟨y2,y3⟩:=(E.out.blocks (w1.heap.size,#[.float .f64 yl,.float .f64 yh]) (by simp)).1.two; obtain⟨o2,o3⟩:=(E.out.blocks (w2.heap.size,#[.float .f64 4607182418800017408,.float .f64 4607182418800017408]) (by simp)).1.two; have z1:=(E.out.blocks (w1.heap.size,#[.float .f64 yl,.float .f64 yh]) (by simp)).1.1; have z2:=(E.out.blocks (w2.heap.size,#[.float .f64 4607182418800017408,.float .f64 4607182418800017408]) (by simp)).1.1; have k8:=(E.out.nth 0 rfl).2.1; have k9:=(E.out.nth 0 rfl).2.2)
       | (go_at_call 167; (with_reducible refine ((cD0).out _ (E.out).cal).mono ?_); rintro rr w5 ⟨rfl,hp⟩; have E':=Lib.hid ((E.out).putc hp); clear E hp; clear y2 y3 o2 o3 z1 z2 k8 k9; have E:=E'; clear E'; obtain⟨y2,y3⟩:=(E.out.blocks (w1.heap.size,#[.float .f64 yl,.float .f64 yh]) (by simp)).1.two; obtain⟨o2,o3⟩:=(E.out.blocks (w2.heap.size,#[.float .f64 4607182418800017408,.float .f64 4607182418800017408]) (by simp)).1.two; have z1:=(E.out.blocks (w1.heap.size,#[.float .f64 yl,.float .f64 yh]) (by simp)).1.1; have z2:=(E.out.blocks (w2.heap.size,#[.float .f64 4607182418800017408,.float .f64 4607182418800017408]) (by simp)).1.1; have k8:=(E.out.nth 0 rfl).2.1; have k9:=(E.out.nth 0 rfl).2.2)
       | (go_at_call 167; (with_reducible refine ((cD0).out _ (E.out.drew).cal).mono ?_); rintro rr w5 ⟨rfl,hp⟩; have E':=Lib.hid ((E.out.drew).putc hp); clear E hp; clear y2 y3 o2 o3 z1 z2 k8 k9; have E:=E'; clear E'; obtain⟨y2,y3⟩:=(E.out.blocks (w1.heap.size,#[.float .f64 yl,.float .f64 yh]) (by simp)).1.two; obtain⟨o2,o3⟩:=(E.out.blocks (w2.heap.size,#[.float .f64 4607182418800017408,.float .f64 4607182418800017408]) (by simp)).1.two; have z1:=(E.out.blocks (w1.heap.size,#[.float .f64 yl,.float .f64 yh]) (by simp)).1.1; have z2:=(E.out.blocks (w2.heap.size,#[.float .f64 4607182418800017408,.float .f64 4607182418800017408]) (by simp)).1.1; have k8:=(E.out.nth 0 rfl).2.1; have k9:=(E.out.nth 0 rfl).2.2)
       | (go_at_call 167; (with_reducible refine ((cD0).out _ ((E.out.made _ _)).cal).mono ?_); rintro rr w5 ⟨rfl,hp⟩; have hF:=Lib.hid E.out.fresh; have a1:=Nat.ne_of_gt z1; have a2:=Nat.ne_of_gt z2; have E':=Lib.hid (((E.out.made _ _)).putc hp); clear E hp; clear y2 y3 o2 o3 z1 z2 k8 k9; have E:=E'; clear E'; obtain⟨y2,y3⟩:=(E.out.blocks (w1.heap.size,#[.float .f64 yl,.float .f64 yh]) (by simp)).1.two; obtain⟨o2,o3⟩:=(E.out.blocks (w2.heap.size,#[.float .f64 4607182418800017408,.float .f64 4607182418800017408]) (by simp)).1.two; have z1:=(E.out.blocks (w1.heap.size,#[.float .f64 yl,.float .f64 yh]) (by simp)).1.1; have z2:=(E.out.blocks (w2.heap.size,#[.float .f64 4607182418800017408,.float .f64 4607182418800017408]) (by simp)).1.1; have k8:=(E.out.nth 0 rfl).2.1; have k9:=(E.out.nth 0 rfl).2.2)
       | (go_at_call 167; (with_reducible refine ((cD0).out _ ((E.out.made _ _).drew).cal).mono ?_); rintro rr w5 ⟨rfl,hp⟩; have hF:=Lib.hid E.out.fresh; have a1:=Nat.ne_of_gt z1; have a2:=Nat.ne_of_gt z2; have E':=Lib.hid (((E.out.made _ _).drew).putc hp); clear E hp; clear y2 y3 o2 o3 z1 z2 k8 k9; have E:=E'; clear E'; obtain⟨y2,y3⟩:=(E.out.blocks (w1.heap.size,#[.float .f64 yl,.float .f64 yh]) (by simp)).1.two; obtain⟨o2,o3⟩:=(E.out.blocks (w2.heap.size,#[.float .f64 4607182418800017408,.float .f64 4607182418800017408]) (by simp)).1.two; have z1:=(E.out.blocks (w1.heap.size,#[.float .f64 yl,.float .f64 yh]) (by simp)).1.1; have z2:=(E.out.blocks (w2.heap.size,#[.float .f64 4607182418800017408,.float .f64 4607182418800017408]) (by simp)).1.1; have k8:=(E.out.nth 0 rfl).2.1; have k9:=(E.out.nth 0 rfl).2.2)
       | (go_at_call 42; (with_reducible refine ((cS0).out _ (E.out).cal).mono ?_); rintro rr w5 ⟨rfl,hp⟩; have E':=Lib.hid ((E.out).putc hp); clear E hp; clear y2 y3 o2 o3 z1 z2 k8 k9; have E:=E'; clear E'; obtain⟨y2,y3⟩:=(E.out.blocks (w1.heap.size,#[.float .f64 yl,.float .f64 yh]) (by simp)).1.two; obtain⟨o2,o3⟩:=(E.out.blocks (w2.heap.size,#[.float .f64 4607182418800017408,.float .f64 4607182418800017408]) (by simp)).1.two; have z1:=(E.out.blocks (w1.heap.size,#[.float .f64 yl,.float .f64 yh]) (by simp)).1.1; have z2:=(E.out.blocks (w2.heap.size,#[.float .f64 4607182418800017408,.float .f64 4607182418800017408]) (by simp)).1.1; have k8:=(E.out.nth 0 rfl).2.1; have k9:=(E.out.nth 0 rfl).2.2)
       | (go_at_call 42; (with_reducible refine ((cS0).out _ (E.out.drew).cal).mono ?_); rintro rr w5 ⟨rfl,hp⟩; have E':=Lib.hid ((E.out.drew).putc hp); clear E hp; clear y2 y3 o2 o3 z1 z2 k8 k9; have E:=E'; clear E'; obtain⟨y2,y3⟩:=(E.out.blocks (w1.heap.size,#[.float .f64 yl,.float .f64 yh]) (by simp)).1.two; obtain⟨o2,o3⟩:=(E.out.blocks (w2.heap.size,#[.float .f64 4607182418800017408,.float .f64 4607182418800017408]) (by simp)).1.two; have z1:=(E.out.blocks (w1.heap.size,#[.float .f64 yl,.float .f64 yh]) (by simp)).1.1; have z2:=(E.out.blocks (w2.heap.size,#[.float .f64 4607182418800017408,.float .f64 4607182418800017408]) (by simp)).1.1; have k8:=(E.out.nth 0 rfl).2.1; have k9:=(E.out.nth 0 rfl).2.2)
       | (go_at_call 42; (with_reducible refine ((cS0).out _ ((E.out.made _ _)).cal).mono ?_); rintro rr w5 ⟨rfl,hp⟩; have hF:=Lib.hid E.out.fresh; have a1:=Nat.ne_of_gt z1; have a2:=Nat.ne_of_gt z2; have E':=Lib.hid (((E.out.made _ _)).putc hp); clear E hp; clear y2 y3 o2 o3 z1 z2 k8 k9; have E:=E'; clear E'; obtain⟨y2,y3⟩:=(E.out.blocks (w1.heap.size,#[.float .f64 yl,.float .f64 yh]) (by simp)).1.two; obtain⟨o2,o3⟩:=(E.out.blocks (w2.heap.size,#[.float .f64 4607182418800017408,.float .f64 4607182418800017408]) (by simp)).1.two; have z1:=(E.out.blocks (w1.heap.size,#[.float .f64 yl,.float .f64 yh]) (by simp)).1.1; have z2:=(E.out.blocks (w2.heap.size,#[.float .f64 4607182418800017408,.float .f64 4607182418800017408]) (by simp)).1.1; have k8:=(E.out.nth 0 rfl).2.1; have k9:=(E.out.nth 0 rfl).2.2)
       | (go_at_call 42; (with_reducible refine ((cS0).out _ ((E.out.made _ _).drew).cal).mono ?_); rintro rr w5 ⟨rfl,hp⟩; have hF:=Lib.hid E.out.fresh; have a1:=Nat.ne_of_gt z1; have a2:=Nat.ne_of_gt z2; have E':=Lib.hid (((E.out.made _ _).drew).putc hp); clear E hp; clear y2 y3 o2 o3 z1 z2 k8 k9; have E:=E'; clear E'; obtain⟨y2,y3⟩:=(E.out.blocks (w1.heap.size,#[.float .f64 yl,.float .f64 yh]) (by simp)).1.two; obtain⟨o2,o3⟩:=(E.out.blocks (w2.heap.size,#[.float .f64 4607182418800017408,.float .f64 4607182418800017408]) (by simp)).1.two; have z1:=(E.out.blocks (w1.heap.size,#[.float .f64 yl,.float .f64 yh]) (by simp)).1.1; have z2:=(E.out.blocks (w2.heap.size,#[.float .f64 4607182418800017408,.float .f64 4607182418800017408]) (by simp)).1.1; have k8:=(E.out.nth 0 rfl).2.1; have k9:=(E.out.nth 0 rfl).2.2))
   all_goals (go_wp2_with fail; go_meet)
   all_goals first | exact KeptE.made E.out _ _ _ | exact KeptE.set E.out hF.out _ _
 case rest =>
   obtain⟨w3,rfl⟩:∃ x:World,x=wc:=⟨_,rfl⟩
   obtain⟨q,rfl,hq1,hq2,hE⟩:=hcut
   clear y2 y3 o2 o3 z1 z2 k8 k9
   clear E cN0 cD0 cS0 cQ cO z0 z9 z3 z4 a3 a4 a5 a6
   have HQ:=Lib.hid hq2
   have k8:=(hE.nth 0 rfl).2.1
   have k9:=(hE.nth 0 rfl).2.2
   have E:=Lib.hid (hE.second hq1 hq2 (.float .f64 4607182418800017408))
   clear hE hq2
   go_upto_region 5 with fail
   clear k8 k9
   have a7:wrap64 ((m:Int) - 2)=(m:Int) - 2:=wrap64_in _ (by omega) (by omega)
   have a8:IntKind.i64.wrap ((m:Int) - 2)=(m:Int) - 2:=IntWalk.i64_in _ ⟨by omega,by omega⟩
   go_wp2_with fail
   go_loopw [10] (SerRel w pb q m [(w.heap.size+1,#[.float .f64 0,.float .f64 0]),(w1.heap.size,#[.float .f64 yl,.float .f64 yh]),(w2.heap.size,#[.float .f64 4607182418800017408,.float .f64 4607182418800017408])] y) (fun v _=>(intOf v).toNat)
   case atStart =>
     refine ⟨0,_,by decide,?_,rfl,?_⟩
     · omega
     · rw [h0.out.1,h0.out.2]; exact E.out
   case round =>
     clear E a7 a8
     obtain⟨i,k,hi,hk,rfl,hE⟩:=hrel
     have E:=Lib.hid hE
     clear hE
     obtain⟨y2,y3⟩:=(E.out.blocks (w1.heap.size,#[.float .f64 yl,.float .f64 yh]) (by simp)).1.two
     obtain⟨o2,o3⟩:=(E.out.blocks (w2.heap.size,#[.float .f64 4607182418800017408,.float .f64 4607182418800017408]) (by simp)).1.two
     obtain⟨k2,k3⟩:=(E.out.nth 0 rfl).two
     by_cases hlt:i < 9
     · obtain⟨kk,rfl⟩:=Int.eq_ofNat_of_zero_le (show 0≤k by omega)
       have hkk:kk=m - 2 - 2*i:=by omega
       have CN:=Lib.hid (cN.out i hlt)
       have CD:=Lib.hid (cD.out i hlt)
       have CM:=Lib.hid (cM.out i hlt)
       have CS:=Lib.hid (cS.out i hlt)
       rw [←hkk] at CN CD CM CS
       have hpos:0 < (kk:Int):=by omega
       have hle:(kk:Int)≤20:=by omega
       have e17:wrap64 ((kk:Int) - 2)=(kk:Int) - 2:=wrap64_in _ (by omega) (by omega)
       have HK:=Lib.hid hk
       clear hk hkk
       obtain⟨a1,ha1⟩:∃ a,a=(termR y kk).lo:=⟨_,rfl⟩
       obtain⟨a2,ha2⟩:∃ a,a=(termR y kk).hi:=⟨_,rfl⟩
       obtain⟨b1,hb1⟩:∃ a,a=(mulR (termR y kk) (serN y m i)).lo:=⟨_,rfl⟩
       obtain⟨b2,hb2⟩:∃ a,a=(mulR (termR y kk) (serN y m i)).hi:=⟨_,rfl⟩
       obtain⟨c1,hc1⟩:∃ a,a=(serN y m i).lo:=⟨_,rfl⟩
       obtain⟨c2,hc2⟩:∃ a,a=(serN y m i).hi:=⟨_,rfl⟩
       obtain⟨d1,hd1⟩:∃ a,a=(serN y m (i+1)).lo:=⟨_,rfl⟩
       obtain⟨d2,hd2⟩:∃ a,a=(serN y m (i+1)).hi:=⟨_,rfl⟩
       rw [←ha1,←ha2] at CD
       rw [←ha1,←ha2,←hb1,←hb2,←hc1,←hc2] at CM
       rw [←hb1,←hb2,←hd1,←hd2] at CS
       rw [←hc1,←hc2] at E
       rw [←hc1] at k2
       rw [←hc2] at k3
       have HD:Hid (d1=(serN y m (i+1)).lo∧d2=(serN y m (i+1)).hi):=Lib.hid ⟨hd1,hd2⟩
       clear ha1 ha2 hb1 hb2 hc1 hc2 hd1 hd2 cN cD cM cS h0
       unfold nW at CN CD
       go_upto_region 8 with fail
       have z0:(0:Int)≤kk:=by omega
       have z9:(kk:Int)≤20:=by omega
       have z3:(kk:Int)*((kk:Int)+1)≤420:=by
         have:(kk:Int)*((kk:Int)+1)≤20*21:=Int.mul_le_mul z9 (by omega) (by omega) (by omega)
         omega
       have z4:0≤(kk:Int)*((kk:Int)+1):=Int.mul_nonneg z0 (by omega)
       have a3:IntKind.i64.wrap ((kk:Int)+1)=(kk:Int)+1:=IntWalk.i64_in _ ⟨by omega,by omega⟩
       have a4:IntKind.i64.wrap ((kk:Int)*((kk:Int)+1))=(kk:Int)*((kk:Int)+1):=IntWalk.i64_in _ ⟨by omega,by omega⟩
       have a5:wrap64 ((kk:Int)+1)=(kk:Int)+1:=wrap64_in _ (by omega) (by omega)
       have a6:wrap64 ((kk:Int)*((kk:Int)+1))=(kk:Int)*((kk:Int)+1):=wrap64_in _ (by omega) (by omega)
       clear z0 z9 z3 z4
       replace E:=Lib.hid E.out.drew
       refine wp_region_noPanic ?_
       refine tails_region (S:=fun w'=>(w'.cell? ⟨w1.heap.size,0,none⟩=some (.float .f64 yl)∧w'.cell? ⟨w1.heap.size,1,none⟩=some (.float .f64 yh))∧(w'.cell? ⟨w2.heap.size,0,none⟩=some (.float .f64 4607182418800017408)∧w'.cell? ⟨w2.heap.size,1,none⟩=some (.float .f64 4607182418800017408))∧w'.cell? ⟨q,0,none⟩=some (.float .f64 c1)∧w'.cell? ⟨q,1,none⟩=some (.float .f64 c2)) [16] (by kernel_rfl) ?_ (fun hS=>?_)
       · exact ⟨⟨y2,y3⟩,⟨o2,o3⟩,k2,k3⟩
       refine tails_take (T:=[16]) (i:=0) (o:=_) (x:=?_) rfl (by kernel_rfl) (by kernel_rfl) (by kernel_rfl) (by kernel_rfl) (fun _ _ _ h=>h) (Or.inl ⟨by rfl,?_⟩) (by assumption) ?_
       rotate_left; focus (intro w hSw; (try dsimp only at hSw); go_simp; first | done | with_reducible rfl)
       refine tails_take (T:=[16]) (i:=1) (o:=_) (x:=?_) rfl (by kernel_rfl) (by kernel_rfl) (by kernel_rfl) (by kernel_rfl) (fun _ _ _ h=>h) (Or.inl ⟨by rfl,?_⟩) (by assumption) ?_
       rotate_left; focus (intro w hSw; (try dsimp only at hSw); go_simp; first | done | with_reducible rfl)
       refine tails_take (T:=[16]) (i:=2) (o:=_) (x:=?_) rfl (by kernel_rfl) (by kernel_rfl) (by kernel_rfl) (by kernel_rfl) (fun _ _ _ h=>h) (Or.inl ⟨by rfl,?_⟩) (by assumption) ?_
       rotate_left; focus (intro w hSw; (try dsimp only at hSw); go_simp; first | done | with_reducible rfl)
       refine tails_take (T:=[16]) (i:=3) (o:=_) (x:=?_) rfl (by kernel_rfl) (by kernel_rfl) (by kernel_rfl) (by kernel_rfl) (fun _ _ _ h=>h) (Or.inl ⟨by rfl,?_⟩) (by assumption) ?_
       rotate_left; focus (intro w hSw; (try dsimp only at hSw); go_simp; first | done | with_reducible rfl)
       refine tails_take (T:=[16]) (i:=4) (o:=_) (x:=?_) rfl (by kernel_rfl) (by kernel_rfl) (by kernel_rfl) (by kernel_rfl) (fun _ _ _ h=>h) (Or.inl ⟨by rfl,?_⟩) (by assumption) ?_
       rotate_left; focus (intro w hSw; (try dsimp only at hSw); go_simp; first | done | with_reducible rfl)
       refine tails_take (T:=[16]) (i:=5) (o:=_) (x:=?_) rfl (by kernel_rfl) (by kernel_rfl) (by kernel_rfl) (by kernel_rfl) (fun _ _ _ h=>h) (Or.inl ⟨by rfl,?_⟩) (by assumption) ?_
       rotate_left; focus (intro w hSw; (try dsimp only at hSw); go_simp; first | done | with_reducible rfl)
       refine tails_take (T:=[16]) (i:=6) (o:=_) (x:=?_) rfl (by kernel_rfl) (by kernel_rfl) (by kernel_rfl) (by kernel_rfl) (fun _ _ _ h=>h) (Or.inl ⟨by rfl,?_⟩) (by assumption) ?_
       rotate_left; focus (intro w hSw; (try dsimp only at hSw); go_simp; first | done | with_reducible rfl)
       refine tails_take (T:=[16]) (i:=7) (o:=_) (x:=?_) rfl (by kernel_rfl) (by kernel_rfl) (by kernel_rfl) (by kernel_rfl) (fun _ _ _ h=>h) (Or.inl ⟨by rfl,?_⟩) (by assumption) ?_
       rotate_left; focus (intro w hSw; (try dsimp only at hSw); go_simp; first | done | with_reducible rfl)
       refine tails_take (T:=[16]) (i:=8) (o:=_) (x:=?_) rfl (by kernel_rfl) (by kernel_rfl) (by kernel_rfl) (by kernel_rfl) (fun _ _ _ h=>h) (Or.inl ⟨by rfl,?_⟩) (by assumption) ?_
       rotate_left; focus (intro w hSw; (try dsimp only at hSw); go_simp; first | done | with_reducible rfl)
       refine tails_take (T:=[16]) (i:=9) (o:=_) (x:=?_) rfl (by kernel_rfl) (by kernel_rfl) (by kernel_rfl) (by kernel_rfl) (fun _ _ _ h=>h) (Or.inl ⟨by rfl,?_⟩) (by assumption) ?_
       rotate_left; focus (intro w hSw; (try dsimp only at hSw); go_simp; first | done | with_reducible rfl)
       refine tails_take (T:=[16]) (i:=10) (o:=_) (x:=?_) rfl (by kernel_rfl) (by kernel_rfl) (by kernel_rfl) (by kernel_rfl) (fun _ _ _ h=>h) (Or.inl ⟨by rfl,?_⟩) (by assumption) ?_
       rotate_left; focus (intro w hSw; (try dsimp only at hSw); go_simp; first | done | with_reducible rfl)
       refine tails_take (T:=[16]) (i:=13) (o:=_) (x:=?_) rfl (by kernel_rfl) (by kernel_rfl) (by kernel_rfl) (by kernel_rfl) (fun _ _ _ h=>h) (Or.inl ⟨by rfl,?_⟩) (by assumption) ?_
       rotate_left; focus (intro w hSw; (try dsimp only at hSw); go_simp; first | done | with_reducible rfl)
       refine tails_one (T:=[16]) (i:=11) (o:=_) rfl (by kernel_rfl) (fun K hK=>?_)
       go_simp
       ((with_reducible refine (CN.out _ E.out.cal).mono ?_); rintro rr w5 ⟨rfl,hp⟩; replace E:=Lib.hid (E.out.putc hp); clear hp k2 k3 y2 y3 o2 o3; obtain⟨y2,y3⟩:=(E.out.blocks (w1.heap.size,#[.float .f64 yl,.float .f64 yh]) (by simp)).1.two; obtain⟨o2,o3⟩:=(E.out.blocks (w2.heap.size,#[.float .f64 4607182418800017408,.float .f64 4607182418800017408]) (by simp)).1.two; obtain⟨k2,k3⟩:=(E.out.nth 0 rfl).two)
       try go_wp2_with fail
       refine hK.out _ _ (Or.inr ⟨⟨y2,y3⟩,⟨o2,o3⟩,k2,k3⟩) (fun hHeld=>?_)
       clear hK K hS
       have hS:=hHeld.resolve_left (by decide)
       clear hHeld
       refine tails_one (T:=[16]) (i:=12) (o:=_) rfl (by kernel_rfl) (fun K hK=>?_)
       go_simp
       ((with_reducible refine (CD.out _ E.out.cal).mono ?_); rintro rr w5 ⟨rfl,hp⟩; replace E:=Lib.hid (E.out.putc hp); clear hp k2 k3 y2 y3 o2 o3; obtain⟨y2,y3⟩:=(E.out.blocks (w1.heap.size,#[.float .f64 yl,.float .f64 yh]) (by simp)).1.two; obtain⟨o2,o3⟩:=(E.out.blocks (w2.heap.size,#[.float .f64 4607182418800017408,.float .f64 4607182418800017408]) (by simp)).1.two; obtain⟨k2,k3⟩:=(E.out.nth 0 rfl).two)
       try go_wp2_with fail
       refine hK.out _ _ (Or.inr ⟨⟨y2,y3⟩,⟨o2,o3⟩,k2,k3⟩) (fun hHeld=>?_)
       clear hK K hS
       have hS:=hHeld.resolve_left (by decide)
       clear hHeld
       refine tails_one (T:=[16]) (i:=14) (o:=_) rfl (by kernel_rfl) (fun K hK=>?_)
       go_simp
       ((with_reducible refine (CM.out _ E.out.cal).mono ?_); rintro rr w5 ⟨rfl,hp⟩; replace E:=Lib.hid (E.out.putc hp); clear hp k2 k3 y2 y3 o2 o3; obtain⟨y2,y3⟩:=(E.out.blocks (w1.heap.size,#[.float .f64 yl,.float .f64 yh]) (by simp)).1.two; obtain⟨o2,o3⟩:=(E.out.blocks (w2.heap.size,#[.float .f64 4607182418800017408,.float .f64 4607182418800017408]) (by simp)).1.two; obtain⟨k2,k3⟩:=(E.out.nth 0 rfl).two)
       try go_wp2_with fail
       refine hK.out _ _ (Or.inr ⟨⟨y2,y3⟩,⟨o2,o3⟩,k2,k3⟩) (fun hHeld=>?_)
       clear hK K hS
       have hS:=hHeld.resolve_left (by decide)
       clear hHeld
       refine tails_one (T:=[16]) (i:=15) (o:=_) rfl (by kernel_rfl) (fun K hK=>?_)
       go_simp
       ((with_reducible refine (CS.out _ E.out.cal).mono ?_); rintro rr w5 ⟨rfl,hp⟩; replace E:=Lib.hid (E.out.putc hp); clear hp k2 k3 y2 y3 o2 o3; obtain⟨y2,y3⟩:=(E.out.blocks (w1.heap.size,#[.float .f64 yl,.float .f64 yh]) (by simp)).1.two; obtain⟨o2,o3⟩:=(E.out.blocks (w2.heap.size,#[.float .f64 4607182418800017408,.float .f64 4607182418800017408]) (by simp)).1.two; obtain⟨k2,k3⟩:=(E.out.nth 0 rfl).two)
       try go_wp2_with fail
       refine hK.out _ _ (Or.inr ⟨⟨y2,y3⟩,⟨o2,o3⟩,k2,k3⟩) (fun hHeld=>?_)
       clear hK K hS
       have hS:=hHeld.resolve_left (by decide)
       clear hHeld
       refine tails_one (T:=[16]) (i:=16) (o:=_) rfl (by kernel_rfl) (fun K hK=>?_)
       have kc:=(E.out.nth 0 rfl).2.1
       have kf:=(E.out.nth 0 rfl).2.2
       go_simp
       refine hK.out _ _ (Or.inl (by decide)) (fun hHeld=>?_)
       clear hK K hHeld
       refine tails_done (by kernel_rfl) ?_ _
       refine NoPanic.normal ?_
       have E2:=Lib.hid (E.out.reset hq1 HQ.out (.float .f64 d1) (.float .f64 d2))
       clear E k2 k3 y2 y3 o2 o3 hS a3 a4 a5 a6 CN CD CM CS
       go_wp2_with fail
       go_roundw
       case rel =>
         have hk:=HK.out
         have h1:=HD.out.1
         have h2:=HD.out.2
         subst h1 h2
         exact ⟨i+1,(kk:Int) - 2,by omega,by omega,rfl,E2.out⟩
       case measure=>simp [intOf]; omega
     · obtain rfl:i=9:=by omega
       have hk0:k≤0:=by omega
       have k4:=(E.out.nth 1 rfl).2.1
       have k5:=(E.out.nth 1 rfl).2.2
       have F:=Lib.hid (E.out.set2 (E.out.nth 1 rfl) (E.out.ne 1 rfl) (by omega) (.float .f64 (serN y m 9).lo) (.float .f64 (serN y m 9).hi) [(w.heap.size+1,#[.float .f64 (serN y m 9).lo,.float .f64 (serN y m 9).hi])] (by simp))
       clear cN cD cM cS h0 hk
       go_wp2
       have f1:=(F.out.nth 0 rfl).2.1
       exact bodyPost_ret (v:=.agg #[.float .f64 (serN y m 9).lo,.float .f64 (serN y m 9).hi]) (by simp [results,Tryz.results121,go_sem,f1]) rfl ⟨rfl,F.out.put⟩
theorem rc_term {y:Res} {k:Nat} (fy:Fit y) (fk:Fit (oneR (nW k))) (ft:Fit (termR y k)) (pb:Nat):Calc2 167 pb y.lo y.hi (nW k) (nW k) (termR y k).lo (termR y k).hi:=rc_div fy fk ft pb
theorem rc_numW {k:Nat} (fk:Fit (oneR (nW k))) (pb:Nat):CalcM 43 pb (nW k):=rc_num fk pb
theorem row_any {t:Res} {m:Nat} (hm:m=19∨m=20) (ft:Fit t) (hy:In (sqrR t) bigY) (pb:Nat) (w:World) (hC:Has1 w (pb,#[.int .i64 0])) :
   Calls Tryz.prog 121 #[.pointer (some ⟨pb,0,none⟩),.agg #[.float .f64 t.lo,.float .f64 t.hi],.int .i64 m] w fun r w'=>r = .returned (.agg #[.float .f64 (serR (sqrR t) m).lo,.float .f64 (serR (sqrR t) m).hi])∧Put ⟨pb,0,none⟩ (.int .i64 0) w w':=by
 have ok:bigOk0 m=true∧∀ i,i < 9→bigOk m i=true:=by
   rcases hm with rfl | rfl
   · exact ok19
   · exact ok20
 obtain⟨h1,h2⟩:=ok
 obtain⟨s1,s2,s3⟩:=start_in h1 hy
 have f0:Fit (oneR (nW m)):=by
   unfold bigOk0 at h1
   simp only [Bool.and_eq_true] at h1
   exact .of h1.1.1.1
 have fy:=hy.fit
 exact row_walk m t.lo t.hi (sqrR t).lo (sqrR t).hi (termR (sqrR t) m).lo (termR (sqrR t) m).hi (subR (oneR u1) (termR (sqrR t) m)).lo (subR (oneR u1) (termR (sqrR t) m)).hi pb (sqrR t) w hC (by omega)
   (Lib.hid (rc_sqr ft fy pb)) (Lib.hid (rc_num u1_fit pb)) (Lib.hid (rc_numW f0 pb)) (Lib.hid (rc_term fy f0 s2.fit pb)) (Lib.hid (rc_sub u1_fit s2.fit s3.fit pb)) (Lib.hid ⟨rfl,rfl⟩)
   (Lib.hid fun i hi=>rc_numW (big_parts (h2 i hi)).1 pb)
   (Lib.hid fun i hi=>rc_term fy (big_parts (h2 i hi)).1 (serRound_in h1 h2 hy i hi).1 pb)
   (Lib.hid fun i hi=>rc_mul (serRound_in h1 h2 hy i hi).1 (serRound_in h1 h2 hy i hi).2.2.1 (serRound_in h1 h2 hy i hi).2.1 pb)
   (Lib.hid fun i hi=>rc_sub u1_fit (serRound_in h1 h2 hy i hi).2.1 (serRound_in h1 h2 hy i hi).2.2.2 pb)
end
section
open Go.RowKit
attribute [local go_sem] run_store_float
theorem within_any (al ah:Nat) (w:World) (la:al < 18446744073709551616) (ha:ah < 18446744073709551616) (r1:rightB al=true) (r2:rightB ah=true) :
   Calls Tryz.prog 122 #[.agg #[.float .f64 al,.float .f64 ah]] w fun r w'=>r = .returned (.agg #[.float .f64 (boundI al ah).lo,.float .f64 (boundI al ah).hi])∧Below w.heap.size w w':=by
 have cM:Hid (∀ w,Calls Tryz.prog 168 #[.agg #[.float .f64 al,.float .f64 ah],.agg #[.float .f64 13830554455654793216,.float .f64 4607182418800017408]] w fun r w'=>r = .returned (.tuple #[.agg #[.float .f64 (boundI al ah).lo,.float .f64 (boundI al ah).hi],.bool (bothB al ah 13830554455654793216 4607182418800017408)])∧Below w.heap.size w w'):=
   Lib.hid (fun w=>rMeet_any al ah 13830554455654793216 4607182418800017408 w la ha (by decide) (by decide) r1 r2 (by decide) (by decide))
 have M:=Lib.hid (Mem.two w #[.float .f64 al,.float .f64 ah] #[.float .f64 0,.float .f64 0] 31 31)
 clear la ha r1 r2
 obtain⟨x,hx⟩:∃ x,x=(boundI al ah).lo:=⟨_,rfl⟩
 obtain⟨y,hy⟩:∃ y,y=(boundI al ah).hi:=⟨_,rfl⟩
 obtain⟨b,hb⟩:∃ b,b=bothB al ah 13830554455654793216 4607182418800017408:=⟨_,rfl⟩
 rw [←hx,←hy,←hb] at cM
 rw [←hx,←hy]
 clear hx hy hb
 go_enter Tryz.func122,Tryz.ntmps122
 go_wp2_with fail
 refine (cM.out _).mono ?_
 rintro r w1 ⟨rfl,hb⟩
 replace M:=Lib.hid (M.out.below hb)
 clear hb
 have k1:=(M.out.nth 1 rfl).2.1
 have f1:=(M.out.nth 1 rfl).2.2
 have z1:=M.out.size 1 rfl
 go_wp2
 have M3:=Lib.hid (((M.out.sets (M.out.nth 1 rfl) (.float .f64 x) (.float .f64 y) (by simp) [(w.heap.size+1,#[.float .f64 x,.float .f64 y])] (by simp))).made #[.float .f64 x,.float .f64 y] 31)
 have k2:=(M3.out.nth 1 rfl).2.1
 exact bodyPost_ret (v:=.agg #[.float .f64 x,.float .f64 y]) (by simp [results,Tryz.results122,go_sem,k2]) rfl ⟨rfl,M3.out.base⟩
theorem within_call {r:Res} (h:Fit r) (w:World):Calls Tryz.prog 122 #[.agg #[.float .f64 r.lo,.float .f64 r.hi]] w fun e w'=>e = .returned (.agg #[.float .f64 (boundR r).lo,.float .f64 (boundR r).hi])∧Below w.heap.size w w':=within_any r.lo r.hi w h.lo h.hi h.rlo h.rhi
end
section
open Go.RowKit
attribute [local go_sem] run_store_float
abbrev CalcRow (pb:Nat) (m:Int) (tl th rl rh:Nat):Prop:=∀ v:World,Has1 v (pb,#[.int .i64 0])→Calls Tryz.prog 121 #[.pointer (some ⟨pb,0,none⟩),.agg #[.float .f64 tl,.float .f64 th],.int .i64 m] v fun r w'=>r = .returned (.agg #[.float .f64 rl,.float .f64 rh])∧Put ⟨pb,0,none⟩ (.int .i64 0) v w'
abbrev CalcW (xl xh yl yh:Nat):Prop:=∀ w:World,Calls Tryz.prog 122 #[.agg #[.float .f64 xl,.float .f64 xh]] w fun r w'=>r = .returned (.agg #[.float .f64 yl,.float .f64 yh])∧Below w.heap.size w w'
def AtCut (j:Nat) (W:World) (v:Value) (wx:World):Prop:=v = .int .i64 j∧wx=W
theorem at_walk (x j q bl bh pl ph tl th s0l s0h sl sh kl kh xl xh yl yh sml smh kml kmh xml xmh yml ymh al ah dl dh:Nat) (w:World) (hj:j≤4)
   (H:Hid (∀ k:Nat,k < 4→((FloatKind.f64.format.order x (eighth k) == some Ordering.gt) || (FloatKind.f64.format.order x (eighth k) == some Ordering.eq))=decide (k < j)))
   (hq:Hid (∀ w,(binOp .quo 25 (.float .f64 (floatOfInt .f64 (j:Int))) (.float .f64 4616189618054758400)).run Tryz.prog w = .ok (.float .f64 q) w))
   (cX:Hid (CalcM 43 (w.heap.size+1+1) x)) (cQ:Hid (CalcM 43 (w.heap.size+1+1) q)) (cS:Hid (Calc2 42 (w.heap.size+1+1) x x q q bl bh)) (cP:Hid (∀ w,Calls Tryz.prog 119 #[] w fun r w'=>r = .returned (.agg #[.float .f64 4614256656552045848,.float .f64 4614256656552045849])∧Below w.heap.size w w'))
   (cA:Hid (Calc2 120 (w.heap.size+1+1) 4614256656552045848 4614256656552045849 4614256656552045848 4614256656552045849 pl ph)) (cM:Hid (Calc2 45 (w.heap.size+1+1) pl ph bl bh tl th))
   (c20:Hid (CalcRow (w.heap.size+1+1) 20 tl th s0l s0h)) (cT:Hid (Calc2 45 (w.heap.size+1+1) tl th s0l s0h sl sh)) (c19:Hid (CalcRow (w.heap.size+1+1) 19 tl th kl kh))
   (cNs:Hid (Calc1 123 (w.heap.size+1+1) sl sh xl xh)) (cNk:Hid (Calc1 123 (w.heap.size+1+1) kl kh yl yh))
   (bS:Hid (CalcW sl sh sml smh)) (bK:Hid (CalcW kl kh kml kmh)) (bX:Hid (CalcW xl xh xml xmh)) (bY:Hid (CalcW yl yh yml ymh))
   (hR:Hid ((j=0∨j=4)∧al=sml∧ah=smh∧dl=kml∧dh=kmh∨j=1∧al=kml∧ah=kmh∧dl=xml∧dh=xmh∨j=2∧al=xml∧ah=xmh∧dl=yml∧dh=ymh∨j=3∧al=yml∧ah=ymh∧dl=sml∧dh=smh)) :
   Calls Tryz.prog 79 #[.float .f64 x] w fun r w'=>r = .returned (.tuple #[.agg #[.float .f64 al,.float .f64 ah],.agg #[.float .f64 dl,.float .f64 dh]])∧Below w.heap.size w w':=by
 have M:Hid (Mem w [(w.heap.size+1+1,#[.int .i64 0]),(w.heap.size+1,#[.float .f64 0,.float .f64 0]),(w.heap.size,#[.float .f64 0,.float .f64 0])] (((w.alloc (.cells #[.float .f64 0,.float .f64 0] 31)).alloc (.cells #[.float .f64 0,.float .f64 0] 31)).alloc (.cells #[.int .i64 0] 81))):=by
   have h:=(((Mem.nil w).made #[.float .f64 0,.float .f64 0] 31).made #[.float .f64 0,.float .f64 0] 31).made #[.int .i64 0] 81
   simp only [World.size_alloc] at h
   exact Lib.hid h
 go_enter Tryz.func79,Tryz.ntmps79
 go_upto_block 0 with fail
 go_cut [4] (AtCut j ((w.alloc (.cells #[.float .f64 0,.float .f64 0] 31)).alloc (.cells #[.float .f64 0,.float .f64 0] 31)))
 case first =>
   go_wp2_with fail
   go_loop [4] (fun v=>∃ k:Nat,k≤j∧v = .int .i64 k) (fun v=>(5 - intOf v).toNat)
   case atStart=>exact ⟨0,Nat.zero_le _,rfl⟩
   case round =>
     clear M cX cQ cS cP cA cM hq c20 cT c19 cNs cNk bS bK bX bY hR
     obtain⟨k,hk,rfl⟩:=hrel
     have hw:wrap64 (2*(k:Int))=2*(k:Int):=wrap64_in _ (by omega) (by omega)
     by_cases h4:k < 4
     · have hq4:=fun t w=>run_float_arith (P:=Tryz.prog) (w:=w) .quo t .f64 _ _ _ (run_eighth k h4)
       have ht:=H.out k h4
       by_cases hlt:k < j
       · rw [decide_eq_true hlt] at ht
         clear H
         go_wp2
         go_round
         case rel=>exact ⟨k+1,by omega,by go_num⟩
         case measure=>simp [intOf]; omega
       · rw [decide_eq_false hlt] at ht
         obtain rfl:k=j:=by omega
         clear H
         go_wp2_with fail
         go_meet
         exact ⟨rfl,rfl⟩
     · obtain rfl:k=j:=by omega
       obtain rfl:k=4:=by omega
       clear H
       go_wp2_with fail
       go_meet
       exact ⟨rfl,rfl⟩
 case rest =>
   obtain⟨w0,rfl⟩:∃ x:World,x=wc:=⟨_,rfl⟩
   obtain⟨rfl,rfl⟩:=hcut
   clear H
   have hq1:=hq.out
   go_upto_region 5 with fail
   revert M
   generalize (((w.alloc (.cells #[.float .f64 0,.float .f64 0] 31)).alloc (.cells #[.float .f64 0,.float .f64 0] 31)).alloc (.cells #[.int .i64 0] 81))=Wc
   intro M
   have E:Hid (Env Wc (w.heap.size+1+1) [(w.heap.size+1,#[.float .f64 0,.float .f64 0]),(w.heap.size,#[.float .f64 0,.float .f64 0])] Wc):=Lib.hid (((Env.start (M.out.nth 0 rfl)).add (M.out.nth 2 rfl) (by simp; omega)).add (M.out.nth 1 rfl) (by simp))
   have zc:w.heap.size+1+1 < Wc.heap.size:=M.out.size 0 rfl
   go_wp2_with fail
   refine (cX.out _ E.out.cal).mono ?_
   rintro r w1 ⟨rfl,hp⟩
   replace E:=Lib.hid (E.out.putc hp)
   clear hp
   go_wp2_with fail
   refine (cQ.out _ E.out.cal).mono ?_
   rintro r w2 ⟨rfl,hp⟩
   replace E:=Lib.hid (E.out.putc hp)
   clear hp
   go_wp2_with fail
   refine (cS.out _ E.out.cal).mono ?_
   rintro r w3 ⟨rfl,hp⟩
   replace E:=Lib.hid (E.out.putc hp)
   clear hp
   have z3:w.heap.size+1+1 < w3.heap.size:=E.out.cal.1
   replace E:=Lib.hid (E.out.made #[.float .f64 bl,.float .f64 bh] 31)
   go_wp2_with fail
   refine (cP.out _).mono ?_
   rintro r w4 ⟨rfl,hb⟩
   replace E:=Lib.hid ((E.out.below hb).made #[.float .f64 4614256656552045848,.float .f64 4614256656552045849] 31)
   clear hb cX cQ cS cP hq1 hq
   go_upto_region 7 with fail
   revert E
   generalize w4.alloc (.cells #[.float .f64 4614256656552045848,.float .f64 4614256656552045849] 31)=Wt
   intro E
   obtain⟨y0,v0⟩:=(E.out.blocks (w4.heap.size,#[.float .f64 4614256656552045848,.float .f64 4614256656552045849]) (by simp)).1.two
   have z0:=(E.out.blocks (w4.heap.size,#[.float .f64 4614256656552045848,.float .f64 4614256656552045849]) (by simp)).1.1
   obtain⟨y1,v1⟩:=(E.out.blocks (w3.heap.size,#[.float .f64 bl,.float .f64 bh]) (by simp)).1.two
   have z1:=(E.out.blocks (w3.heap.size,#[.float .f64 bl,.float .f64 bh]) (by simp)).1.1
   have k8:=(E.out.nth 0 rfl).2.1
   have k9:=(E.out.nth 0 rfl).2.2
   go_cut [8] (KeptE Wc (w.heap.size+1+1) [(w4.heap.size,#[.float .f64 4614256656552045848,.float .f64 4614256656552045849]),(w3.heap.size,#[.float .f64 bl,.float .f64 bh]),(w.heap.size+1,#[.float .f64 0,.float .f64 0]),(w.heap.size,#[.float .f64 0,.float .f64 0])] tl th)
   case first =>
     go_region_held3 (fun w'=>(w'.cell? ⟨w4.heap.size,0,none⟩=some (.float .f64 4614256656552045848)∧w'.cell? ⟨w4.heap.size,1,none⟩=some (.float .f64 4614256656552045849))∧(w'.cell? ⟨w3.heap.size,0,none⟩=some (.float .f64 bl)∧w'.cell? ⟨w3.heap.size,1,none⟩=some (.float .f64 bh))) (((try dsimp only); (repeat' apply And.intro); all_goals (repeat (first | (with_reducible assumption) | ((with_reducible refine keep_undrew ?_); (with_reducible assumption)) | (with_reducible refine keep_drew ?_) | (with_reducible refine keep_alloc _ ?_) | (with_reducible refine keep_set _ (by first | (with_reducible assumption) | omega) ?_)))))
       (first
         | (go_at_call 120; (with_reducible refine ((cA).out _ (E.out).cal).mono ?_); rintro rr w9 ⟨rfl,hp⟩; have E':=Lib.hid ((E.out).putc hp); clear E hp; clear y0 v0 z0 y1 v1 z1 k8 k9; have E:=E'; clear E'; obtain⟨y0,v0⟩:=(E.out.blocks (w4.heap.size,#[.float .f64 4614256656552045848,.float .f64 4614256656552045849]) (by simp)).1.two; have z0:=(E.out.blocks (w4.heap.size,#[.float .f64 4614256656552045848,.float .f64 4614256656552045849]) (by simp)).1.1; obtain⟨y1,v1⟩:=(E.out.blocks (w3.heap.size,#[.float .f64 bl,.float .f64 bh]) (by simp)).1.two; have z1:=(E.out.blocks (w3.heap.size,#[.float .f64 bl,.float .f64 bh]) (by simp)).1.1; have k8:=(E.out.nth 0 rfl).2.1; have k9:=(E.out.nth 0 rfl).2.2)
         | (go_at_call 120; (with_reducible refine ((cA).out _ (E.out.drew).cal).mono ?_); rintro rr w9 ⟨rfl,hp⟩; have E':=Lib.hid ((E.out.drew).putc hp); clear E hp; clear y0 v0 z0 y1 v1 z1 k8 k9; have E:=E'; clear E'; obtain⟨y0,v0⟩:=(E.out.blocks (w4.heap.size,#[.float .f64 4614256656552045848,.float .f64 4614256656552045849]) (by simp)).1.two; have z0:=(E.out.blocks (w4.heap.size,#[.float .f64 4614256656552045848,.float .f64 4614256656552045849]) (by simp)).1.1; obtain⟨y1,v1⟩:=(E.out.blocks (w3.heap.size,#[.float .f64 bl,.float .f64 bh]) (by simp)).1.two; have z1:=(E.out.blocks (w3.heap.size,#[.float .f64 bl,.float .f64 bh]) (by simp)).1.1; have k8:=(E.out.nth 0 rfl).2.1; have k9:=(E.out.nth 0 rfl).2.2)
         | (go_at_call 120; (with_reducible refine ((cA).out _ ((E.out.made _ _)).cal).mono ?_); rintro rr w9 ⟨rfl,hp⟩; have hF:=Lib.hid E.out.fresh; have a0:=Nat.ne_of_gt z0; have a1:=Nat.ne_of_gt z1; have E':=Lib.hid (((E.out.made _ _)).putc hp); clear E hp; clear y0 v0 z0 y1 v1 z1 k8 k9; have E:=E'; clear E'; obtain⟨y0,v0⟩:=(E.out.blocks (w4.heap.size,#[.float .f64 4614256656552045848,.float .f64 4614256656552045849]) (by simp)).1.two; have z0:=(E.out.blocks (w4.heap.size,#[.float .f64 4614256656552045848,.float .f64 4614256656552045849]) (by simp)).1.1; obtain⟨y1,v1⟩:=(E.out.blocks (w3.heap.size,#[.float .f64 bl,.float .f64 bh]) (by simp)).1.two; have z1:=(E.out.blocks (w3.heap.size,#[.float .f64 bl,.float .f64 bh]) (by simp)).1.1; have k8:=(E.out.nth 0 rfl).2.1; have k9:=(E.out.nth 0 rfl).2.2)
         | (go_at_call 120; (with_reducible refine ((cA).out _ ((E.out.made _ _).drew).cal).mono ?_); rintro rr w9 ⟨rfl,hp⟩; have hF:=Lib.hid E.out.fresh; have a0:=Nat.ne_of_gt z0; have a1:=Nat.ne_of_gt z1; have E':=Lib.hid (((E.out.made _ _).drew).putc hp); clear E hp; clear y0 v0 z0 y1 v1 z1 k8 k9; have E:=E'; clear E'; obtain⟨y0,v0⟩:=(E.out.blocks (w4.heap.size,#[.float .f64 4614256656552045848,.float .f64 4614256656552045849]) (by simp)).1.two; have z0:=(E.out.blocks (w4.heap.size,#[.float .f64 4614256656552045848,.float .f64 4614256656552045849]) (by simp)).1.1; obtain⟨y1,v1⟩:=(E.out.blocks (w3.heap.size,#[.float .f64 bl,.float .f64 bh]) (by simp)).1.two; have z1:=(E.out.blocks (w3.heap.size,#[.float .f64 bl,.float .f64 bh]) (by simp)).1.1; have k8:=(E.out.nth 0 rfl).2.1; have k9:=(E.out.nth 0 rfl).2.2)
         | (go_at_call 45; (with_reducible refine ((cM).out _ (E.out).cal).mono ?_); rintro rr w9 ⟨rfl,hp⟩; have E':=Lib.hid ((E.out).putc hp); clear E hp; clear y0 v0 z0 y1 v1 z1 k8 k9; have E:=E'; clear E'; obtain⟨y0,v0⟩:=(E.out.blocks (w4.heap.size,#[.float .f64 4614256656552045848,.float .f64 4614256656552045849]) (by simp)).1.two; have z0:=(E.out.blocks (w4.heap.size,#[.float .f64 4614256656552045848,.float .f64 4614256656552045849]) (by simp)).1.1; obtain⟨y1,v1⟩:=(E.out.blocks (w3.heap.size,#[.float .f64 bl,.float .f64 bh]) (by simp)).1.two; have z1:=(E.out.blocks (w3.heap.size,#[.float .f64 bl,.float .f64 bh]) (by simp)).1.1; have k8:=(E.out.nth 0 rfl).2.1; have k9:=(E.out.nth 0 rfl).2.2)
         | (go_at_call 45; (with_reducible refine ((cM).out _ (E.out.drew).cal).mono ?_); rintro rr w9 ⟨rfl,hp⟩; have E':=Lib.hid ((E.out.drew).putc hp); clear E hp; clear y0 v0 z0 y1 v1 z1 k8 k9; have E:=E'; clear E'; obtain⟨y0,v0⟩:=(E.out.blocks (w4.heap.size,#[.float .f64 4614256656552045848,.float .f64 4614256656552045849]) (by simp)).1.two; have z0:=(E.out.blocks (w4.heap.size,#[.float .f64 4614256656552045848,.float .f64 4614256656552045849]) (by simp)).1.1; obtain⟨y1,v1⟩:=(E.out.blocks (w3.heap.size,#[.float .f64 bl,.float .f64 bh]) (by simp)).1.two; have z1:=(E.out.blocks (w3.heap.size,#[.float .f64 bl,.float .f64 bh]) (by simp)).1.1; have k8:=(E.out.nth 0 rfl).2.1; have k9:=(E.out.nth 0 rfl).2.2)
         | (go_at_call 45; (with_reducible refine ((cM).out _ ((E.out.made _ _)).cal).mono ?_); rintro rr w9 ⟨rfl,hp⟩; have hF:=Lib.hid E.out.fresh; have a0:=Nat.ne_of_gt z0; have a1:=Nat.ne_of_gt z1; have E':=Lib.hid (((E.out.made _ _)).putc hp); clear E hp; clear y0 v0 z0 y1 v1 z1 k8 k9; have E:=E'; clear E'; obtain⟨y0,v0⟩:=(E.out.blocks (w4.heap.size,#[.float .f64 4614256656552045848,.float .f64 4614256656552045849]) (by simp)).1.two; have z0:=(E.out.blocks (w4.heap.size,#[.float .f64 4614256656552045848,.float .f64 4614256656552045849]) (by simp)).1.1; obtain⟨y1,v1⟩:=(E.out.blocks (w3.heap.size,#[.float .f64 bl,.float .f64 bh]) (by simp)).1.two; have z1:=(E.out.blocks (w3.heap.size,#[.float .f64 bl,.float .f64 bh]) (by simp)).1.1; have k8:=(E.out.nth 0 rfl).2.1; have k9:=(E.out.nth 0 rfl).2.2)
         | (go_at_call 45; (with_reducible refine ((cM).out _ ((E.out.made _ _).drew).cal).mono ?_); rintro rr w9 ⟨rfl,hp⟩; have hF:=Lib.hid E.out.fresh; have a0:=Nat.ne_of_gt z0; have a1:=Nat.ne_of_gt z1; have E':=Lib.hid (((E.out.made _ _).drew).putc hp); clear E hp; clear y0 v0 z0 y1 v1 z1 k8 k9; have E:=E'; clear E'; obtain⟨y0,v0⟩:=(E.out.blocks (w4.heap.size,#[.float .f64 4614256656552045848,.float .f64 4614256656552045849]) (by simp)).1.two; have z0:=(E.out.blocks (w4.heap.size,#[.float .f64 4614256656552045848,.float .f64 4614256656552045849]) (by simp)).1.1; obtain⟨y1,v1⟩:=(E.out.blocks (w3.heap.size,#[.float .f64 bl,.float .f64 bh]) (by simp)).1.two; have z1:=(E.out.blocks (w3.heap.size,#[.float .f64 bl,.float .f64 bh]) (by simp)).1.1; have k8:=(E.out.nth 0 rfl).2.1; have k9:=(E.out.nth 0 rfl).2.2))
     all_goals (go_wp2_with fail; go_meet)
     all_goals first | exact KeptE.made E.out _ _ _ | exact KeptE.set E.out hF.out _ _
   case rest =>
   obtain⟨xt,rfl⟩:∃ x:World,x=wc:=⟨_,rfl⟩
   obtain⟨qt,rfl,hqt,hnt,hE⟩:=hcut
   clear y0 v0 z0 y1 v1 z1 k8 k9
   clear E
   have E:=Lib.hid hE
   clear hE
   clear cA cM
   go_upto_region 8 with fail
   obtain⟨y0,v0⟩:=(E.out.blocks (qt,#[.float .f64 tl,.float .f64 th]) (by simp)).1.two
   have z0:=(E.out.blocks (qt,#[.float .f64 tl,.float .f64 th]) (by simp)).1.1
   have k8:=(E.out.nth 0 rfl).2.1
   have k9:=(E.out.nth 0 rfl).2.2
   go_cut [9] (KeptE Wc (w.heap.size+1+1) [(qt,#[.float .f64 tl,.float .f64 th]),(w4.heap.size,#[.float .f64 4614256656552045848,.float .f64 4614256656552045849]),(w3.heap.size,#[.float .f64 bl,.float .f64 bh]),(w.heap.size+1,#[.float .f64 0,.float .f64 0]),(w.heap.size,#[.float .f64 0,.float .f64 0])] sl sh)
   case first =>
     go_region_held3 (fun w'=>(w'.cell? ⟨qt,0,none⟩=some (.float .f64 tl)∧w'.cell? ⟨qt,1,none⟩=some (.float .f64 th))) (((try dsimp only); (repeat' apply And.intro); all_goals (repeat (first | (with_reducible assumption) | ((with_reducible refine keep_undrew ?_); (with_reducible assumption)) | (with_reducible refine keep_drew ?_) | (with_reducible refine keep_alloc _ ?_) | (with_reducible refine keep_set _ (by first | (with_reducible assumption) | omega) ?_)))))
       (first
         | (go_at_call 121; (with_reducible refine ((c20).out _ (E.out).cal).mono ?_); rintro rr w9 ⟨rfl,hp⟩; have E':=Lib.hid ((E.out).putc hp); clear E hp; clear y0 v0 z0 k8 k9; have E:=E'; clear E'; obtain⟨y0,v0⟩:=(E.out.blocks (qt,#[.float .f64 tl,.float .f64 th]) (by simp)).1.two; have z0:=(E.out.blocks (qt,#[.float .f64 tl,.float .f64 th]) (by simp)).1.1; have k8:=(E.out.nth 0 rfl).2.1; have k9:=(E.out.nth 0 rfl).2.2)
         | (go_at_call 121; (with_reducible refine ((c20).out _ (E.out.drew).cal).mono ?_); rintro rr w9 ⟨rfl,hp⟩; have E':=Lib.hid ((E.out.drew).putc hp); clear E hp; clear y0 v0 z0 k8 k9; have E:=E'; clear E'; obtain⟨y0,v0⟩:=(E.out.blocks (qt,#[.float .f64 tl,.float .f64 th]) (by simp)).1.two; have z0:=(E.out.blocks (qt,#[.float .f64 tl,.float .f64 th]) (by simp)).1.1; have k8:=(E.out.nth 0 rfl).2.1; have k9:=(E.out.nth 0 rfl).2.2)
         | (go_at_call 121; (with_reducible refine ((c20).out _ ((E.out.made _ _)).cal).mono ?_); rintro rr w9 ⟨rfl,hp⟩; have hF:=Lib.hid E.out.fresh; have a0:=Nat.ne_of_gt z0; have E':=Lib.hid (((E.out.made _ _)).putc hp); clear E hp; clear y0 v0 z0 k8 k9; have E:=E'; clear E'; obtain⟨y0,v0⟩:=(E.out.blocks (qt,#[.float .f64 tl,.float .f64 th]) (by simp)).1.two; have z0:=(E.out.blocks (qt,#[.float .f64 tl,.float .f64 th]) (by simp)).1.1; have k8:=(E.out.nth 0 rfl).2.1; have k9:=(E.out.nth 0 rfl).2.2)
         | (go_at_call 121; (with_reducible refine ((c20).out _ ((E.out.made _ _).drew).cal).mono ?_); rintro rr w9 ⟨rfl,hp⟩; have hF:=Lib.hid E.out.fresh; have a0:=Nat.ne_of_gt z0; have E':=Lib.hid (((E.out.made _ _).drew).putc hp); clear E hp; clear y0 v0 z0 k8 k9; have E:=E'; clear E'; obtain⟨y0,v0⟩:=(E.out.blocks (qt,#[.float .f64 tl,.float .f64 th]) (by simp)).1.two; have z0:=(E.out.blocks (qt,#[.float .f64 tl,.float .f64 th]) (by simp)).1.1; have k8:=(E.out.nth 0 rfl).2.1; have k9:=(E.out.nth 0 rfl).2.2)
         | (go_at_call 45; (with_reducible refine ((cT).out _ (E.out).cal).mono ?_); rintro rr w9 ⟨rfl,hp⟩; have E':=Lib.hid ((E.out).putc hp); clear E hp; clear y0 v0 z0 k8 k9; have E:=E'; clear E'; obtain⟨y0,v0⟩:=(E.out.blocks (qt,#[.float .f64 tl,.float .f64 th]) (by simp)).1.two; have z0:=(E.out.blocks (qt,#[.float .f64 tl,.float .f64 th]) (by simp)).1.1; have k8:=(E.out.nth 0 rfl).2.1; have k9:=(E.out.nth 0 rfl).2.2)
         | (go_at_call 45; (with_reducible refine ((cT).out _ (E.out.drew).cal).mono ?_); rintro rr w9 ⟨rfl,hp⟩; have E':=Lib.hid ((E.out.drew).putc hp); clear E hp; clear y0 v0 z0 k8 k9; have E:=E'; clear E'; obtain⟨y0,v0⟩:=(E.out.blocks (qt,#[.float .f64 tl,.float .f64 th]) (by simp)).1.two; have z0:=(E.out.blocks (qt,#[.float .f64 tl,.float .f64 th]) (by simp)).1.1; have k8:=(E.out.nth 0 rfl).2.1; have k9:=(E.out.nth 0 rfl).2.2)
         | (go_at_call 45; (with_reducible refine ((cT).out _ ((E.out.made _ _)).cal).mono ?_); rintro rr w9 ⟨rfl,hp⟩; have hF:=Lib.hid E.out.fresh; have a0:=Nat.ne_of_gt z0; have E':=Lib.hid (((E.out.made _ _)).putc hp); clear E hp; clear y0 v0 z0 k8 k9; have E:=E'; clear E'; obtain⟨y0,v0⟩:=(E.out.blocks (qt,#[.float .f64 tl,.float .f64 th]) (by simp)).1.two; have z0:=(E.out.blocks (qt,#[.float .f64 tl,.float .f64 th]) (by simp)).1.1; have k8:=(E.out.nth 0 rfl).2.1; have k9:=(E.out.nth 0 rfl).2.2)
         | (go_at_call 45; (with_reducible refine ((cT).out _ ((E.out.made _ _).drew).cal).mono ?_); rintro rr w9 ⟨rfl,hp⟩; have hF:=Lib.hid E.out.fresh; have a0:=Nat.ne_of_gt z0; have E':=Lib.hid (((E.out.made _ _).drew).putc hp); clear E hp; clear y0 v0 z0 k8 k9; have E:=E'; clear E'; obtain⟨y0,v0⟩:=(E.out.blocks (qt,#[.float .f64 tl,.float .f64 th]) (by simp)).1.two; have z0:=(E.out.blocks (qt,#[.float .f64 tl,.float .f64 th]) (by simp)).1.1; have k8:=(E.out.nth 0 rfl).2.1; have k9:=(E.out.nth 0 rfl).2.2))
     all_goals (go_wp2_with fail; go_meet)
     all_goals first | exact KeptE.made E.out _ _ _ | exact KeptE.set E.out hF.out _ _
   case rest =>
   obtain⟨xs,rfl⟩:∃ x:World,x=wc:=⟨_,rfl⟩
   obtain⟨qs,rfl,hqs,hns,hE⟩:=hcut
   clear y0 v0 z0 k8 k9
   clear E
   have E:=Lib.hid hE
   clear hE
   obtain⟨y0,v0⟩:=(E.out.blocks (qt,#[.float .f64 tl,.float .f64 th]) (by simp)).1.two
   go_wp2_with fail
   refine (c19.out _ E.out.cal).mono ?_
   rintro r w5 ⟨rfl,hp⟩
   have z5:w.heap.size+1+1 < w5.heap.size:=(E.out.putc hp).cal.1
   replace E:Hid (Env Wc (w.heap.size+1+1) [(w5.heap.size,#[.float .f64 kl,.float .f64 kh]),(qs,#[.float .f64 sl,.float .f64 sh]),(w.heap.size+1,#[.float .f64 0,.float .f64 0]),(w.heap.size,#[.float .f64 0,.float .f64 0])] (w5.alloc (.cells #[.float .f64 kl,.float .f64 kh] 31))):=Lib.hid (((E.out.putc hp).made #[.float .f64 kl,.float .f64 kh] 31).sub (by simp))
   clear hp y0 v0 c20 cT c19
   have HR:=hR.out
   clear hR
   rcases HR with ⟨rfl | rfl,rfl,rfl,rfl,rfl⟩ | ⟨rfl,rfl,rfl,rfl,rfl⟩ | ⟨rfl,rfl,rfl,rfl,rfl⟩ | ⟨rfl,rfl,rfl,rfl,rfl⟩
   · go_upto_region 17 with fail
     revert E
     generalize w5.alloc (.cells #[.float .f64 kl,.float .f64 kh] 31)=W5
     intro E
     obtain⟨y0,v0⟩:=(E.out.blocks (w5.heap.size,#[.float .f64 kl,.float .f64 kh]) (by simp)).1.two
     obtain⟨y1,v1⟩:=(E.out.blocks (qs,#[.float .f64 sl,.float .f64 sh]) (by simp)).1.two
     have k5:=(E.out.blocks (w.heap.size,#[.float .f64 0,.float .f64 0]) (by simp)).1.2.1
     have k6:=(E.out.blocks (w.heap.size,#[.float .f64 0,.float .f64 0]) (by simp)).1.2.2
     have k7:=(E.out.blocks (w.heap.size+1,#[.float .f64 0,.float .f64 0]) (by simp)).1.2.1
     have k8:=(E.out.blocks (w.heap.size+1,#[.float .f64 0,.float .f64 0]) (by simp)).1.2.2
     go_region_held3 (fun w'=>(w'.cell? ⟨w5.heap.size,0,none⟩=some (.float .f64 kl)∧w'.cell? ⟨w5.heap.size,1,none⟩=some (.float .f64 kh))∧(w'.cell? ⟨qs,0,none⟩=some (.float .f64 sl)∧w'.cell? ⟨qs,1,none⟩=some (.float .f64 sh))) (((try dsimp only); (repeat' apply And.intro); all_goals (repeat (first | (with_reducible assumption) | ((with_reducible refine keep_undrew ?_); (with_reducible assumption)) | (with_reducible refine keep_drew ?_) | (with_reducible refine keep_alloc _ ?_) | (with_reducible refine keep_set _ (by first | (with_reducible assumption) | omega) ?_)))))
       (first
         | (go_at_call 122; (with_reducible refine (bS.out _).mono ?_); rintro rr w9 ⟨rfl,hb⟩; have E':=Lib.hid ((E.out).below hb); clear E hb; clear y0 v0 y1 v1 k5 k6 k7 k8; have E:=E'; clear E'; obtain⟨y0,v0⟩:=(E.out.blocks (w5.heap.size,#[.float .f64 kl,.float .f64 kh]) (by simp)).1.two; obtain⟨y1,v1⟩:=(E.out.blocks (qs,#[.float .f64 sl,.float .f64 sh]) (by simp)).1.two; have k5:=(E.out.blocks (w.heap.size,#[.float .f64 0,.float .f64 0]) (by simp)).1.2.1; have k6:=(E.out.blocks (w.heap.size,#[.float .f64 0,.float .f64 0]) (by simp)).1.2.2; have k7:=(E.out.blocks (w.heap.size+1,#[.float .f64 0,.float .f64 0]) (by simp)).1.2.1; have k8:=(E.out.blocks (w.heap.size+1,#[.float .f64 0,.float .f64 0]) (by simp)).1.2.2)
         | (go_at_call 122; (with_reducible refine (bS.out _).mono ?_); rintro rr w9 ⟨rfl,hb⟩; have E':=Lib.hid ((E.out.drew).below hb); clear E hb; clear y0 v0 y1 v1 k5 k6 k7 k8; have E:=E'; clear E'; obtain⟨y0,v0⟩:=(E.out.blocks (w5.heap.size,#[.float .f64 kl,.float .f64 kh]) (by simp)).1.two; obtain⟨y1,v1⟩:=(E.out.blocks (qs,#[.float .f64 sl,.float .f64 sh]) (by simp)).1.two; have k5:=(E.out.blocks (w.heap.size,#[.float .f64 0,.float .f64 0]) (by simp)).1.2.1; have k6:=(E.out.blocks (w.heap.size,#[.float .f64 0,.float .f64 0]) (by simp)).1.2.2; have k7:=(E.out.blocks (w.heap.size+1,#[.float .f64 0,.float .f64 0]) (by simp)).1.2.1; have k8:=(E.out.blocks (w.heap.size+1,#[.float .f64 0,.float .f64 0]) (by simp)).1.2.2)
         | (go_at_call 122; (with_reducible refine (bK.out _).mono ?_); rintro rr w9 ⟨rfl,hb⟩; have E':=Lib.hid ((E.out).below hb); clear E hb; clear y0 v0 y1 v1 k5 k6 k7 k8; have E:=E'; clear E'; obtain⟨y0,v0⟩:=(E.out.blocks (w5.heap.size,#[.float .f64 kl,.float .f64 kh]) (by simp)).1.two; obtain⟨y1,v1⟩:=(E.out.blocks (qs,#[.float .f64 sl,.float .f64 sh]) (by simp)).1.two; have k5:=(E.out.blocks (w.heap.size,#[.float .f64 0,.float .f64 0]) (by simp)).1.2.1; have k6:=(E.out.blocks (w.heap.size,#[.float .f64 0,.float .f64 0]) (by simp)).1.2.2; have k7:=(E.out.blocks (w.heap.size+1,#[.float .f64 0,.float .f64 0]) (by simp)).1.2.1; have k8:=(E.out.blocks (w.heap.size+1,#[.float .f64 0,.float .f64 0]) (by simp)).1.2.2)
         | (go_at_call 122; (with_reducible refine (bK.out _).mono ?_); rintro rr w9 ⟨rfl,hb⟩; have E':=Lib.hid ((E.out.drew).below hb); clear E hb; clear y0 v0 y1 v1 k5 k6 k7 k8; have E:=E'; clear E'; obtain⟨y0,v0⟩:=(E.out.blocks (w5.heap.size,#[.float .f64 kl,.float .f64 kh]) (by simp)).1.two; obtain⟨y1,v1⟩:=(E.out.blocks (qs,#[.float .f64 sl,.float .f64 sh]) (by simp)).1.two; have k5:=(E.out.blocks (w.heap.size,#[.float .f64 0,.float .f64 0]) (by simp)).1.2.1; have k6:=(E.out.blocks (w.heap.size,#[.float .f64 0,.float .f64 0]) (by simp)).1.2.2; have k7:=(E.out.blocks (w.heap.size+1,#[.float .f64 0,.float .f64 0]) (by simp)).1.2.1; have k8:=(E.out.blocks (w.heap.size+1,#[.float .f64 0,.float .f64 0]) (by simp)).1.2.2)
         | (go_at_call 122; (with_reducible refine (bX.out _).mono ?_); rintro rr w9 ⟨rfl,hb⟩; have E':=Lib.hid ((E.out).below hb); clear E hb; clear y0 v0 y1 v1 k5 k6 k7 k8; have E:=E'; clear E'; obtain⟨y0,v0⟩:=(E.out.blocks (w5.heap.size,#[.float .f64 kl,.float .f64 kh]) (by simp)).1.two; obtain⟨y1,v1⟩:=(E.out.blocks (qs,#[.float .f64 sl,.float .f64 sh]) (by simp)).1.two; have k5:=(E.out.blocks (w.heap.size,#[.float .f64 0,.float .f64 0]) (by simp)).1.2.1; have k6:=(E.out.blocks (w.heap.size,#[.float .f64 0,.float .f64 0]) (by simp)).1.2.2; have k7:=(E.out.blocks (w.heap.size+1,#[.float .f64 0,.float .f64 0]) (by simp)).1.2.1; have k8:=(E.out.blocks (w.heap.size+1,#[.float .f64 0,.float .f64 0]) (by simp)).1.2.2)
         | (go_at_call 122; (with_reducible refine (bX.out _).mono ?_); rintro rr w9 ⟨rfl,hb⟩; have E':=Lib.hid ((E.out.drew).below hb); clear E hb; clear y0 v0 y1 v1 k5 k6 k7 k8; have E:=E'; clear E'; obtain⟨y0,v0⟩:=(E.out.blocks (w5.heap.size,#[.float .f64 kl,.float .f64 kh]) (by simp)).1.two; obtain⟨y1,v1⟩:=(E.out.blocks (qs,#[.float .f64 sl,.float .f64 sh]) (by simp)).1.two; have k5:=(E.out.blocks (w.heap.size,#[.float .f64 0,.float .f64 0]) (by simp)).1.2.1; have k6:=(E.out.blocks (w.heap.size,#[.float .f64 0,.float .f64 0]) (by simp)).1.2.2; have k7:=(E.out.blocks (w.heap.size+1,#[.float .f64 0,.float .f64 0]) (by simp)).1.2.1; have k8:=(E.out.blocks (w.heap.size+1,#[.float .f64 0,.float .f64 0]) (by simp)).1.2.2)
         | (go_at_call 122; (with_reducible refine (bY.out _).mono ?_); rintro rr w9 ⟨rfl,hb⟩; have E':=Lib.hid ((E.out).below hb); clear E hb; clear y0 v0 y1 v1 k5 k6 k7 k8; have E:=E'; clear E'; obtain⟨y0,v0⟩:=(E.out.blocks (w5.heap.size,#[.float .f64 kl,.float .f64 kh]) (by simp)).1.two; obtain⟨y1,v1⟩:=(E.out.blocks (qs,#[.float .f64 sl,.float .f64 sh]) (by simp)).1.two; have k5:=(E.out.blocks (w.heap.size,#[.float .f64 0,.float .f64 0]) (by simp)).1.2.1; have k6:=(E.out.blocks (w.heap.size,#[.float .f64 0,.float .f64 0]) (by simp)).1.2.2; have k7:=(E.out.blocks (w.heap.size+1,#[.float .f64 0,.float .f64 0]) (by simp)).1.2.1; have k8:=(E.out.blocks (w.heap.size+1,#[.float .f64 0,.float .f64 0]) (by simp)).1.2.2)
         | (go_at_call 122; (with_reducible refine (bY.out _).mono ?_); rintro rr w9 ⟨rfl,hb⟩; have E':=Lib.hid ((E.out.drew).below hb); clear E hb; clear y0 v0 y1 v1 k5 k6 k7 k8; have E:=E'; clear E'; obtain⟨y0,v0⟩:=(E.out.blocks (w5.heap.size,#[.float .f64 kl,.float .f64 kh]) (by simp)).1.two; obtain⟨y1,v1⟩:=(E.out.blocks (qs,#[.float .f64 sl,.float .f64 sh]) (by simp)).1.two; have k5:=(E.out.blocks (w.heap.size,#[.float .f64 0,.float .f64 0]) (by simp)).1.2.1; have k6:=(E.out.blocks (w.heap.size,#[.float .f64 0,.float .f64 0]) (by simp)).1.2.2; have k7:=(E.out.blocks (w.heap.size+1,#[.float .f64 0,.float .f64 0]) (by simp)).1.2.1; have k8:=(E.out.blocks (w.heap.size+1,#[.float .f64 0,.float .f64 0]) (by simp)).1.2.2)
         | (go_at_call 123; (with_reducible refine (cNs.out _ (E.out).cal).mono ?_); rintro rr w9 ⟨rfl,hp⟩; have E':=Lib.hid ((E.out).putc hp); clear E hp; clear y0 v0 y1 v1 k5 k6 k7 k8; have E:=E'; clear E'; obtain⟨y0,v0⟩:=(E.out.blocks (w5.heap.size,#[.float .f64 kl,.float .f64 kh]) (by simp)).1.two; obtain⟨y1,v1⟩:=(E.out.blocks (qs,#[.float .f64 sl,.float .f64 sh]) (by simp)).1.two; have k5:=(E.out.blocks (w.heap.size,#[.float .f64 0,.float .f64 0]) (by simp)).1.2.1; have k6:=(E.out.blocks (w.heap.size,#[.float .f64 0,.float .f64 0]) (by simp)).1.2.2; have k7:=(E.out.blocks (w.heap.size+1,#[.float .f64 0,.float .f64 0]) (by simp)).1.2.1; have k8:=(E.out.blocks (w.heap.size+1,#[.float .f64 0,.float .f64 0]) (by simp)).1.2.2)
         | (go_at_call 123; (with_reducible refine (cNs.out _ (E.out.drew).cal).mono ?_); rintro rr w9 ⟨rfl,hp⟩; have E':=Lib.hid ((E.out.drew).putc hp); clear E hp; clear y0 v0 y1 v1 k5 k6 k7 k8; have E:=E'; clear E'; obtain⟨y0,v0⟩:=(E.out.blocks (w5.heap.size,#[.float .f64 kl,.float .f64 kh]) (by simp)).1.two; obtain⟨y1,v1⟩:=(E.out.blocks (qs,#[.float .f64 sl,.float .f64 sh]) (by simp)).1.two; have k5:=(E.out.blocks (w.heap.size,#[.float .f64 0,.float .f64 0]) (by simp)).1.2.1; have k6:=(E.out.blocks (w.heap.size,#[.float .f64 0,.float .f64 0]) (by simp)).1.2.2; have k7:=(E.out.blocks (w.heap.size+1,#[.float .f64 0,.float .f64 0]) (by simp)).1.2.1; have k8:=(E.out.blocks (w.heap.size+1,#[.float .f64 0,.float .f64 0]) (by simp)).1.2.2)
         | (go_at_call 123; (with_reducible refine (cNk.out _ (E.out).cal).mono ?_); rintro rr w9 ⟨rfl,hp⟩; have E':=Lib.hid ((E.out).putc hp); clear E hp; clear y0 v0 y1 v1 k5 k6 k7 k8; have E:=E'; clear E'; obtain⟨y0,v0⟩:=(E.out.blocks (w5.heap.size,#[.float .f64 kl,.float .f64 kh]) (by simp)).1.two; obtain⟨y1,v1⟩:=(E.out.blocks (qs,#[.float .f64 sl,.float .f64 sh]) (by simp)).1.two; have k5:=(E.out.blocks (w.heap.size,#[.float .f64 0,.float .f64 0]) (by simp)).1.2.1; have k6:=(E.out.blocks (w.heap.size,#[.float .f64 0,.float .f64 0]) (by simp)).1.2.2; have k7:=(E.out.blocks (w.heap.size+1,#[.float .f64 0,.float .f64 0]) (by simp)).1.2.1; have k8:=(E.out.blocks (w.heap.size+1,#[.float .f64 0,.float .f64 0]) (by simp)).1.2.2)
         | (go_at_call 123; (with_reducible refine (cNk.out _ (E.out.drew).cal).mono ?_); rintro rr w9 ⟨rfl,hp⟩; have E':=Lib.hid ((E.out.drew).putc hp); clear E hp; clear y0 v0 y1 v1 k5 k6 k7 k8; have E:=E'; clear E'; obtain⟨y0,v0⟩:=(E.out.blocks (w5.heap.size,#[.float .f64 kl,.float .f64 kh]) (by simp)).1.two; obtain⟨y1,v1⟩:=(E.out.blocks (qs,#[.float .f64 sl,.float .f64 sh]) (by simp)).1.two; have k5:=(E.out.blocks (w.heap.size,#[.float .f64 0,.float .f64 0]) (by simp)).1.2.1; have k6:=(E.out.blocks (w.heap.size,#[.float .f64 0,.float .f64 0]) (by simp)).1.2.2; have k7:=(E.out.blocks (w.heap.size+1,#[.float .f64 0,.float .f64 0]) (by simp)).1.2.1; have k8:=(E.out.blocks (w.heap.size+1,#[.float .f64 0,.float .f64 0]) (by simp)).1.2.2))
     have M1:Hid (Mem w [(w.heap.size,#[.float .f64 0,.float .f64 0]),(w.heap.size+1,#[.float .f64 0,.float .f64 0])] _):=Lib.hid (M.out.puts (M.out.nth 0 rfl) E.out.put (by omega) [(w.heap.size,#[.float .f64 0,.float .f64 0]),(w.heap.size+1,#[.float .f64 0,.float .f64 0])] (by simp; omega))
     have M2:=Lib.hid (M1.out.sets (M1.out.nth 0 rfl) (.float .f64 al) (.float .f64 ah) (by omega) [(w.heap.size,#[.float .f64 al,.float .f64 ah]),(w.heap.size+1,#[.float .f64 0,.float .f64 0])] (by simp))
     have M3:=Lib.hid (M2.out.sets (M2.out.nth 1 rfl) (.float .f64 dl) (.float .f64 dh) (by omega) [(w.heap.size,#[.float .f64 al,.float .f64 ah]),(w.heap.size+1,#[.float .f64 dl,.float .f64 dh])] (by simp))
     go_wp2
     have f1:=(M3.out.nth 0 rfl).2.1
     have g1:=(M3.out.nth 1 rfl).2.1
     exact bodyPost_ret (v:=.tuple #[.agg #[.float .f64 al,.float .f64 ah],.agg #[.float .f64 dl,.float .f64 dh]]) (by simp [results,Tryz.results79,go_sem,f1,g1]) rfl ⟨rfl,M3.out.base⟩
   · go_upto_region 17 with fail
     revert E
     generalize w5.alloc (.cells #[.float .f64 kl,.float .f64 kh] 31)=W5
     intro E
     obtain⟨y0,v0⟩:=(E.out.blocks (w5.heap.size,#[.float .f64 kl,.float .f64 kh]) (by simp)).1.two
     obtain⟨y1,v1⟩:=(E.out.blocks (qs,#[.float .f64 sl,.float .f64 sh]) (by simp)).1.two
     have k5:=(E.out.blocks (w.heap.size,#[.float .f64 0,.float .f64 0]) (by simp)).1.2.1
     have k6:=(E.out.blocks (w.heap.size,#[.float .f64 0,.float .f64 0]) (by simp)).1.2.2
     have k7:=(E.out.blocks (w.heap.size+1,#[.float .f64 0,.float .f64 0]) (by simp)).1.2.1
     have k8:=(E.out.blocks (w.heap.size+1,#[.float .f64 0,.float .f64 0]) (by simp)).1.2.2
     go_region_held3 (fun w'=>(w'.cell? ⟨w5.heap.size,0,none⟩=some (.float .f64 kl)∧w'.cell? ⟨w5.heap.size,1,none⟩=some (.float .f64 kh))∧(w'.cell? ⟨qs,0,none⟩=some (.float .f64 sl)∧w'.cell? ⟨qs,1,none⟩=some (.float .f64 sh))) (((try dsimp only); (repeat' apply And.intro); all_goals (repeat (first | (with_reducible assumption) | ((with_reducible refine keep_undrew ?_); (with_reducible assumption)) | (with_reducible refine keep_drew ?_) | (with_reducible refine keep_alloc _ ?_) | (with_reducible refine keep_set _ (by first | (with_reducible assumption) | omega) ?_)))))
       (first
         | (go_at_call 122; (with_reducible refine (bS.out _).mono ?_); rintro rr w9 ⟨rfl,hb⟩; have E':=Lib.hid ((E.out).below hb); clear E hb; clear y0 v0 y1 v1 k5 k6 k7 k8; have E:=E'; clear E'; obtain⟨y0,v0⟩:=(E.out.blocks (w5.heap.size,#[.float .f64 kl,.float .f64 kh]) (by simp)).1.two; obtain⟨y1,v1⟩:=(E.out.blocks (qs,#[.float .f64 sl,.float .f64 sh]) (by simp)).1.two; have k5:=(E.out.blocks (w.heap.size,#[.float .f64 0,.float .f64 0]) (by simp)).1.2.1; have k6:=(E.out.blocks (w.heap.size,#[.float .f64 0,.float .f64 0]) (by simp)).1.2.2; have k7:=(E.out.blocks (w.heap.size+1,#[.float .f64 0,.float .f64 0]) (by simp)).1.2.1; have k8:=(E.out.blocks (w.heap.size+1,#[.float .f64 0,.float .f64 0]) (by simp)).1.2.2)
         | (go_at_call 122; (with_reducible refine (bS.out _).mono ?_); rintro rr w9 ⟨rfl,hb⟩; have E':=Lib.hid ((E.out.drew).below hb); clear E hb; clear y0 v0 y1 v1 k5 k6 k7 k8; have E:=E'; clear E'; obtain⟨y0,v0⟩:=(E.out.blocks (w5.heap.size,#[.float .f64 kl,.float .f64 kh]) (by simp)).1.two; obtain⟨y1,v1⟩:=(E.out.blocks (qs,#[.float .f64 sl,.float .f64 sh]) (by simp)).1.two; have k5:=(E.out.blocks (w.heap.size,#[.float .f64 0,.float .f64 0]) (by simp)).1.2.1; have k6:=(E.out.blocks (w.heap.size,#[.float .f64 0,.float .f64 0]) (by simp)).1.2.2; have k7:=(E.out.blocks (w.heap.size+1,#[.float .f64 0,.float .f64 0]) (by simp)).1.2.1; have k8:=(E.out.blocks (w.heap.size+1,#[.float .f64 0,.float .f64 0]) (by simp)).1.2.2)
         | (go_at_call 122; (with_reducible refine (bK.out _).mono ?_); rintro rr w9 ⟨rfl,hb⟩; have E':=Lib.hid ((E.out).below hb); clear E hb; clear y0 v0 y1 v1 k5 k6 k7 k8; have E:=E'; clear E'; obtain⟨y0,v0⟩:=(E.out.blocks (w5.heap.size,#[.float .f64 kl,.float .f64 kh]) (by simp)).1.two; obtain⟨y1,v1⟩:=(E.out.blocks (qs,#[.float .f64 sl,.float .f64 sh]) (by simp)).1.two; have k5:=(E.out.blocks (w.heap.size,#[.float .f64 0,.float .f64 0]) (by simp)).1.2.1; have k6:=(E.out.blocks (w.heap.size,#[.float .f64 0,.float .f64 0]) (by simp)).1.2.2; have k7:=(E.out.blocks (w.heap.size+1,#[.float .f64 0,.float .f64 0]) (by simp)).1.2.1; have k8:=(E.out.blocks (w.heap.size+1,#[.float .f64 0,.float .f64 0]) (by simp)).1.2.2)
         | (go_at_call 122; (with_reducible refine (bK.out _).mono ?_); rintro rr w9 ⟨rfl,hb⟩; have E':=Lib.hid ((E.out.drew).below hb); clear E hb; clear y0 v0 y1 v1 k5 k6 k7 k8; have E:=E'; clear E'; obtain⟨y0,v0⟩:=(E.out.blocks (w5.heap.size,#[.float .f64 kl,.float .f64 kh]) (by simp)).1.two; obtain⟨y1,v1⟩:=(E.out.blocks (qs,#[.float .f64 sl,.float .f64 sh]) (by simp)).1.two; have k5:=(E.out.blocks (w.heap.size,#[.float .f64 0,.float .f64 0]) (by simp)).1.2.1; have k6:=(E.out.blocks (w.heap.size,#[.float .f64 0,.float .f64 0]) (by simp)).1.2.2; have k7:=(E.out.blocks (w.heap.size+1,#[.float .f64 0,.float .f64 0]) (by simp)).1.2.1; have k8:=(E.out.blocks (w.heap.size+1,#[.float .f64 0,.float .f64 0]) (by simp)).1.2.2)
         | (go_at_call 122; (with_reducible refine (bX.out _).mono ?_); rintro rr w9 ⟨rfl,hb⟩; have E':=Lib.hid ((E.out).below hb); clear E hb; clear y0 v0 y1 v1 k5 k6 k7 k8; have E:=E'; clear E'; obtain⟨y0,v0⟩:=(E.out.blocks (w5.heap.size,#[.float .f64 kl,.float .f64 kh]) (by simp)).1.two; obtain⟨y1,v1⟩:=(E.out.blocks (qs,#[.float .f64 sl,.float .f64 sh]) (by simp)).1.two; have k5:=(E.out.blocks (w.heap.size,#[.float .f64 0,.float .f64 0]) (by simp)).1.2.1; have k6:=(E.out.blocks (w.heap.size,#[.float .f64 0,.float .f64 0]) (by simp)).1.2.2; have k7:=(E.out.blocks (w.heap.size+1,#[.float .f64 0,.float .f64 0]) (by simp)).1.2.1; have k8:=(E.out.blocks (w.heap.size+1,#[.float .f64 0,.float .f64 0]) (by simp)).1.2.2)
         | (go_at_call 122; (with_reducible refine (bX.out _).mono ?_); rintro rr w9 ⟨rfl,hb⟩; have E':=Lib.hid ((E.out.drew).below hb); clear E hb; clear y0 v0 y1 v1 k5 k6 k7 k8; have E:=E'; clear E'; obtain⟨y0,v0⟩:=(E.out.blocks (w5.heap.size,#[.float .f64 kl,.float .f64 kh]) (by simp)).1.two; obtain⟨y1,v1⟩:=(E.out.blocks (qs,#[.float .f64 sl,.float .f64 sh]) (by simp)).1.two; have k5:=(E.out.blocks (w.heap.size,#[.float .f64 0,.float .f64 0]) (by simp)).1.2.1; have k6:=(E.out.blocks (w.heap.size,#[.float .f64 0,.float .f64 0]) (by simp)).1.2.2; have k7:=(E.out.blocks (w.heap.size+1,#[.float .f64 0,.float .f64 0]) (by simp)).1.2.1; have k8:=(E.out.blocks (w.heap.size+1,#[.float .f64 0,.float .f64 0]) (by simp)).1.2.2)
         | (go_at_call 122; (with_reducible refine (bY.out _).mono ?_); rintro rr w9 ⟨rfl,hb⟩; have E':=Lib.hid ((E.out).below hb); clear E hb; clear y0 v0 y1 v1 k5 k6 k7 k8; have E:=E'; clear E'; obtain⟨y0,v0⟩:=(E.out.blocks (w5.heap.size,#[.float .f64 kl,.float .f64 kh]) (by simp)).1.two; obtain⟨y1,v1⟩:=(E.out.blocks (qs,#[.float .f64 sl,.float .f64 sh]) (by simp)).1.two; have k5:=(E.out.blocks (w.heap.size,#[.float .f64 0,.float .f64 0]) (by simp)).1.2.1; have k6:=(E.out.blocks (w.heap.size,#[.float .f64 0,.float .f64 0]) (by simp)).1.2.2; have k7:=(E.out.blocks (w.heap.size+1,#[.float .f64 0,.float .f64 0]) (by simp)).1.2.1; have k8:=(E.out.blocks (w.heap.size+1,#[.float .f64 0,.float .f64 0]) (by simp)).1.2.2)
         | (go_at_call 122; (with_reducible refine (bY.out _).mono ?_); rintro rr w9 ⟨rfl,hb⟩; have E':=Lib.hid ((E.out.drew).below hb); clear E hb; clear y0 v0 y1 v1 k5 k6 k7 k8; have E:=E'; clear E'; obtain⟨y0,v0⟩:=(E.out.blocks (w5.heap.size,#[.float .f64 kl,.float .f64 kh]) (by simp)).1.two; obtain⟨y1,v1⟩:=(E.out.blocks (qs,#[.float .f64 sl,.float .f64 sh]) (by simp)).1.two; have k5:=(E.out.blocks (w.heap.size,#[.float .f64 0,.float .f64 0]) (by simp)).1.2.1; have k6:=(E.out.blocks (w.heap.size,#[.float .f64 0,.float .f64 0]) (by simp)).1.2.2; have k7:=(E.out.blocks (w.heap.size+1,#[.float .f64 0,.float .f64 0]) (by simp)).1.2.1; have k8:=(E.out.blocks (w.heap.size+1,#[.float .f64 0,.float .f64 0]) (by simp)).1.2.2)
         | (go_at_call 123; (with_reducible refine (cNs.out _ (E.out).cal).mono ?_); rintro rr w9 ⟨rfl,hp⟩; have E':=Lib.hid ((E.out).putc hp); clear E hp; clear y0 v0 y1 v1 k5 k6 k7 k8; have E:=E'; clear E'; obtain⟨y0,v0⟩:=(E.out.blocks (w5.heap.size,#[.float .f64 kl,.float .f64 kh]) (by simp)).1.two; obtain⟨y1,v1⟩:=(E.out.blocks (qs,#[.float .f64 sl,.float .f64 sh]) (by simp)).1.two; have k5:=(E.out.blocks (w.heap.size,#[.float .f64 0,.float .f64 0]) (by simp)).1.2.1; have k6:=(E.out.blocks (w.heap.size,#[.float .f64 0,.float .f64 0]) (by simp)).1.2.2; have k7:=(E.out.blocks (w.heap.size+1,#[.float .f64 0,.float .f64 0]) (by simp)).1.2.1; have k8:=(E.out.blocks (w.heap.size+1,#[.float .f64 0,.float .f64 0]) (by simp)).1.2.2)
         | (go_at_call 123; (with_reducible refine (cNs.out _ (E.out.drew).cal).mono ?_); rintro rr w9 ⟨rfl,hp⟩; have E':=Lib.hid ((E.out.drew).putc hp); clear E hp; clear y0 v0 y1 v1 k5 k6 k7 k8; have E:=E'; clear E'; obtain⟨y0,v0⟩:=(E.out.blocks (w5.heap.size,#[.float .f64 kl,.float .f64 kh]) (by simp)).1.two; obtain⟨y1,v1⟩:=(E.out.blocks (qs,#[.float .f64 sl,.float .f64 sh]) (by simp)).1.two; have k5:=(E.out.blocks (w.heap.size,#[.float .f64 0,.float .f64 0]) (by simp)).1.2.1; have k6:=(E.out.blocks (w.heap.size,#[.float .f64 0,.float .f64 0]) (by simp)).1.2.2; have k7:=(E.out.blocks (w.heap.size+1,#[.float .f64 0,.float .f64 0]) (by simp)).1.2.1; have k8:=(E.out.blocks (w.heap.size+1,#[.float .f64 0,.float .f64 0]) (by simp)).1.2.2)
         | (go_at_call 123; (with_reducible refine (cNk.out _ (E.out).cal).mono ?_); rintro rr w9 ⟨rfl,hp⟩; have E':=Lib.hid ((E.out).putc hp); clear E hp; clear y0 v0 y1 v1 k5 k6 k7 k8; have E:=E'; clear E'; obtain⟨y0,v0⟩:=(E.out.blocks (w5.heap.size,#[.float .f64 kl,.float .f64 kh]) (by simp)).1.two; obtain⟨y1,v1⟩:=(E.out.blocks (qs,#[.float .f64 sl,.float .f64 sh]) (by simp)).1.two; have k5:=(E.out.blocks (w.heap.size,#[.float .f64 0,.float .f64 0]) (by simp)).1.2.1; have k6:=(E.out.blocks (w.heap.size,#[.float .f64 0,.float .f64 0]) (by simp)).1.2.2; have k7:=(E.out.blocks (w.heap.size+1,#[.float .f64 0,.float .f64 0]) (by simp)).1.2.1; have k8:=(E.out.blocks (w.heap.size+1,#[.float .f64 0,.float .f64 0]) (by simp)).1.2.2)
         | (go_at_call 123; (with_reducible refine (cNk.out _ (E.out.drew).cal).mono ?_); rintro rr w9 ⟨rfl,hp⟩; have E':=Lib.hid ((E.out.drew).putc hp); clear E hp; clear y0 v0 y1 v1 k5 k6 k7 k8; have E:=E'; clear E'; obtain⟨y0,v0⟩:=(E.out.blocks (w5.heap.size,#[.float .f64 kl,.float .f64 kh]) (by simp)).1.two; obtain⟨y1,v1⟩:=(E.out.blocks (qs,#[.float .f64 sl,.float .f64 sh]) (by simp)).1.two; have k5:=(E.out.blocks (w.heap.size,#[.float .f64 0,.float .f64 0]) (by simp)).1.2.1; have k6:=(E.out.blocks (w.heap.size,#[.float .f64 0,.float .f64 0]) (by simp)).1.2.2; have k7:=(E.out.blocks (w.heap.size+1,#[.float .f64 0,.float .f64 0]) (by simp)).1.2.1; have k8:=(E.out.blocks (w.heap.size+1,#[.float .f64 0,.float .f64 0]) (by simp)).1.2.2))
     have M1:Hid (Mem w [(w.heap.size,#[.float .f64 0,.float .f64 0]),(w.heap.size+1,#[.float .f64 0,.float .f64 0])] _):=Lib.hid (M.out.puts (M.out.nth 0 rfl) E.out.put (by omega) [(w.heap.size,#[.float .f64 0,.float .f64 0]),(w.heap.size+1,#[.float .f64 0,.float .f64 0])] (by simp; omega))
     have M2:=Lib.hid (M1.out.sets (M1.out.nth 0 rfl) (.float .f64 al) (.float .f64 ah) (by omega) [(w.heap.size,#[.float .f64 al,.float .f64 ah]),(w.heap.size+1,#[.float .f64 0,.float .f64 0])] (by simp))
     have M3:=Lib.hid (M2.out.sets (M2.out.nth 1 rfl) (.float .f64 dl) (.float .f64 dh) (by omega) [(w.heap.size,#[.float .f64 al,.float .f64 ah]),(w.heap.size+1,#[.float .f64 dl,.float .f64 dh])] (by simp))
     go_wp2
     have f1:=(M3.out.nth 0 rfl).2.1
     have g1:=(M3.out.nth 1 rfl).2.1
     exact bodyPost_ret (v:=.tuple #[.agg #[.float .f64 al,.float .f64 ah],.agg #[.float .f64 dl,.float .f64 dh]]) (by simp [results,Tryz.results79,go_sem,f1,g1]) rfl ⟨rfl,M3.out.base⟩
   · go_upto_region 12 with fail
     revert E
     generalize w5.alloc (.cells #[.float .f64 kl,.float .f64 kh] 31)=W5
     intro E
     obtain⟨y0,v0⟩:=(E.out.blocks (w5.heap.size,#[.float .f64 kl,.float .f64 kh]) (by simp)).1.two
     obtain⟨y1,v1⟩:=(E.out.blocks (qs,#[.float .f64 sl,.float .f64 sh]) (by simp)).1.two
     have k5:=(E.out.blocks (w.heap.size,#[.float .f64 0,.float .f64 0]) (by simp)).1.2.1
     have k6:=(E.out.blocks (w.heap.size,#[.float .f64 0,.float .f64 0]) (by simp)).1.2.2
     have k7:=(E.out.blocks (w.heap.size+1,#[.float .f64 0,.float .f64 0]) (by simp)).1.2.1
     have k8:=(E.out.blocks (w.heap.size+1,#[.float .f64 0,.float .f64 0]) (by simp)).1.2.2
     go_region_held3 (fun w'=>(w'.cell? ⟨w5.heap.size,0,none⟩=some (.float .f64 kl)∧w'.cell? ⟨w5.heap.size,1,none⟩=some (.float .f64 kh))∧(w'.cell? ⟨qs,0,none⟩=some (.float .f64 sl)∧w'.cell? ⟨qs,1,none⟩=some (.float .f64 sh))) (((try dsimp only); (repeat' apply And.intro); all_goals (repeat (first | (with_reducible assumption) | ((with_reducible refine keep_undrew ?_); (with_reducible assumption)) | (with_reducible refine keep_drew ?_) | (with_reducible refine keep_alloc _ ?_) | (with_reducible refine keep_set _ (by first | (with_reducible assumption) | omega) ?_)))))
       (first
         | (go_at_call 122; (with_reducible refine (bS.out _).mono ?_); rintro rr w9 ⟨rfl,hb⟩; have E':=Lib.hid ((E.out).below hb); clear E hb; clear y0 v0 y1 v1 k5 k6 k7 k8; have E:=E'; clear E'; obtain⟨y0,v0⟩:=(E.out.blocks (w5.heap.size,#[.float .f64 kl,.float .f64 kh]) (by simp)).1.two; obtain⟨y1,v1⟩:=(E.out.blocks (qs,#[.float .f64 sl,.float .f64 sh]) (by simp)).1.two; have k5:=(E.out.blocks (w.heap.size,#[.float .f64 0,.float .f64 0]) (by simp)).1.2.1; have k6:=(E.out.blocks (w.heap.size,#[.float .f64 0,.float .f64 0]) (by simp)).1.2.2; have k7:=(E.out.blocks (w.heap.size+1,#[.float .f64 0,.float .f64 0]) (by simp)).1.2.1; have k8:=(E.out.blocks (w.heap.size+1,#[.float .f64 0,.float .f64 0]) (by simp)).1.2.2)
         | (go_at_call 122; (with_reducible refine (bS.out _).mono ?_); rintro rr w9 ⟨rfl,hb⟩; have E':=Lib.hid ((E.out.drew).below hb); clear E hb; clear y0 v0 y1 v1 k5 k6 k7 k8; have E:=E'; clear E'; obtain⟨y0,v0⟩:=(E.out.blocks (w5.heap.size,#[.float .f64 kl,.float .f64 kh]) (by simp)).1.two; obtain⟨y1,v1⟩:=(E.out.blocks (qs,#[.float .f64 sl,.float .f64 sh]) (by simp)).1.two; have k5:=(E.out.blocks (w.heap.size,#[.float .f64 0,.float .f64 0]) (by simp)).1.2.1; have k6:=(E.out.blocks (w.heap.size,#[.float .f64 0,.float .f64 0]) (by simp)).1.2.2; have k7:=(E.out.blocks (w.heap.size+1,#[.float .f64 0,.float .f64 0]) (by simp)).1.2.1; have k8:=(E.out.blocks (w.heap.size+1,#[.float .f64 0,.float .f64 0]) (by simp)).1.2.2)
         | (go_at_call 122; (with_reducible refine (bK.out _).mono ?_); rintro rr w9 ⟨rfl,hb⟩; have E':=Lib.hid ((E.out).below hb); clear E hb; clear y0 v0 y1 v1 k5 k6 k7 k8; have E:=E'; clear E'; obtain⟨y0,v0⟩:=(E.out.blocks (w5.heap.size,#[.float .f64 kl,.float .f64 kh]) (by simp)).1.two; obtain⟨y1,v1⟩:=(E.out.blocks (qs,#[.float .f64 sl,.float .f64 sh]) (by simp)).1.two; have k5:=(E.out.blocks (w.heap.size,#[.float .f64 0,.float .f64 0]) (by simp)).1.2.1; have k6:=(E.out.blocks (w.heap.size,#[.float .f64 0,.float .f64 0]) (by simp)).1.2.2; have k7:=(E.out.blocks (w.heap.size+1,#[.float .f64 0,.float .f64 0]) (by simp)).1.2.1; have k8:=(E.out.blocks (w.heap.size+1,#[.float .f64 0,.float .f64 0]) (by simp)).1.2.2)
         | (go_at_call 122; (with_reducible refine (bK.out _).mono ?_); rintro rr w9 ⟨rfl,hb⟩; have E':=Lib.hid ((E.out.drew).below hb); clear E hb; clear y0 v0 y1 v1 k5 k6 k7 k8; have E:=E'; clear E'; obtain⟨y0,v0⟩:=(E.out.blocks (w5.heap.size,#[.float .f64 kl,.float .f64 kh]) (by simp)).1.two; obtain⟨y1,v1⟩:=(E.out.blocks (qs,#[.float .f64 sl,.float .f64 sh]) (by simp)).1.two; have k5:=(E.out.blocks (w.heap.size,#[.float .f64 0,.float .f64 0]) (by simp)).1.2.1; have k6:=(E.out.blocks (w.heap.size,#[.float .f64 0,.float .f64 0]) (by simp)).1.2.2; have k7:=(E.out.blocks (w.heap.size+1,#[.float .f64 0,.float .f64 0]) (by simp)).1.2.1; have k8:=(E.out.blocks (w.heap.size+1,#[.float .f64 0,.float .f64 0]) (by simp)).1.2.2)
         | (go_at_call 122; (with_reducible refine (bX.out _).mono ?_); rintro rr w9 ⟨rfl,hb⟩; have E':=Lib.hid ((E.out).below hb); clear E hb; clear y0 v0 y1 v1 k5 k6 k7 k8; have E:=E'; clear E'; obtain⟨y0,v0⟩:=(E.out.blocks (w5.heap.size,#[.float .f64 kl,.float .f64 kh]) (by simp)).1.two; obtain⟨y1,v1⟩:=(E.out.blocks (qs,#[.float .f64 sl,.float .f64 sh]) (by simp)).1.two; have k5:=(E.out.blocks (w.heap.size,#[.float .f64 0,.float .f64 0]) (by simp)).1.2.1; have k6:=(E.out.blocks (w.heap.size,#[.float .f64 0,.float .f64 0]) (by simp)).1.2.2; have k7:=(E.out.blocks (w.heap.size+1,#[.float .f64 0,.float .f64 0]) (by simp)).1.2.1; have k8:=(E.out.blocks (w.heap.size+1,#[.float .f64 0,.float .f64 0]) (by simp)).1.2.2)
         | (go_at_call 122; (with_reducible refine (bX.out _).mono ?_); rintro rr w9 ⟨rfl,hb⟩; have E':=Lib.hid ((E.out.drew).below hb); clear E hb; clear y0 v0 y1 v1 k5 k6 k7 k8; have E:=E'; clear E'; obtain⟨y0,v0⟩:=(E.out.blocks (w5.heap.size,#[.float .f64 kl,.float .f64 kh]) (by simp)).1.two; obtain⟨y1,v1⟩:=(E.out.blocks (qs,#[.float .f64 sl,.float .f64 sh]) (by simp)).1.two; have k5:=(E.out.blocks (w.heap.size,#[.float .f64 0,.float .f64 0]) (by simp)).1.2.1; have k6:=(E.out.blocks (w.heap.size,#[.float .f64 0,.float .f64 0]) (by simp)).1.2.2; have k7:=(E.out.blocks (w.heap.size+1,#[.float .f64 0,.float .f64 0]) (by simp)).1.2.1; have k8:=(E.out.blocks (w.heap.size+1,#[.float .f64 0,.float .f64 0]) (by simp)).1.2.2)
         | (go_at_call 122; (with_reducible refine (bY.out _).mono ?_); rintro rr w9 ⟨rfl,hb⟩; have E':=Lib.hid ((E.out).below hb); clear E hb; clear y0 v0 y1 v1 k5 k6 k7 k8; have E:=E'; clear E'; obtain⟨y0,v0⟩:=(E.out.blocks (w5.heap.size,#[.float .f64 kl,.float .f64 kh]) (by simp)).1.two; obtain⟨y1,v1⟩:=(E.out.blocks (qs,#[.float .f64 sl,.float .f64 sh]) (by simp)).1.two; have k5:=(E.out.blocks (w.heap.size,#[.float .f64 0,.float .f64 0]) (by simp)).1.2.1; have k6:=(E.out.blocks (w.heap.size,#[.float .f64 0,.float .f64 0]) (by simp)).1.2.2; have k7:=(E.out.blocks (w.heap.size+1,#[.float .f64 0,.float .f64 0]) (by simp)).1.2.1; have k8:=(E.out.blocks (w.heap.size+1,#[.float .f64 0,.float .f64 0]) (by simp)).1.2.2)
         | (go_at_call 122; (with_reducible refine (bY.out _).mono ?_); rintro rr w9 ⟨rfl,hb⟩; have E':=Lib.hid ((E.out.drew).below hb); clear E hb; clear y0 v0 y1 v1 k5 k6 k7 k8; have E:=E'; clear E'; obtain⟨y0,v0⟩:=(E.out.blocks (w5.heap.size,#[.float .f64 kl,.float .f64 kh]) (by simp)).1.two; obtain⟨y1,v1⟩:=(E.out.blocks (qs,#[.float .f64 sl,.float .f64 sh]) (by simp)).1.two; have k5:=(E.out.blocks (w.heap.size,#[.float .f64 0,.float .f64 0]) (by simp)).1.2.1; have k6:=(E.out.blocks (w.heap.size,#[.float .f64 0,.float .f64 0]) (by simp)).1.2.2; have k7:=(E.out.blocks (w.heap.size+1,#[.float .f64 0,.float .f64 0]) (by simp)).1.2.1; have k8:=(E.out.blocks (w.heap.size+1,#[.float .f64 0,.float .f64 0]) (by simp)).1.2.2)
         | (go_at_call 123; (with_reducible refine (cNs.out _ (E.out).cal).mono ?_); rintro rr w9 ⟨rfl,hp⟩; have E':=Lib.hid ((E.out).putc hp); clear E hp; clear y0 v0 y1 v1 k5 k6 k7 k8; have E:=E'; clear E'; obtain⟨y0,v0⟩:=(E.out.blocks (w5.heap.size,#[.float .f64 kl,.float .f64 kh]) (by simp)).1.two; obtain⟨y1,v1⟩:=(E.out.blocks (qs,#[.float .f64 sl,.float .f64 sh]) (by simp)).1.two; have k5:=(E.out.blocks (w.heap.size,#[.float .f64 0,.float .f64 0]) (by simp)).1.2.1; have k6:=(E.out.blocks (w.heap.size,#[.float .f64 0,.float .f64 0]) (by simp)).1.2.2; have k7:=(E.out.blocks (w.heap.size+1,#[.float .f64 0,.float .f64 0]) (by simp)).1.2.1; have k8:=(E.out.blocks (w.heap.size+1,#[.float .f64 0,.float .f64 0]) (by simp)).1.2.2)
         | (go_at_call 123; (with_reducible refine (cNs.out _ (E.out.drew).cal).mono ?_); rintro rr w9 ⟨rfl,hp⟩; have E':=Lib.hid ((E.out.drew).putc hp); clear E hp; clear y0 v0 y1 v1 k5 k6 k7 k8; have E:=E'; clear E'; obtain⟨y0,v0⟩:=(E.out.blocks (w5.heap.size,#[.float .f64 kl,.float .f64 kh]) (by simp)).1.two; obtain⟨y1,v1⟩:=(E.out.blocks (qs,#[.float .f64 sl,.float .f64 sh]) (by simp)).1.two; have k5:=(E.out.blocks (w.heap.size,#[.float .f64 0,.float .f64 0]) (by simp)).1.2.1; have k6:=(E.out.blocks (w.heap.size,#[.float .f64 0,.float .f64 0]) (by simp)).1.2.2; have k7:=(E.out.blocks (w.heap.size+1,#[.float .f64 0,.float .f64 0]) (by simp)).1.2.1; have k8:=(E.out.blocks (w.heap.size+1,#[.float .f64 0,.float .f64 0]) (by simp)).1.2.2)
         | (go_at_call 123; (with_reducible refine (cNk.out _ (E.out).cal).mono ?_); rintro rr w9 ⟨rfl,hp⟩; have E':=Lib.hid ((E.out).putc hp); clear E hp; clear y0 v0 y1 v1 k5 k6 k7 k8; have E:=E'; clear E'; obtain⟨y0,v0⟩:=(E.out.blocks (w5.heap.size,#[.float .f64 kl,.float .f64 kh]) (by simp)).1.two; obtain⟨y1,v1⟩:=(E.out.blocks (qs,#[.float .f64 sl,.float .f64 sh]) (by simp)).1.two; have k5:=(E.out.blocks (w.heap.size,#[.float .f64 0,.float .f64 0]) (by simp)).1.2.1; have k6:=(E.out.blocks (w.heap.size,#[.float .f64 0,.float .f64 0]) (by simp)).1.2.2; have k7:=(E.out.blocks (w.heap.size+1,#[.float .f64 0,.float .f64 0]) (by simp)).1.2.1; have k8:=(E.out.blocks (w.heap.size+1,#[.float .f64 0,.float .f64 0]) (by simp)).1.2.2)
         | (go_at_call 123; (with_reducible refine (cNk.out _ (E.out.drew).cal).mono ?_); rintro rr w9 ⟨rfl,hp⟩; have E':=Lib.hid ((E.out.drew).putc hp); clear E hp; clear y0 v0 y1 v1 k5 k6 k7 k8; have E:=E'; clear E'; obtain⟨y0,v0⟩:=(E.out.blocks (w5.heap.size,#[.float .f64 kl,.float .f64 kh]) (by simp)).1.two; obtain⟨y1,v1⟩:=(E.out.blocks (qs,#[.float .f64 sl,.float .f64 sh]) (by simp)).1.two; have k5:=(E.out.blocks (w.heap.size,#[.float .f64 0,.float .f64 0]) (by simp)).1.2.1; have k6:=(E.out.blocks (w.heap.size,#[.float .f64 0,.float .f64 0]) (by simp)).1.2.2; have k7:=(E.out.blocks (w.heap.size+1,#[.float .f64 0,.float .f64 0]) (by simp)).1.2.1; have k8:=(E.out.blocks (w.heap.size+1,#[.float .f64 0,.float .f64 0]) (by simp)).1.2.2))
     have M1:Hid (Mem w [(w.heap.size,#[.float .f64 0,.float .f64 0]),(w.heap.size+1,#[.float .f64 0,.float .f64 0])] _):=Lib.hid (M.out.puts (M.out.nth 0 rfl) E.out.put (by omega) [(w.heap.size,#[.float .f64 0,.float .f64 0]),(w.heap.size+1,#[.float .f64 0,.float .f64 0])] (by simp; omega))
     have M2:=Lib.hid (M1.out.sets (M1.out.nth 0 rfl) (.float .f64 al) (.float .f64 ah) (by omega) [(w.heap.size,#[.float .f64 al,.float .f64 ah]),(w.heap.size+1,#[.float .f64 0,.float .f64 0])] (by simp))
     have M3:=Lib.hid (M2.out.sets (M2.out.nth 1 rfl) (.float .f64 dl) (.float .f64 dh) (by omega) [(w.heap.size,#[.float .f64 al,.float .f64 ah]),(w.heap.size+1,#[.float .f64 dl,.float .f64 dh])] (by simp))
     go_wp2
     have f1:=(M3.out.nth 0 rfl).2.1
     have g1:=(M3.out.nth 1 rfl).2.1
     exact bodyPost_ret (v:=.tuple #[.agg #[.float .f64 al,.float .f64 ah],.agg #[.float .f64 dl,.float .f64 dh]]) (by simp [results,Tryz.results79,go_sem,f1,g1]) rfl ⟨rfl,M3.out.base⟩
   · go_upto_region 14 with fail
     revert E
     generalize w5.alloc (.cells #[.float .f64 kl,.float .f64 kh] 31)=W5
     intro E
     obtain⟨y0,v0⟩:=(E.out.blocks (w5.heap.size,#[.float .f64 kl,.float .f64 kh]) (by simp)).1.two
     obtain⟨y1,v1⟩:=(E.out.blocks (qs,#[.float .f64 sl,.float .f64 sh]) (by simp)).1.two
     have k5:=(E.out.blocks (w.heap.size,#[.float .f64 0,.float .f64 0]) (by simp)).1.2.1
     have k6:=(E.out.blocks (w.heap.size,#[.float .f64 0,.float .f64 0]) (by simp)).1.2.2
     have k7:=(E.out.blocks (w.heap.size+1,#[.float .f64 0,.float .f64 0]) (by simp)).1.2.1
     have k8:=(E.out.blocks (w.heap.size+1,#[.float .f64 0,.float .f64 0]) (by simp)).1.2.2
     go_region_held3 (fun w'=>(w'.cell? ⟨w5.heap.size,0,none⟩=some (.float .f64 kl)∧w'.cell? ⟨w5.heap.size,1,none⟩=some (.float .f64 kh))∧(w'.cell? ⟨qs,0,none⟩=some (.float .f64 sl)∧w'.cell? ⟨qs,1,none⟩=some (.float .f64 sh))) (((try dsimp only); (repeat' apply And.intro); all_goals (repeat (first | (with_reducible assumption) | ((with_reducible refine keep_undrew ?_); (with_reducible assumption)) | (with_reducible refine keep_drew ?_) | (with_reducible refine keep_alloc _ ?_) | (with_reducible refine keep_set _ (by first | (with_reducible assumption) | omega) ?_)))))
       (first
         | (go_at_call 122; (with_reducible refine (bS.out _).mono ?_); rintro rr w9 ⟨rfl,hb⟩; have E':=Lib.hid ((E.out).below hb); clear E hb; clear y0 v0 y1 v1 k5 k6 k7 k8; have E:=E'; clear E'; obtain⟨y0,v0⟩:=(E.out.blocks (w5.heap.size,#[.float .f64 kl,.float .f64 kh]) (by simp)).1.two; obtain⟨y1,v1⟩:=(E.out.blocks (qs,#[.float .f64 sl,.float .f64 sh]) (by simp)).1.two; have k5:=(E.out.blocks (w.heap.size,#[.float .f64 0,.float .f64 0]) (by simp)).1.2.1; have k6:=(E.out.blocks (w.heap.size,#[.float .f64 0,.float .f64 0]) (by simp)).1.2.2; have k7:=(E.out.blocks (w.heap.size+1,#[.float .f64 0,.float .f64 0]) (by simp)).1.2.1; have k8:=(E.out.blocks (w.heap.size+1,#[.float .f64 0,.float .f64 0]) (by simp)).1.2.2)
         | (go_at_call 122; (with_reducible refine (bS.out _).mono ?_); rintro rr w9 ⟨rfl,hb⟩; have E':=Lib.hid ((E.out.drew).below hb); clear E hb; clear y0 v0 y1 v1 k5 k6 k7 k8; have E:=E'; clear E'; obtain⟨y0,v0⟩:=(E.out.blocks (w5.heap.size,#[.float .f64 kl,.float .f64 kh]) (by simp)).1.two; obtain⟨y1,v1⟩:=(E.out.blocks (qs,#[.float .f64 sl,.float .f64 sh]) (by simp)).1.two; have k5:=(E.out.blocks (w.heap.size,#[.float .f64 0,.float .f64 0]) (by simp)).1.2.1; have k6:=(E.out.blocks (w.heap.size,#[.float .f64 0,.float .f64 0]) (by simp)).1.2.2; have k7:=(E.out.blocks (w.heap.size+1,#[.float .f64 0,.float .f64 0]) (by simp)).1.2.1; have k8:=(E.out.blocks (w.heap.size+1,#[.float .f64 0,.float .f64 0]) (by simp)).1.2.2)
         | (go_at_call 122; (with_reducible refine (bK.out _).mono ?_); rintro rr w9 ⟨rfl,hb⟩; have E':=Lib.hid ((E.out).below hb); clear E hb; clear y0 v0 y1 v1 k5 k6 k7 k8; have E:=E'; clear E'; obtain⟨y0,v0⟩:=(E.out.blocks (w5.heap.size,#[.float .f64 kl,.float .f64 kh]) (by simp)).1.two; obtain⟨y1,v1⟩:=(E.out.blocks (qs,#[.float .f64 sl,.float .f64 sh]) (by simp)).1.two; have k5:=(E.out.blocks (w.heap.size,#[.float .f64 0,.float .f64 0]) (by simp)).1.2.1; have k6:=(E.out.blocks (w.heap.size,#[.float .f64 0,.float .f64 0]) (by simp)).1.2.2; have k7:=(E.out.blocks (w.heap.size+1,#[.float .f64 0,.float .f64 0]) (by simp)).1.2.1; have k8:=(E.out.blocks (w.heap.size+1,#[.float .f64 0,.float .f64 0]) (by simp)).1.2.2)
         | (go_at_call 122; (with_reducible refine (bK.out _).mono ?_); rintro rr w9 ⟨rfl,hb⟩; have E':=Lib.hid ((E.out.drew).below hb); clear E hb; clear y0 v0 y1 v1 k5 k6 k7 k8; have E:=E'; clear E'; obtain⟨y0,v0⟩:=(E.out.blocks (w5.heap.size,#[.float .f64 kl,.float .f64 kh]) (by simp)).1.two; obtain⟨y1,v1⟩:=(E.out.blocks (qs,#[.float .f64 sl,.float .f64 sh]) (by simp)).1.two; have k5:=(E.out.blocks (w.heap.size,#[.float .f64 0,.float .f64 0]) (by simp)).1.2.1; have k6:=(E.out.blocks (w.heap.size,#[.float .f64 0,.float .f64 0]) (by simp)).1.2.2; have k7:=(E.out.blocks (w.heap.size+1,#[.float .f64 0,.float .f64 0]) (by simp)).1.2.1; have k8:=(E.out.blocks (w.heap.size+1,#[.float .f64 0,.float .f64 0]) (by simp)).1.2.2)
         | (go_at_call 122; (with_reducible refine (bX.out _).mono ?_); rintro rr w9 ⟨rfl,hb⟩; have E':=Lib.hid ((E.out).below hb); clear E hb; clear y0 v0 y1 v1 k5 k6 k7 k8; have E:=E'; clear E'; obtain⟨y0,v0⟩:=(E.out.blocks (w5.heap.size,#[.float .f64 kl,.float .f64 kh]) (by simp)).1.two; obtain⟨y1,v1⟩:=(E.out.blocks (qs,#[.float .f64 sl,.float .f64 sh]) (by simp)).1.two; have k5:=(E.out.blocks (w.heap.size,#[.float .f64 0,.float .f64 0]) (by simp)).1.2.1; have k6:=(E.out.blocks (w.heap.size,#[.float .f64 0,.float .f64 0]) (by simp)).1.2.2; have k7:=(E.out.blocks (w.heap.size+1,#[.float .f64 0,.float .f64 0]) (by simp)).1.2.1; have k8:=(E.out.blocks (w.heap.size+1,#[.float .f64 0,.float .f64 0]) (by simp)).1.2.2)
         | (go_at_call 122; (with_reducible refine (bX.out _).mono ?_); rintro rr w9 ⟨rfl,hb⟩; have E':=Lib.hid ((E.out.drew).below hb); clear E hb; clear y0 v0 y1 v1 k5 k6 k7 k8; have E:=E'; clear E'; obtain⟨y0,v0⟩:=(E.out.blocks (w5.heap.size,#[.float .f64 kl,.float .f64 kh]) (by simp)).1.two; obtain⟨y1,v1⟩:=(E.out.blocks (qs,#[.float .f64 sl,.float .f64 sh]) (by simp)).1.two; have k5:=(E.out.blocks (w.heap.size,#[.float .f64 0,.float .f64 0]) (by simp)).1.2.1; have k6:=(E.out.blocks (w.heap.size,#[.float .f64 0,.float .f64 0]) (by simp)).1.2.2; have k7:=(E.out.blocks (w.heap.size+1,#[.float .f64 0,.float .f64 0]) (by simp)).1.2.1; have k8:=(E.out.blocks (w.heap.size+1,#[.float .f64 0,.float .f64 0]) (by simp)).1.2.2)
         | (go_at_call 122; (with_reducible refine (bY.out _).mono ?_); rintro rr w9 ⟨rfl,hb⟩; have E':=Lib.hid ((E.out).below hb); clear E hb; clear y0 v0 y1 v1 k5 k6 k7 k8; have E:=E'; clear E'; obtain⟨y0,v0⟩:=(E.out.blocks (w5.heap.size,#[.float .f64 kl,.float .f64 kh]) (by simp)).1.two; obtain⟨y1,v1⟩:=(E.out.blocks (qs,#[.float .f64 sl,.float .f64 sh]) (by simp)).1.two; have k5:=(E.out.blocks (w.heap.size,#[.float .f64 0,.float .f64 0]) (by simp)).1.2.1; have k6:=(E.out.blocks (w.heap.size,#[.float .f64 0,.float .f64 0]) (by simp)).1.2.2; have k7:=(E.out.blocks (w.heap.size+1,#[.float .f64 0,.float .f64 0]) (by simp)).1.2.1; have k8:=(E.out.blocks (w.heap.size+1,#[.float .f64 0,.float .f64 0]) (by simp)).1.2.2)
         | (go_at_call 122; (with_reducible refine (bY.out _).mono ?_); rintro rr w9 ⟨rfl,hb⟩; have E':=Lib.hid ((E.out.drew).below hb); clear E hb; clear y0 v0 y1 v1 k5 k6 k7 k8; have E:=E'; clear E'; obtain⟨y0,v0⟩:=(E.out.blocks (w5.heap.size,#[.float .f64 kl,.float .f64 kh]) (by simp)).1.two; obtain⟨y1,v1⟩:=(E.out.blocks (qs,#[.float .f64 sl,.float .f64 sh]) (by simp)).1.two; have k5:=(E.out.blocks (w.heap.size,#[.float .f64 0,.float .f64 0]) (by simp)).1.2.1; have k6:=(E.out.blocks (w.heap.size,#[.float .f64 0,.float .f64 0]) (by simp)).1.2.2; have k7:=(E.out.blocks (w.heap.size+1,#[.float .f64 0,.float .f64 0]) (by simp)).1.2.1; have k8:=(E.out.blocks (w.heap.size+1,#[.float .f64 0,.float .f64 0]) (by simp)).1.2.2)
         | (go_at_call 123; (with_reducible refine (cNs.out _ (E.out).cal).mono ?_); rintro rr w9 ⟨rfl,hp⟩; have E':=Lib.hid ((E.out).putc hp); clear E hp; clear y0 v0 y1 v1 k5 k6 k7 k8; have E:=E'; clear E'; obtain⟨y0,v0⟩:=(E.out.blocks (w5.heap.size,#[.float .f64 kl,.float .f64 kh]) (by simp)).1.two; obtain⟨y1,v1⟩:=(E.out.blocks (qs,#[.float .f64 sl,.float .f64 sh]) (by simp)).1.two; have k5:=(E.out.blocks (w.heap.size,#[.float .f64 0,.float .f64 0]) (by simp)).1.2.1; have k6:=(E.out.blocks (w.heap.size,#[.float .f64 0,.float .f64 0]) (by simp)).1.2.2; have k7:=(E.out.blocks (w.heap.size+1,#[.float .f64 0,.float .f64 0]) (by simp)).1.2.1; have k8:=(E.out.blocks (w.heap.size+1,#[.float .f64 0,.float .f64 0]) (by simp)).1.2.2)
         | (go_at_call 123; (with_reducible refine (cNs.out _ (E.out.drew).cal).mono ?_); rintro rr w9 ⟨rfl,hp⟩; have E':=Lib.hid ((E.out.drew).putc hp); clear E hp; clear y0 v0 y1 v1 k5 k6 k7 k8; have E:=E'; clear E'; obtain⟨y0,v0⟩:=(E.out.blocks (w5.heap.size,#[.float .f64 kl,.float .f64 kh]) (by simp)).1.two; obtain⟨y1,v1⟩:=(E.out.blocks (qs,#[.float .f64 sl,.float .f64 sh]) (by simp)).1.two; have k5:=(E.out.blocks (w.heap.size,#[.float .f64 0,.float .f64 0]) (by simp)).1.2.1; have k6:=(E.out.blocks (w.heap.size,#[.float .f64 0,.float .f64 0]) (by simp)).1.2.2; have k7:=(E.out.blocks (w.heap.size+1,#[.float .f64 0,.float .f64 0]) (by simp)).1.2.1; have k8:=(E.out.blocks (w.heap.size+1,#[.float .f64 0,.float .f64 0]) (by simp)).1.2.2)
         | (go_at_call 123; (with_reducible refine (cNk.out _ (E.out).cal).mono ?_); rintro rr w9 ⟨rfl,hp⟩; have E':=Lib.hid ((E.out).putc hp); clear E hp; clear y0 v0 y1 v1 k5 k6 k7 k8; have E:=E'; clear E'; obtain⟨y0,v0⟩:=(E.out.blocks (w5.heap.size,#[.float .f64 kl,.float .f64 kh]) (by simp)).1.two; obtain⟨y1,v1⟩:=(E.out.blocks (qs,#[.float .f64 sl,.float .f64 sh]) (by simp)).1.two; have k5:=(E.out.blocks (w.heap.size,#[.float .f64 0,.float .f64 0]) (by simp)).1.2.1; have k6:=(E.out.blocks (w.heap.size,#[.float .f64 0,.float .f64 0]) (by simp)).1.2.2; have k7:=(E.out.blocks (w.heap.size+1,#[.float .f64 0,.float .f64 0]) (by simp)).1.2.1; have k8:=(E.out.blocks (w.heap.size+1,#[.float .f64 0,.float .f64 0]) (by simp)).1.2.2)
         | (go_at_call 123; (with_reducible refine (cNk.out _ (E.out.drew).cal).mono ?_); rintro rr w9 ⟨rfl,hp⟩; have E':=Lib.hid ((E.out.drew).putc hp); clear E hp; clear y0 v0 y1 v1 k5 k6 k7 k8; have E:=E'; clear E'; obtain⟨y0,v0⟩:=(E.out.blocks (w5.heap.size,#[.float .f64 kl,.float .f64 kh]) (by simp)).1.two; obtain⟨y1,v1⟩:=(E.out.blocks (qs,#[.float .f64 sl,.float .f64 sh]) (by simp)).1.two; have k5:=(E.out.blocks (w.heap.size,#[.float .f64 0,.float .f64 0]) (by simp)).1.2.1; have k6:=(E.out.blocks (w.heap.size,#[.float .f64 0,.float .f64 0]) (by simp)).1.2.2; have k7:=(E.out.blocks (w.heap.size+1,#[.float .f64 0,.float .f64 0]) (by simp)).1.2.1; have k8:=(E.out.blocks (w.heap.size+1,#[.float .f64 0,.float .f64 0]) (by simp)).1.2.2))
     have M1:Hid (Mem w [(w.heap.size,#[.float .f64 0,.float .f64 0]),(w.heap.size+1,#[.float .f64 0,.float .f64 0])] _):=Lib.hid (M.out.puts (M.out.nth 0 rfl) E.out.put (by omega) [(w.heap.size,#[.float .f64 0,.float .f64 0]),(w.heap.size+1,#[.float .f64 0,.float .f64 0])] (by simp; omega))
     have M2:=Lib.hid (M1.out.sets (M1.out.nth 0 rfl) (.float .f64 al) (.float .f64 ah) (by omega) [(w.heap.size,#[.float .f64 al,.float .f64 ah]),(w.heap.size+1,#[.float .f64 0,.float .f64 0])] (by simp))
     have M3:=Lib.hid (M2.out.sets (M2.out.nth 1 rfl) (.float .f64 dl) (.float .f64 dh) (by omega) [(w.heap.size,#[.float .f64 al,.float .f64 ah]),(w.heap.size+1,#[.float .f64 dl,.float .f64 dh])] (by simp))
     go_wp2
     have f1:=(M3.out.nth 0 rfl).2.1
     have g1:=(M3.out.nth 1 rfl).2.1
     exact bodyPost_ret (v:=.tuple #[.agg #[.float .f64 al,.float .f64 ah],.agg #[.float .f64 dl,.float .f64 dh]]) (by simp [results,Tryz.results79,go_sem,f1,g1]) rfl ⟨rfl,M3.out.base⟩
   · go_upto_region 16 with fail
     revert E
     generalize w5.alloc (.cells #[.float .f64 kl,.float .f64 kh] 31)=W5
     intro E
     obtain⟨y0,v0⟩:=(E.out.blocks (w5.heap.size,#[.float .f64 kl,.float .f64 kh]) (by simp)).1.two
     obtain⟨y1,v1⟩:=(E.out.blocks (qs,#[.float .f64 sl,.float .f64 sh]) (by simp)).1.two
     have k5:=(E.out.blocks (w.heap.size,#[.float .f64 0,.float .f64 0]) (by simp)).1.2.1
     have k6:=(E.out.blocks (w.heap.size,#[.float .f64 0,.float .f64 0]) (by simp)).1.2.2
     have k7:=(E.out.blocks (w.heap.size+1,#[.float .f64 0,.float .f64 0]) (by simp)).1.2.1
     have k8:=(E.out.blocks (w.heap.size+1,#[.float .f64 0,.float .f64 0]) (by simp)).1.2.2
     go_region_held3 (fun w'=>(w'.cell? ⟨w5.heap.size,0,none⟩=some (.float .f64 kl)∧w'.cell? ⟨w5.heap.size,1,none⟩=some (.float .f64 kh))∧(w'.cell? ⟨qs,0,none⟩=some (.float .f64 sl)∧w'.cell? ⟨qs,1,none⟩=some (.float .f64 sh))) (((try dsimp only); (repeat' apply And.intro); all_goals (repeat (first | (with_reducible assumption) | ((with_reducible refine keep_undrew ?_); (with_reducible assumption)) | (with_reducible refine keep_drew ?_) | (with_reducible refine keep_alloc _ ?_) | (with_reducible refine keep_set _ (by first | (with_reducible assumption) | omega) ?_)))))
       (first
         | (go_at_call 122; (with_reducible refine (bS.out _).mono ?_); rintro rr w9 ⟨rfl,hb⟩; have E':=Lib.hid ((E.out).below hb); clear E hb; clear y0 v0 y1 v1 k5 k6 k7 k8; have E:=E'; clear E'; obtain⟨y0,v0⟩:=(E.out.blocks (w5.heap.size,#[.float .f64 kl,.float .f64 kh]) (by simp)).1.two; obtain⟨y1,v1⟩:=(E.out.blocks (qs,#[.float .f64 sl,.float .f64 sh]) (by simp)).1.two; have k5:=(E.out.blocks (w.heap.size,#[.float .f64 0,.float .f64 0]) (by simp)).1.2.1; have k6:=(E.out.blocks (w.heap.size,#[.float .f64 0,.float .f64 0]) (by simp)).1.2.2; have k7:=(E.out.blocks (w.heap.size+1,#[.float .f64 0,.float .f64 0]) (by simp)).1.2.1; have k8:=(E.out.blocks (w.heap.size+1,#[.float .f64 0,.float .f64 0]) (by simp)).1.2.2)
         | (go_at_call 122; (with_reducible refine (bS.out _).mono ?_); rintro rr w9 ⟨rfl,hb⟩; have E':=Lib.hid ((E.out.drew).below hb); clear E hb; clear y0 v0 y1 v1 k5 k6 k7 k8; have E:=E'; clear E'; obtain⟨y0,v0⟩:=(E.out.blocks (w5.heap.size,#[.float .f64 kl,.float .f64 kh]) (by simp)).1.two; obtain⟨y1,v1⟩:=(E.out.blocks (qs,#[.float .f64 sl,.float .f64 sh]) (by simp)).1.two; have k5:=(E.out.blocks (w.heap.size,#[.float .f64 0,.float .f64 0]) (by simp)).1.2.1; have k6:=(E.out.blocks (w.heap.size,#[.float .f64 0,.float .f64 0]) (by simp)).1.2.2; have k7:=(E.out.blocks (w.heap.size+1,#[.float .f64 0,.float .f64 0]) (by simp)).1.2.1; have k8:=(E.out.blocks (w.heap.size+1,#[.float .f64 0,.float .f64 0]) (by simp)).1.2.2)
         | (go_at_call 122; (with_reducible refine (bK.out _).mono ?_); rintro rr w9 ⟨rfl,hb⟩; have E':=Lib.hid ((E.out).below hb); clear E hb; clear y0 v0 y1 v1 k5 k6 k7 k8; have E:=E'; clear E'; obtain⟨y0,v0⟩:=(E.out.blocks (w5.heap.size,#[.float .f64 kl,.float .f64 kh]) (by simp)).1.two; obtain⟨y1,v1⟩:=(E.out.blocks (qs,#[.float .f64 sl,.float .f64 sh]) (by simp)).1.two; have k5:=(E.out.blocks (w.heap.size,#[.float .f64 0,.float .f64 0]) (by simp)).1.2.1; have k6:=(E.out.blocks (w.heap.size,#[.float .f64 0,.float .f64 0]) (by simp)).1.2.2; have k7:=(E.out.blocks (w.heap.size+1,#[.float .f64 0,.float .f64 0]) (by simp)).1.2.1; have k8:=(E.out.blocks (w.heap.size+1,#[.float .f64 0,.float .f64 0]) (by simp)).1.2.2)
         | (go_at_call 122; (with_reducible refine (bK.out _).mono ?_); rintro rr w9 ⟨rfl,hb⟩; have E':=Lib.hid ((E.out.drew).below hb); clear E hb; clear y0 v0 y1 v1 k5 k6 k7 k8; have E:=E'; clear E'; obtain⟨y0,v0⟩:=(E.out.blocks (w5.heap.size,#[.float .f64 kl,.float .f64 kh]) (by simp)).1.two; obtain⟨y1,v1⟩:=(E.out.blocks (qs,#[.float .f64 sl,.float .f64 sh]) (by simp)).1.two; have k5:=(E.out.blocks (w.heap.size,#[.float .f64 0,.float .f64 0]) (by simp)).1.2.1; have k6:=(E.out.blocks (w.heap.size,#[.float .f64 0,.float .f64 0]) (by simp)).1.2.2; have k7:=(E.out.blocks (w.heap.size+1,#[.float .f64 0,.float .f64 0]) (by simp)).1.2.1; have k8:=(E.out.blocks (w.heap.size+1,#[.float .f64 0,.float .f64 0]) (by simp)).1.2.2)
         | (go_at_call 122; (with_reducible refine (bX.out _).mono ?_); rintro rr w9 ⟨rfl,hb⟩; have E':=Lib.hid ((E.out).below hb); clear E hb; clear y0 v0 y1 v1 k5 k6 k7 k8; have E:=E'; clear E'; obtain⟨y0,v0⟩:=(E.out.blocks (w5.heap.size,#[.float .f64 kl,.float .f64 kh]) (by simp)).1.two; obtain⟨y1,v1⟩:=(E.out.blocks (qs,#[.float .f64 sl,.float .f64 sh]) (by simp)).1.two; have k5:=(E.out.blocks (w.heap.size,#[.float .f64 0,.float .f64 0]) (by simp)).1.2.1; have k6:=(E.out.blocks (w.heap.size,#[.float .f64 0,.float .f64 0]) (by simp)).1.2.2; have k7:=(E.out.blocks (w.heap.size+1,#[.float .f64 0,.float .f64 0]) (by simp)).1.2.1; have k8:=(E.out.blocks (w.heap.size+1,#[.float .f64 0,.float .f64 0]) (by simp)).1.2.2)
         | (go_at_call 122; (with_reducible refine (bX.out _).mono ?_); rintro rr w9 ⟨rfl,hb⟩; have E':=Lib.hid ((E.out.drew).below hb); clear E hb; clear y0 v0 y1 v1 k5 k6 k7 k8; have E:=E'; clear E'; obtain⟨y0,v0⟩:=(E.out.blocks (w5.heap.size,#[.float .f64 kl,.float .f64 kh]) (by simp)).1.two; obtain⟨y1,v1⟩:=(E.out.blocks (qs,#[.float .f64 sl,.float .f64 sh]) (by simp)).1.two; have k5:=(E.out.blocks (w.heap.size,#[.float .f64 0,.float .f64 0]) (by simp)).1.2.1; have k6:=(E.out.blocks (w.heap.size,#[.float .f64 0,.float .f64 0]) (by simp)).1.2.2; have k7:=(E.out.blocks (w.heap.size+1,#[.float .f64 0,.float .f64 0]) (by simp)).1.2.1; have k8:=(E.out.blocks (w.heap.size+1,#[.float .f64 0,.float .f64 0]) (by simp)).1.2.2)
         | (go_at_call 122; (with_reducible refine (bY.out _).mono ?_); rintro rr w9 ⟨rfl,hb⟩; have E':=Lib.hid ((E.out).below hb); clear E hb; clear y0 v0 y1 v1 k5 k6 k7 k8; have E:=E'; clear E'; obtain⟨y0,v0⟩:=(E.out.blocks (w5.heap.size,#[.float .f64 kl,.float .f64 kh]) (by simp)).1.two; obtain⟨y1,v1⟩:=(E.out.blocks (qs,#[.float .f64 sl,.float .f64 sh]) (by simp)).1.two; have k5:=(E.out.blocks (w.heap.size,#[.float .f64 0,.float .f64 0]) (by simp)).1.2.1; have k6:=(E.out.blocks (w.heap.size,#[.float .f64 0,.float .f64 0]) (by simp)).1.2.2; have k7:=(E.out.blocks (w.heap.size+1,#[.float .f64 0,.float .f64 0]) (by simp)).1.2.1; have k8:=(E.out.blocks (w.heap.size+1,#[.float .f64 0,.float .f64 0]) (by simp)).1.2.2)
         | (go_at_call 122; (with_reducible refine (bY.out _).mono ?_); rintro rr w9 ⟨rfl,hb⟩; have E':=Lib.hid ((E.out.drew).below hb); clear E hb; clear y0 v0 y1 v1 k5 k6 k7 k8; have E:=E'; clear E'; obtain⟨y0,v0⟩:=(E.out.blocks (w5.heap.size,#[.float .f64 kl,.float .f64 kh]) (by simp)).1.two; obtain⟨y1,v1⟩:=(E.out.blocks (qs,#[.float .f64 sl,.float .f64 sh]) (by simp)).1.two; have k5:=(E.out.blocks (w.heap.size,#[.float .f64 0,.float .f64 0]) (by simp)).1.2.1; have k6:=(E.out.blocks (w.heap.size,#[.float .f64 0,.float .f64 0]) (by simp)).1.2.2; have k7:=(E.out.blocks (w.heap.size+1,#[.float .f64 0,.float .f64 0]) (by simp)).1.2.1; have k8:=(E.out.blocks (w.heap.size+1,#[.float .f64 0,.float .f64 0]) (by simp)).1.2.2)
         | (go_at_call 123; (with_reducible refine (cNs.out _ (E.out).cal).mono ?_); rintro rr w9 ⟨rfl,hp⟩; have E':=Lib.hid ((E.out).putc hp); clear E hp; clear y0 v0 y1 v1 k5 k6 k7 k8; have E:=E'; clear E'; obtain⟨y0,v0⟩:=(E.out.blocks (w5.heap.size,#[.float .f64 kl,.float .f64 kh]) (by simp)).1.two; obtain⟨y1,v1⟩:=(E.out.blocks (qs,#[.float .f64 sl,.float .f64 sh]) (by simp)).1.two; have k5:=(E.out.blocks (w.heap.size,#[.float .f64 0,.float .f64 0]) (by simp)).1.2.1; have k6:=(E.out.blocks (w.heap.size,#[.float .f64 0,.float .f64 0]) (by simp)).1.2.2; have k7:=(E.out.blocks (w.heap.size+1,#[.float .f64 0,.float .f64 0]) (by simp)).1.2.1; have k8:=(E.out.blocks (w.heap.size+1,#[.float .f64 0,.float .f64 0]) (by simp)).1.2.2)
         | (go_at_call 123; (with_reducible refine (cNs.out _ (E.out.drew).cal).mono ?_); rintro rr w9 ⟨rfl,hp⟩; have E':=Lib.hid ((E.out.drew).putc hp); clear E hp; clear y0 v0 y1 v1 k5 k6 k7 k8; have E:=E'; clear E'; obtain⟨y0,v0⟩:=(E.out.blocks (w5.heap.size,#[.float .f64 kl,.float .f64 kh]) (by simp)).1.two; obtain⟨y1,v1⟩:=(E.out.blocks (qs,#[.float .f64 sl,.float .f64 sh]) (by simp)).1.two; have k5:=(E.out.blocks (w.heap.size,#[.float .f64 0,.float .f64 0]) (by simp)).1.2.1; have k6:=(E.out.blocks (w.heap.size,#[.float .f64 0,.float .f64 0]) (by simp)).1.2.2; have k7:=(E.out.blocks (w.heap.size+1,#[.float .f64 0,.float .f64 0]) (by simp)).1.2.1; have k8:=(E.out.blocks (w.heap.size+1,#[.float .f64 0,.float .f64 0]) (by simp)).1.2.2)
         | (go_at_call 123; (with_reducible refine (cNk.out _ (E.out).cal).mono ?_); rintro rr w9 ⟨rfl,hp⟩; have E':=Lib.hid ((E.out).putc hp); clear E hp; clear y0 v0 y1 v1 k5 k6 k7 k8; have E:=E'; clear E'; obtain⟨y0,v0⟩:=(E.out.blocks (w5.heap.size,#[.float .f64 kl,.float .f64 kh]) (by simp)).1.two; obtain⟨y1,v1⟩:=(E.out.blocks (qs,#[.float .f64 sl,.float .f64 sh]) (by simp)).1.two; have k5:=(E.out.blocks (w.heap.size,#[.float .f64 0,.float .f64 0]) (by simp)).1.2.1; have k6:=(E.out.blocks (w.heap.size,#[.float .f64 0,.float .f64 0]) (by simp)).1.2.2; have k7:=(E.out.blocks (w.heap.size+1,#[.float .f64 0,.float .f64 0]) (by simp)).1.2.1; have k8:=(E.out.blocks (w.heap.size+1,#[.float .f64 0,.float .f64 0]) (by simp)).1.2.2)
         | (go_at_call 123; (with_reducible refine (cNk.out _ (E.out.drew).cal).mono ?_); rintro rr w9 ⟨rfl,hp⟩; have E':=Lib.hid ((E.out.drew).putc hp); clear E hp; clear y0 v0 y1 v1 k5 k6 k7 k8; have E:=E'; clear E'; obtain⟨y0,v0⟩:=(E.out.blocks (w5.heap.size,#[.float .f64 kl,.float .f64 kh]) (by simp)).1.two; obtain⟨y1,v1⟩:=(E.out.blocks (qs,#[.float .f64 sl,.float .f64 sh]) (by simp)).1.two; have k5:=(E.out.blocks (w.heap.size,#[.float .f64 0,.float .f64 0]) (by simp)).1.2.1; have k6:=(E.out.blocks (w.heap.size,#[.float .f64 0,.float .f64 0]) (by simp)).1.2.2; have k7:=(E.out.blocks (w.heap.size+1,#[.float .f64 0,.float .f64 0]) (by simp)).1.2.1; have k8:=(E.out.blocks (w.heap.size+1,#[.float .f64 0,.float .f64 0]) (by simp)).1.2.2))
     have M1:Hid (Mem w [(w.heap.size,#[.float .f64 0,.float .f64 0]),(w.heap.size+1,#[.float .f64 0,.float .f64 0])] _):=Lib.hid (M.out.puts (M.out.nth 0 rfl) E.out.put (by omega) [(w.heap.size,#[.float .f64 0,.float .f64 0]),(w.heap.size+1,#[.float .f64 0,.float .f64 0])] (by simp; omega))
     have M2:=Lib.hid (M1.out.sets (M1.out.nth 0 rfl) (.float .f64 al) (.float .f64 ah) (by omega) [(w.heap.size,#[.float .f64 al,.float .f64 ah]),(w.heap.size+1,#[.float .f64 0,.float .f64 0])] (by simp))
     have M3:=Lib.hid (M2.out.sets (M2.out.nth 1 rfl) (.float .f64 dl) (.float .f64 dh) (by omega) [(w.heap.size,#[.float .f64 al,.float .f64 ah]),(w.heap.size+1,#[.float .f64 dl,.float .f64 dh])] (by simp))
     go_wp2
     have f1:=(M3.out.nth 0 rfl).2.1
     have g1:=(M3.out.nth 1 rfl).2.1
     exact bodyPost_ret (v:=.tuple #[.agg #[.float .f64 al,.float .f64 ah],.agg #[.float .f64 dl,.float .f64 dh]]) (by simp [results,Tryz.results79,go_sem,f1,g1]) rfl ⟨rfl,M3.out.base⟩
end
end Go.Proofs.YtnaomilkgfkegaaGreat
