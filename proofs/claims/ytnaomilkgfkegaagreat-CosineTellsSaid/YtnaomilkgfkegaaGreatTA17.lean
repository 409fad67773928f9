/- What the claim stands on, part 18: QTA. -/
import Derived.Test.YtnaomilkgfkegaaGreatTA15
import Derived.LoopTactic
import Derived.Test.YtnaomilkgfkegaaGreatTA0
import Derived.Deep.RegionHeld3
import Derived.IntWalk
import Derived.Deep.CutRange
set_option maxHeartbeats 4000000
set_option maxRecDepth 100000
namespace Go.Proofs.YtnaomilkgfkegaaGreat
section
open Go.RowKit
def pointW (x y:Nat) (up:Bool):Nat→Nat
 | 0=>addW x y up | 1=>subW x y up | 2=>mulW x y up | 3=>divW x y up | 4=>minW x y | 5=>maxW x y | 6=>mulW x x up | 7=>sqrtW x up | 8=>turnW x | 9=>maxW x (turnW x) | _=>x
def pointE (x y:Nat) (up:Bool):Nat→Int
 | 0=>addE x y up | 1=>subE x y up | 2=>mulE x y up | 3=>divE x y up | 6=>mulE x x up | 7=>sqrtE x up | _=>0
end
section
open Go.RowKit
theorem down_up {s:Nat} {T:Int} {c c':Nat} (hs:0 < s) (d:Down s T c 0) (u:Up s T c' 0):val c≤val c':=by
 obtain⟨-,-,d1,-⟩:=d.ok
 obtain⟨-,-,u1,-⟩:=u.ok
 exact Int.le_of_mul_le_mul_right (Int.le_trans d1 u1) (by omega:(0:Int) < s)
theorem turn_zero_or {x:Nat} (lx:x < 18446744073709551616) (rx:rightB x=true) (h:val x≤0):turnW x=maxW x (turnW x):=by
 obtain⟨t1,t2,t3⟩:=turn_facts x lx rx
 unfold maxW
 by_cases g:val x < val (turnW x)
 · rw [if_pos g]
 · rw [if_neg g]
   exact val_inj t1 lx t2 rx (by omega)
theorem self_or {x:Nat} (lx:x < 18446744073709551616) (rx:rightB x=true) (h:0≤val x):x=maxW x (turnW x):=by
 obtain⟨t1,t2,t3⟩:=turn_facts x lx rx
 unfold maxW
 rw [if_neg (by omega)]
theorem rung_half (x:Nat):rung (x+9223372036854775808)=rung x:=by unfold rung; omega
theorem mul_turn (x:Nat) (lx:x < 18446744073709551616) (rx:rightB x=true) (up:Bool):mulW (turnW x) (turnW x) up=mulW x x up∧mulE (turnW x) (turnW x) up=mulE x x up:=by
 unfold turnW
 by_cases h0:x=0
 · rw [if_pos h0,h0]; exact ⟨rfl,rfl⟩
 · have h1:=(turn_facts x lx rx).2.1
   unfold turnW at h1
   rw [if_neg h0] at h1 ⊢
   by_cases h:x < 9223372036854775808
   · rw [if_pos h] at h1 ⊢
     have e1:mant (x+9223372036854775808)=mant x:=by unfold mant; rw [rung_half]
     have e2:expo (x+9223372036854775808)=expo x:=by unfold expo; rw [rung_half]
     unfold mulW mulE
     rw [e1,e2,h1,rx]; simp
   · rw [if_neg h] at h1 ⊢
     obtain⟨y,hy⟩:∃ y,y=x - 9223372036854775808:=⟨_,rfl⟩
     have hx:x=y+9223372036854775808:=by omega
     rw [←hy] at h1 ⊢
     have e1:mant (y+9223372036854775808)=mant y:=by unfold mant; rw [rung_half]
     have e2:expo (y+9223372036854775808)=expo y:=by unfold expo; rw [rung_half]
     unfold mulW mulE
     rw [hx] at rx ⊢
     rw [e1,e2,h1,rx]; simp
theorem ends_one (x:Nat) (u:Bool):endW x x u=x:=by unfold endW; split <;> rfl
theorem low_one (x b:Nat):lowOf x x b=x:=by unfold lowOf; split <;> rfl
theorem high_one (x b:Nat):highOf x x b=x:=by unfold highOf; split <;> rfl
theorem sqrt_down_up (x:Nat) (lx:x < 18446744073709551616) (rx:rightB x=true) (hv:0≤val x):val (sqrtW x false)≤val (sqrtW x true):=by
 have sx:=(sgn_of_val x lx rx).1 hv
 obtain⟨p1,p2,p3,_⟩:=sqrt_rungs x rx sx false
 obtain⟨q1,q2,_,q4⟩:=sqrt_rungs x rx sx true
 have m:=(p3 rfl _).2 (Nat.le_refl _)
 have n:=(q4 rfl _).2 (Nat.le_refl _)
 have w:∀ x,x≤9218868437227405311→val x=(steps x:Int):=fun x hx=>by
   have:=(sw_facts false x hx).2.2
   rw [sw_false] at this
   exact this
 rw [w _ p2,w _ q2]
 exact Int.ofNat_le.2 (Nat.le_of_not_lt fun hlt=>Nat.lt_irrefl _ (Nat.lt_of_lt_of_le (Nat.mul_self_lt_mul_self hlt) (Nat.le_trans m n)))
theorem same_4d (x y:Nat):pointW x y false 4=minW x y:=rfl
theorem same_4u (x y:Nat):pointW x y true 4=minW x y:=rfl
theorem same_4 (x y:Nat):pointW x y false 4=pointW x y true 4:=(same_4d x y).trans (same_4u x y).symm
theorem same_5d (x y:Nat):pointW x y false 5=maxW x y:=rfl
theorem same_5u (x y:Nat):pointW x y true 5=maxW x y:=rfl
theorem same_5 (x y:Nat):pointW x y false 5=pointW x y true 5:=(same_5d x y).trans (same_5u x y).symm
theorem same_8d (x y:Nat):pointW x y false 8=turnW x:=rfl
theorem same_8u (x y:Nat):pointW x y true 8=turnW x:=rfl
theorem same_8 (x y:Nat):pointW x y false 8=pointW x y true 8:=(same_8d x y).trans (same_8u x y).symm
theorem same_9d (x y:Nat):pointW x y false 9=maxW x (turnW x):=rfl
theorem same_9u (x y:Nat):pointW x y true 9=maxW x (turnW x):=rfl
theorem same_9 (x y:Nat):pointW x y false 9=pointW x y true 9:=(same_9d x y).trans (same_9u x y).symm
theorem same_10d (x y:Nat):pointW x y false 10=x:=rfl
theorem same_10u (x y:Nat):pointW x y true 10=x:=rfl
theorem same_10 (x y:Nat):pointW x y false 10=pointW x y true 10:=(same_10d x y).trans (same_10u x y).symm
def One (x y j:Nat):Prop:=askI x x y y j=⟨0,pointW x y false j,pointW x y true j⟩∧pointE x y false j=0∧pointE x y true j=0∧val (pointW x y false j)≤val (pointW x y true j)
section
variable (x y:Nat) (lx:x < 18446744073709551616) (ly:y < 18446744073709551616) (rx:rightB x=true) (ry:rightB y=true)
include rx ry in
theorem one_0 (h:(askI x x y y 0).e=0):One x y 0:=by
 unfold One
 obtain⟨e1,e2,e3⟩:=tight_e h
 have d:=add_down x y rx ry
 have u:=add_up x y rx ry
 rw [e1] at d; rw [e2] at u
 exact ⟨e3,e1,e2,down_up (by decide) d u⟩
include rx ry in
theorem one_1 (h:(askI x x y y 1).e=0):One x y 1:=by
 unfold One
 obtain⟨e1,e2,e3⟩:=tight_e h
 have d:=sub_down x y rx ry
 have u:=sub_up x y rx ry
 rw [e1] at d; rw [e2] at u
 exact ⟨e3,e1,e2,down_up (by decide) d u⟩
include rx ry in
theorem one_2 (h:(askI x x y y 2).e=0):One x y 2:=by
 unfold One
 have cx:=cross_one x
 have cy:=cross_one y
 have e5:askI x x y y 2=mul1 x x y y:=by
   show mulI x x y y=_
   unfold mulI mulJ
   rw [cx,cy,Bool.false_and,if_neg Bool.false_ne_true,if_neg Bool.false_ne_true]
 rw [e5] at h ⊢
 unfold mul1 at h ⊢
 simp only [ends_one,low_one,high_one] at h ⊢
 obtain⟨e1,e2,e3⟩:=tight_e h
 have d:=(mul_dir x y rx ry false).1 rfl
 have u:=(mul_dir x y rx ry true).2 rfl
 rw [e1] at d; rw [e2] at u
 exact ⟨e3,e1,e2,down_up two_sq d u⟩
include rx ly ry in
theorem one_3 (h:(askI x x y y 3).e=0):One x y 3:=by
 unfold One
 have e5:askI x x y y 3=divI x x y y:=rfl
 rw [e5] at h ⊢
 unfold divI at h ⊢
 by_cases hz:hasB y y 0=true
 · rw [if_pos hz] at h; exact absurd h (by decide)
 · rw [if_neg hz] at h ⊢
   unfold div1 at h ⊢
   simp only [ends_one,low_one,high_one] at h ⊢
   obtain⟨e1,e2,e3⟩:=tight_e h
   refine ⟨e3,e1,e2,?_⟩
   show val (divW x y false)≤val (divW x y true)
   rcases Int.lt_trichotomy (val y) 0 with g | g | g
   · obtain⟨s,hs,hs',d1,_⟩:=div_neg x y rx ly ry g false
     obtain⟨s',ht,ht',_,d2⟩:=div_neg x y rx ly ry g true
     have hss:s'=s:=by omega
     subst hss
     have d:=d1 rfl
     have u:=d2 rfl
     rw [e1] at d; rw [e2] at u
     exact down_up hs d u
   · exfalso
     rw [has_zero ly ly (ivR_one y ry),g] at hz
     exact hz (by decide)
   · obtain⟨s,hs,hs',d1,_⟩:=div_pos x y rx ly ry g false
     obtain⟨s',ht,ht',_,d2⟩:=div_pos x y rx ly ry g true
     have hss:s'=s:=by omega
     subst hss
     have d:=d1 rfl
     have u:=d2 rfl
     rw [e1] at d; rw [e2] at u
     exact down_up hs d u
theorem one_4 (_:(askI x x y y 4).e=0):One x y 4:=by
 unfold One
 exact ⟨rfl,rfl,rfl,Int.le_of_eq (congrArg val (same_4 x y))⟩
theorem one_5 (_:(askI x x y y 5).e=0):One x y 5:=by
 unfold One
 exact ⟨rfl,rfl,rfl,Int.le_of_eq (congrArg val (same_5 x y))⟩
include lx rx in
theorem one_6 (h:(askI x x y y 6).e=0):One x y 6:=by
 unfold One
 have ha:(absLo x x=x∨absLo x x=turnW x)∧(absHi x x=x∨absHi x x=turnW x):=by
   unfold absLo absHi leB
   rw [val_nil]
   by_cases g:0≤val x
   · rw [decide_eq_true g,if_pos rfl,if_pos rfl]; exact ⟨Or.inl rfl,Or.inl rfl⟩
   · rw [decide_eq_false g,if_neg Bool.false_ne_true,if_neg Bool.false_ne_true,decide_eq_true (by omega:val x≤0),if_pos rfl,if_pos rfl]; exact ⟨Or.inr rfl,Or.inr rfl⟩
 have e5:askI x x y y 6=tightR (mulW x x false) (mulE x x false) (mulW x x true) (mulE x x true):=by
   show sqrI x x=_
   unfold sqrI
   obtain⟨m1,m2⟩:=mul_turn x lx rx false
   obtain⟨n1,n2⟩:=mul_turn x lx rx true
   rcases ha with ⟨hl | hl,hr | hr⟩ <;> rw [hl,hr] <;> (try rw [m1,m2]) <;> (try rw [n1,n2])
 rw [e5] at h ⊢
 obtain⟨e1,e2,e3⟩:=tight_e h
 have d:=(mul_dir x x rx rx false).1 rfl
 have u:=(mul_dir x x rx rx true).2 rfl
 rw [e1] at d; rw [e2] at u
 exact ⟨e3,e1,e2,down_up two_sq d u⟩
include lx rx in
theorem one_7 (h:(askI x x y y 7).e=0):One x y 7:=by
 unfold One
 have e5:askI x x y y 7=sqrtI x x:=rfl
 rw [e5] at h ⊢
 unfold sqrtI at h ⊢
 by_cases hz:ltB x 0=true
 · rw [if_pos hz] at h; exact absurd h (by decide)
 · rw [if_neg hz] at h ⊢
   obtain⟨e1,e2,e3⟩:=tight_e h
   refine ⟨e3,e1,e2,?_⟩
   show val (sqrtW x false)≤val (sqrtW x true)
   exact sqrt_down_up x lx rx (by unfold ltB at hz; rw [val_nil] at hz; simp at hz; exact hz)
theorem one_8 (_:(askI x x y y 8).e=0):One x y 8:=by
 unfold One
 exact ⟨rfl,rfl,rfl,Int.le_of_eq (congrArg val (same_8 x y))⟩
include lx rx in
theorem one_9 (_:(askI x x y y 9).e=0):One x y 9:=by
 unfold One
 have e5:askI x x y y 9=⟨0,maxW x (turnW x),maxW x (turnW x)⟩:=by
   show absI x x=_
   unfold absI absLo absHi leB
   rw [val_nil]
   by_cases g:0≤val x
   · rw [decide_eq_true g,if_pos rfl,if_pos rfl,←self_or lx rx g]
   · rw [decide_eq_false g,if_neg Bool.false_ne_true,if_neg Bool.false_ne_true,decide_eq_true (by omega:val x≤0),if_pos rfl,if_pos rfl,←turn_zero_or lx rx (by omega)]
 exact ⟨e5,rfl,rfl,Int.le_of_eq (congrArg val (same_9 x y))⟩
include rx in
theorem one_10 (_:(askI x x y y 10).e=0):One x y 10:=by
 unfold One
 have e5:askI x x y y 10=⟨0,x,x⟩:=by show ofI x=_; unfold ofI; rw [if_pos rx]
 exact ⟨e5,rfl,rfl,Int.le_of_eq (congrArg val (same_10 x y))⟩
end
theorem ask_one (x y j:Nat) (hj:j < 11) (lx:x < 18446744073709551616) (ly:y < 18446744073709551616) (rx:rightB x=true) (ry:rightB y=true) (h:(askI x x y y j).e=0):One x y j:=by
 rcases (show j=0∨j=1∨j=2∨j=3∨j=4∨j=5∨j=6∨j=7∨j=8∨j=9∨j=10 by omega) with rfl | rfl | rfl | rfl | rfl | rfl | rfl | rfl | rfl | rfl | rfl
 · exact one_0 x y rx ry h
 · exact one_1 x y rx ry h
 · exact one_2 x y rx ry h
 · exact one_3 x y ly rx ry h
 · exact one_4 x y  h
 · exact one_5 x y  h
 · exact one_6 x y lx rx h
 · exact one_7 x y lx rx h
 · exact one_8 x y  h
 · exact one_9 x y lx rx h
 · exact one_10 x y rx h
theorem ask_holds (al ah bl bh x y j:Nat) (hj:j < 11) (la:al < 18446744073709551616) (ha:ah < 18446744073709551616) (lb:bl < 18446744073709551616) (hb:bh < 18446744073709551616) (lx:x < 18446744073709551616) (ly:y < 18446744073709551616)
   (r1:ivR al ah=true) (r2:ivR bl bh=true) (rx:rightB x=true) (ry:rightB y=true) (h1:val al≤val x) (h2:val x≤val ah) (h3:val bl≤val y) (h4:val y≤val bh) (h10:j=10→al=ah) (h:(askI al ah bl bh j).e=0) :
   ivR (askI al ah bl bh j).lo (askI al ah bl bh j).hi=true∧pointE x y false j=0∧pointE x y true j=0∧val (askI al ah bl bh j).lo≤val (pointW x y false j)∧val (pointW x y true j)≤val (askI al ah bl bh j).hi:=by
 obtain⟨w1,w2,w3⟩:=ask_within al ah bl bh x x y y j hj la ha lb hb lx lx ly ly r1 r2 (ivR_one x rx) (ivR_one y ry) h1 h2 h3 h4 h10 h
 obtain⟨o1,o2,o3,o4⟩:=ask_one x y j hj lx ly rx ry w1
 rw [o1] at w2 w3
 obtain⟨n1,n2,n3,n4⟩:=ask_nums al ah bl bh j hj la ha lb hb r1 r2 h
 refine ⟨?_,o2,o3,w2,w3⟩
 unfold ivR leB
 rw [n2,n4,decide_eq_true (Int.le_trans w2 (Int.le_trans o4 w3))]; rfl
end
section
open Go.RowKit
attribute [local go_sem] run_store_float
def boundI (lo hi:Nat):Res:=⟨0,meetLo lo hi 13830554455654793216 4607182418800017408,meetHi lo hi 13830554455654793216 4607182418800017408⟩
theorem bounded_any (al ah:Nat) (w:World) (la:al < 18446744073709551616) (ha:ah < 18446744073709551616) (r1:rightB al=true) (r2:rightB ah=true) :
   Calls Tryz.prog 116 #[.agg #[al,ah]] w (Rt (.agg #[.float .f64 (boundI al ah).lo,.float .f64 (boundI al ah).hi]) w):=by
 have cM:Hid (∀ w,Calls Tryz.prog 59 #[.agg #[al,ah],.agg #[(13830554455654793216:Nat),(4607182418800017408:Nat)]] w (Rt (.tuple #[.agg #[.float .f64 (boundI al ah).lo,.float .f64 (boundI al ah).hi],.bool (bothB al ah 13830554455654793216 4607182418800017408)]) w)):=
   Lib.hid (fun w=>meet_any al ah 13830554455654793216 4607182418800017408 w la ha (by decide) (by decide) r1 r2 (by decide) (by decide))
 have M:=Lib.hid (Mem.two w #[al,ah] #[(),()] 31 31)
 clear la ha r1 r2
 obtain⟨x,hx⟩:∃ x,x=(boundI al ah).lo:=⟨_,rfl⟩
 obtain⟨y,hy⟩:∃ y,y=(boundI al ah).hi:=⟨_,rfl⟩
 obtain⟨b,hb⟩:∃ b,b=bothB al ah 13830554455654793216 4607182418800017408:=⟨_,rfl⟩
 rw [←hx,←hy,←hb] at cM
 rw [←hx,←hy]
 clear hx hy hb
 go_enter Tryz.func116,Tryz.ntmps116
 go_wp2_with fail
 refine (cM.out _).mono ?_
 rintro r w1 ⟨rfl,hb⟩
 replace M:=Lib.hid (M.out.below hb)
 clear hb
 have k1:=(M.out.nth 1 rfl).2.1
 have f1:=(M.out.nth 1 rfl).2.2
 have z1:=M.out.size 1 rfl
 go_wp2
 have M3:=Lib.hid (((M.out.sets (M.out.nth 1 rfl) (.float .f64 x) (.float .f64 y) (by simp) [(w.heap.size+1,#[x,y])] (by simp))).made #[x,y] 31)
 have k2:=(M3.out.nth 1 rfl).2.1
 exact bodyPost_ret (v:=.agg #[.float .f64 x,.float .f64 y]) (by simp [results,Tryz.results116,go_sem,k2]) rfl ⟨rfl,M3.out.base⟩
def eighth:Nat→Nat
 | 0=>4593671619917905920 | 1=>4600427019358961664 | 2=>4603804719079489536 | _=>4606056518893174784
theorem run_eighth (k:Nat) (hk:k < 4):floatBits .quo .f64 (floatOfInt .f64 (2*(k:Int)+1)) 4620693217682128896=some (eighth k):=by
 rcases (show k=0∨k=1∨k=2∨k=3 by omega) with rfl | rfl | rfl | rfl <;> decide +kernel
def qN (x:Nat):Nat:=if val x < val (eighth 0) then 0 else if val x < val (eighth 1) then 1 else if val x < val (eighth 2) then 2 else if val x < val (eighth 3) then 3 else 4
theorem eighth_facts:val (eighth 0) < val (eighth 1)∧val (eighth 1) < val (eighth 2)∧val (eighth 2) < val (eighth 3):=by decide +kernel
theorem qN_le (x:Nat):qN x≤4:=by unfold qN; (repeat' split) <;> omega
theorem qN_test (x k:Nat) (hk:k < 4) (lx:x < 18446744073709551616) (rx:rightB x=true) :
   ((FloatKind.f64.format.order x (eighth k) == some Ordering.gt) || (FloatKind.f64.format.order x (eighth k) == some Ordering.eq))=decide (k < qN x):=by
 have l:∀ k,k < 4→eighth k < 18446744073709551616∧rightB (eighth k)=true:=by decide +kernel
 obtain⟨l1,l2⟩:=l k hk
 rw [order_gt _ _ lx l1 rx l2,order_eq _ _ lx l1 rx l2]
 obtain⟨e1,e2,e3⟩:=eighth_facts
 have key:(val (eighth k)≤val x)↔k < qN x:=by
   unfold qN
   rcases (show k=0∨k=1∨k=2∨k=3 by omega) with rfl | rfl | rfl | rfl <;> (repeat' split) <;> omega
 rcases Int.lt_trichotomy (val x) (val (eighth k)) with g | g | g
 · have h1:¬ k < qN x:=fun h=>by have:=key.2 h; omega
   rw [decide_eq_false (show ¬ val (eighth k) < val x by omega),decide_eq_false (show ¬ val x=val (eighth k) by omega),decide_eq_false h1]; rfl
 · have h1:k < qN x:=key.1 (by omega)
   rw [decide_eq_false (show ¬ val (eighth k) < val x by omega),decide_eq_true g,decide_eq_true h1]; rfl
 · have h1:k < qN x:=key.1 (by omega)
   rw [decide_eq_true g,decide_eq_true h1]; rfl
theorem quarter_walk (x j:Nat) (w:World) (hj:j≤4)
   (H:Hid (∀ k:Nat,k < 4→((FloatKind.f64.format.order x (eighth k) == some Ordering.gt) || (FloatKind.f64.format.order x (eighth k) == some Ordering.eq))=decide (k < j))) :
   Calls Tryz.prog 108 #[x] w fun r w'=>r = .returned (.int .i64 j)∧w=w':=by
 go_enter Tryz.func108,Tryz.ntmps108
 go_wp2_with fail
 go_loop [3] (fun v=>∃ k:Nat,k≤j∧v = .int .i64 k) (fun v=>(5 - intOf v).toNat)
 case atStart=>exact ⟨0,Nat.zero_le _,rfl⟩
 case round =>
   obtain⟨k,hk,rfl⟩:=hrel
   have hw:wrap64 (2*(k:Int))=2*(k:Int):=wrap64_in _ (by omega) (by omega)
   by_cases h4:k < 4
   · have hq:=fun t w=>run_float_arith (P:=Tryz.prog) (w:=w) .quo t .f64 _ _ _ (run_eighth k h4)
     have ht:=H.out k h4
     by_cases hlt:k < j
     · rw [decide_eq_true hlt] at ht
       clear H
       go_wp2
       go_round
       case rel=>exact ⟨k+1,by omega,by go_num⟩
       case measure=>simp [intOf]; omega
     · rw [decide_eq_false hlt] at ht
       obtain rfl:k=j:=by omega
       clear H
       go_wp2
       go_ret
       exact ⟨rfl,rfl⟩
   · obtain rfl:k=j:=by omega
     obtain rfl:k=4:=by omega
     clear H
     go_wp2
     go_ret
     exact ⟨rfl,rfl⟩
theorem quarter_any (x:Nat) (w:World) (lx:x < 18446744073709551616) (rx:rightB x=true) :
   Calls Tryz.prog 108 #[x] w fun r w'=>r = .returned (.int .i64 (qN x))∧w=w':=
 quarter_walk x (qN x) w (qN_le x) (Lib.hid fun k hk=>qN_test x k hk lx rx)
end
section
open Go.RowKit
section
variable {P:Program} {ops:Array Oper} {Q:Exit→Act→World→Prop} {md:Region.Mode} {S:World→Prop}
def wpAnyV (P:Program) (md:Region.Mode) (ops:Array Oper) (Q:Exit→Act→World→Prop) (S:World→Prop) (T:List Nat):Nat→Array Bool→Act→World→Prop
 | 0,listed,a,w=>Region.ready md ops listed=[]∧Q .normal a w
 | n+1,listed,a,w=>(Region.ready md ops listed=[]→Q .normal a w) ∧
     ∀ i,i∈Region.ready md ops listed→wpOp P ops Q i (fun b v=>(i∈T∨S v)∧wpAnyV P md ops Q S T n (listed.setIfInBounds i true) b v) a w
def ClosedL (md:Region.Mode) (ops:Array Oper) (listed:Array Bool):Prop:=
 ∀ j q,ops[j]? = some q→listed.getD j false=true→∀ e,e∈q.after→Region.binds md e=true→listed.getD e.on false=true
def closedB (md:Region.Mode) (ops:Array Oper) (listed:Array Bool):Bool:=
 (List.range ops.size).all fun j=>match ops[j]? with
   | some q => !listed.getD j false || q.after.all fun e => !Region.binds md e || listed.getD e.on false
   | none=>true
theorem closed_of {listed:Array Bool} (h:closedB md ops listed=true):ClosedL md ops listed:=by
 intro j q hq hl e he hb
 unfold closedB at h
 rw [List.all_eq_true] at h
 have hj:j < ops.size:=by
   rcases Nat.lt_or_ge j ops.size with g | g
   · exact g
   · simp [Array.getElem?_eq_none g] at hq
 have k:=h j (by simp [hj])
 rw [hq] at k
 simp only [hl,Bool.not_true,Bool.false_or,Array.all_eq_true] at k
 obtain⟨m,hm,rfl⟩:=Array.mem_iff_getElem.1 he
 have k2:=k m hm
 rw [hb] at k2
 simpa using k2
theorem getD_set_true (listed:Array Bool) (i k:Nat) (h:listed.getD k false=true):(listed.setIfInBounds i true).getD k false=true:=by
 simp only [Array.getD_eq_getD_getElem?] at h ⊢
 rw [Array.getElem?_setIfInBounds]
 by_cases hk:i=k
 · subst hk
   by_cases hs:i < listed.size
   · simp [hs]
   · simp [Array.getElem?_eq_none (Nat.le_of_not_lt hs)] at h
 · simp [hk]; simpa using h
theorem closed_set {listed:Array Bool} {i:Nat} (h:ClosedL md ops listed) (hi:i∈Region.ready md ops listed):ClosedL md ops (listed.setIfInBounds i true):=by
 intro j q hq hl e he hb
 by_cases hj:i=j
 · subst hj
   obtain⟨_,q',hq',hall⟩:=mem_ready.1 hi
   rw [hq] at hq'
   cases hq'
   exact getD_set_true _ _ _ (hall e he hb)
 · refine getD_set_true _ _ _ (h j q hq ?_ e he hb)
   simp only [Array.getD_eq_getD_getElem?] at hl ⊢
   rw [Array.getElem?_setIfInBounds] at hl
   simpa [hj] using hl
variable {T:List Nat}
theorem tails_any:∀ (n:Nat) (listed:Array Bool) (a:Act) (w:World),wpAnyV P md ops Q S T n listed a w→wpAny P md ops Q n listed a w
 | 0,_,_,_,h=>h
 | n+1,_,_,_,h=>⟨h.1,fun i hi=>wpOp_mono (fun b v k=>tails_any n _ b v k.2) (h.2 i hi)⟩
def waitsFor (md:Region.Mode) (ops:Array Oper) (L i:Nat):Bool:=
 match ops[L]? with
 | some q=>q.after.any fun e=>Region.binds md e&&(e.on == i || (match ops[e.on]? with
     | some q'=>q'.after.any fun e'=>Region.binds md e'&&e'.on == i
     | none=>false))
 | none=>true
theorem waits_listed {listed:Array Bool} {L i:Nat} (hc:ClosedL md ops listed) (hL:L∈Region.ready md ops listed) (h:waitsFor md ops L i=true):listed.getD i false=true:=by
 obtain⟨_,q,hq,hall⟩:=mem_ready.1 hL
 unfold waitsFor at h
 rw [hq] at h
 simp only [Array.any_eq_true,Bool.and_eq_true,Bool.or_eq_true,beq_iff_eq] at h
 obtain⟨k,hk,hb,hor⟩:=h
 have hl:=hall _ (Array.getElem_mem hk) hb
 rcases hor with rfl | hor
 · exact hl
 · cases hq':ops[q.after[k].on]? with
   | none=>rw [hq'] at hor; simp at hor
   | some q' =>
     rw [hq'] at hor
     simp only [Array.any_eq_true,Bool.and_eq_true,beq_iff_eq] at hor
     obtain⟨m,hm,hb',rfl⟩:=hor
     exact hc _ q' hq' hl _ (Array.getElem_mem hm) hb'
theorem tails_first {i:Nat} {o:Oper} {x:Value} (hi:ops[i]? = some o) (hsel:∀ (j:Nat) (q:Oper) cs b,ops[j]? = some q→q.op ≠ .select cs b) (hQ:∀ c a w,Q (.panic c) (a.put o.dst x) w→Q (.panic c) a w)
   (hL:∀ L,L∈T→waitsFor md ops L i=true) (n:Nat) :
   ∀ (listed:Array Bool) (a:Act) (w:World),ClosedL md ops listed→(∀ j q,ops[j]? = some q→j≠i→listed.getD j true=false→(∀ e∈q.after,Region.binds md e=true→e.on≠i)→o.apart ops q=true) →
     i∈Region.ready md ops listed→YieldsIf P ops S o x a→S w→wpAnyV P md ops Q S T n (listed.setIfInBounds i true) (a.put o.dst x) w→wpAnyV P md ops Q S T (n+1) listed a w:=by
 have unl:∀ {listed:Array Bool},i∈Region.ready md ops listed→listed.getD i false=true→False:=by
   intro listed hr h1
   have h0:=(mem_ready.1 hr).1
   rcases Nat.lt_or_ge i listed.size with g | g
   · simp [g] at h0 h1; rw [h0] at h1; cases h1
   · simp [Array.getElem?_eq_none g] at h1
 have wait:∀ {listed:Array Bool} {j:Nat} {q:Oper},i∈Region.ready md ops listed→(∀ e∈q.after,Region.binds md e=true→listed.getD e.on false=true)→∀ e∈q.after,Region.binds md e=true→e.on≠i:=by
   intro listed j q hr hall e he hb heq
   have h1:=hall e he hb
   rw [heq] at h1
   exact unl hr h1
 induction n with
 | zero =>
   intro listed a w _ _ hr hy hS H
   refine ⟨fun h=>absurd hr (by rw [h]; simp),fun j hj=>?_⟩
   rcases Nat.decEq j i with hne | rfl
   · exact absurd (ready_mono hj hne) (by rw [H.1]; simp)
   · exact hy.wpOp hi hS ⟨Or.inr hS,H⟩
 | succ n ih =>
   intro listed a w hcl hfree hr hy hS H
   refine ⟨fun h=>absurd hr (by rw [h]; simp),fun j hj=>?_⟩
   rcases Nat.decEq j i with hne | rfl
   · obtain⟨un,q,hq,hall⟩:=mem_ready.1 hj
     have away:=wait (j:=j) hr hall
     have step:=wpOp_putIf hq (hfree j q hq hne un away) (fun cs b=>hsel i o cs b hi) (fun cs b=>hsel j q cs b hq) hQ hy (H.2 j (ready_mono hj hne))
     have still:i∈Region.ready md ops (listed.setIfInBounds j true):=ready_mono hr (Ne.symm hne)
     have hcl':=closed_set hcl hj
     refine wpOp_mono (fun b v k=>?_) step
     obtain⟨yb,ks,kt⟩:=k
     have ks':S v:=by
       rcases ks with ks | ks
       · exact absurd (waits_listed hcl hj (hL j ks)) (fun h=>unl hr h)
       · exact ks
     refine ⟨Or.inr ks',ih _ b v hcl' (fun l r hl hli hun hno=>hfree l r hl hli ?_ hno) still yb ks' ?_⟩
     · by_cases g:j=l
       · subst g; exact un
       · rw [getD_set_ne true g] at hun; exact hun
     · rw [Array.setIfInBounds_comm _ _ hne]
       exact kt
   · exact hy.wpOp hi hS ⟨Or.inr hS,H⟩
theorem tails_take {i:Nat} {o:Oper} {x:Value} {n:Nat} {listed:Array Bool} {a:Act} {w:World} (hi:ops[i]? = some o) (hs:Region.noSelect ops=true) (hf:Region.free md ops listed i=true) (hr:(Region.ready md ops listed).contains i=true)
   (hl:(closedB md ops listed&&T.all fun L=>waitsFor md ops L i)=true) (hQ:∀ c a w,Q (.panic c) (a.put o.dst x) w→Q (.panic c) a w) (hy:YieldsIf P ops S o x a) (hS:S w)
   (h:wpAnyV P md ops Q S T n (listed.setIfInBounds i true) (a.put o.dst x) w):wpAnyV P md ops Q S T (n+1) listed a w:=by
 rw [Bool.and_eq_true,List.all_eq_true] at hl
 exact tails_first hi (Region.noSelect_spec hs) hQ hl.2 n listed a w (closed_of hl.1) (Region.free_spec hi hf) (by simpa using hr) hy hS h
theorem tails_one {i:Nat} {o:Oper} {n:Nat} {listed:Array Bool} {a:Act} {w:World} (hi:ops[i]? = some o) (hr:Region.ready md ops listed=[i])
   (h:∀ K:Act→World→Prop,Shut (∀ b v,(i∈T∨S v)→((i∈T∨S v)→wpAnyV P md ops Q S T n (listed.setIfInBounds i true) b v)→K b v)→if Region.wanted o (yielded ops a.tmps) then o.wp P a w K Q else K (a.put o.dst undef) w) :
   wpAnyV P md ops Q S T (n+1) listed a w:=by
 refine ⟨fun h0=>absurd hr (by rw [h0]; simp),fun j hj=>?_⟩
 rw [hr] at hj
 have:j=i:=by simpa using hj
 subst this
 have k:=h (fun b v=>(j∈T∨S v)∧wpAnyV P md ops Q S T n (listed.setIfInBounds j true) b v) (fun b v h1 h2=>⟨h1,h2 h1⟩)
 unfold wpOp
 simp only [hi]
 split at k
 · rename_i hw
   rw [if_pos hw]; exact Or.inl k
 · rename_i hw
   rw [if_neg hw]; exact k
theorem tails_done {listed:Array Bool} {a:Act} {w:World} (hr:Region.ready md ops listed=[]) (h:Q .normal a w):∀ n,wpAnyV P md ops Q S T n listed a w
 | 0=>⟨hr,h⟩
 | _+1=>⟨fun _=>h,by rw [hr]; simp⟩
theorem tails_region {id:Nat} {a:Act} {w:World} (T:List Nat) (hm:P.follows .mixedOrders=true) (hS:S w.drew) (h:S w.drew→wpAnyV P .any ops Q S T ops.size (Array.replicate ops.size false) a w.drew):(Code.region id ops true).wp P Q a w:=
 wp_region_any hm (tails_any _ _ _ _ (h hS))
end
end
section
open Go.RowKit
def fitB (r:Res):Bool:=decide (r.e=0)&&decide (r.lo < 18446744073709551616)&&decide (r.hi < 18446744073709551616)&&ivR r.lo r.hi
structure Fit (r:Res):Prop where
 e:r.e=0
 lo:r.lo < 18446744073709551616
 hi:r.hi < 18446744073709551616
 iv:ivR r.lo r.hi=true
theorem Fit.of {r:Res} (h:fitB r=true):Fit r:=by
 unfold fitB at h
 simp only [Bool.and_eq_true,decide_eq_true_eq] at h
 exact ⟨h.1.1.1,h.1.1.2,h.1.2,h.2⟩
theorem Fit.rlo {r:Res} (h:Fit r):rightB r.lo=true:=(ivR_parts h.iv).1
theorem Fit.rhi {r:Res} (h:Fit r):rightB r.hi=true:=(ivR_parts h.iv).2.1
theorem Fit.le {r:Res} (h:Fit r):val r.lo≤val r.hi:=(ivR_parts h.iv).2.2
structure In (r s:Res):Prop where
 fit:Fit r
 lo:val s.lo≤val r.lo
 hi:val r.hi≤val s.hi
theorem In.refl {r:Res} (h:Fit r):In r r:=⟨h,Int.le_refl _,Int.le_refl _⟩
theorem ask_fit (a b:Res) (j:Nat) (hj:j < 10) (ha:Fit a) (hb:Fit b) (he:(askI a.lo a.hi b.lo b.hi j).e=0):Fit (askI a.lo a.hi b.lo b.hi j):=by
 obtain⟨n1,n2,n3,n4⟩:=ask_nums a.lo a.hi b.lo b.hi j (by omega) ha.lo ha.hi hb.lo hb.hi ha.iv hb.iv he
 have h:=ask_holds a.lo a.hi b.lo b.hi a.lo b.lo j (by omega) ha.lo ha.hi hb.lo hb.hi ha.lo hb.lo ha.iv hb.iv ha.rlo hb.rlo (Int.le_refl _) ha.le (Int.le_refl _) hb.le (by omega) he
 exact ⟨he,n1,n3,h.1⟩
theorem ask_in (a A b B:Res) (j:Nat) (hj:j < 10) (ha:In a A) (fA:Fit A) (hb:In b B) (fB:Fit B) (he:(askI A.lo A.hi B.lo B.hi j).e=0):In (askI a.lo a.hi b.lo b.hi j) (askI A.lo A.hi B.lo B.hi j):=by
 obtain⟨w1,w2,w3⟩:=ask_within A.lo A.hi B.lo B.hi a.lo a.hi b.lo b.hi j (by omega) fA.lo fA.hi fB.lo fB.hi ha.fit.lo ha.fit.hi hb.fit.lo hb.fit.hi fA.iv fB.iv ha.fit.iv hb.fit.iv ha.lo ha.hi hb.lo hb.hi (by omega) he
 exact ⟨ask_fit a b j hj ha.fit hb.fit w1,w2,w3⟩
def addR (a b:Res):Res:=addI a.lo a.hi b.lo b.hi
def subR (a b:Res):Res:=subI a.lo a.hi b.lo b.hi
def mulR (a b:Res):Res:=mulI a.lo a.hi b.lo b.hi
def divR (a b:Res):Res:=divI a.lo a.hi b.lo b.hi
def sqrR (a:Res):Res:=sqrI a.lo a.hi
def negR (a:Res):Res:=negI a.lo a.hi
theorem sub_in {a A b B:Res} (ha:In a A) (fA:Fit A) (hb:In b B) (fB:Fit B) (he:(subR A B).e=0):In (subR a b) (subR A B):=ask_in a A b B 1 (by decide) ha fA hb fB he
theorem mul_in {a A b B:Res} (ha:In a A) (fA:Fit A) (hb:In b B) (fB:Fit B) (he:(mulR A B).e=0):In (mulR a b) (mulR A B):=ask_in a A b B 2 (by decide) ha fA hb fB he
theorem div_in {a A b B:Res} (ha:In a A) (fA:Fit A) (hb:In b B) (fB:Fit B) (he:(divR A B).e=0):In (divR a b) (divR A B):=ask_in a A b B 3 (by decide) ha fA hb fB he
theorem sqr_in {a A:Res} (ha:In a A) (fA:Fit A) (he:(sqrR A).e=0):In (sqrR a) (sqrR A):=ask_in a A a A 6 (by decide) ha fA ha fA he
theorem neg_in {a A:Res} (ha:In a A) (fA:Fit A):In (negR a) (negR A):=ask_in a A a A 8 (by decide) ha fA ha fA rfl
def oneR (x:Nat):Res:=⟨0,x,x⟩
theorem one_fit {x:Nat} (lx:x < 18446744073709551616) (rx:rightB x=true):Fit (oneR x):=⟨rfl,lx,lx,ivR_one x rx⟩
def u1:Nat:=4607182418800017408
def m1:Nat:=13830554455654793216
theorem u1_fit:Fit (oneR u1):=one_fit (by decide) (by decide)
theorem m1_fit:Fit (oneR m1):=one_fit (by decide) (by decide)
def nW (k:Nat):Nat:=floatOfInt .f64 ((k:Int)*((k:Int)+1))
def termR (y:Res) (k:Nat):Res:=divR y (oneR (nW k))
def serStart (y:Res) (m:Nat):Res:=⟨0,(subR (oneR u1) (termR y m)).lo,u1⟩
def serStep (y:Res) (k:Nat) (r:Res):Res:=subR (oneR u1) (mulR (termR y k) r)
def serN (y:Res) (m:Nat):Nat→Res
 | 0=>serStart y m
 | i+1=>serStep y (m - 2 - 2*i) (serN y m i)
def serR (y:Res) (m:Nat):Res:=serN y m 9
def quartW:Nat→Nat
 | 0=>0 | 1=>4598175219545276416 | 2=>4602678819172646912 | 3=>4604930618986332160 | _=>4607182418800017408
def piR:Res:=⟨0,4614256656552045848,4614256656552045849⟩
def beyondR (x j:Nat):Res:=subR (oneR x) (oneR (quartW j))
def angleR (x j:Nat):Res:=mulR (addR piR piR) (beyondR x j)
def sinS (t:Res):Res:=mulR t (serR (sqrR t) 20)
def cosS (t:Res):Res:=serR (sqrR t) 19
def bigB:Res:=⟨0,4593671619917905920+9223372036854775808,4593671619917905920⟩
def bigT:Res:=mulR (addR piR piR) bigB
def bigY:Res:=sqrR bigT
theorem big_fit:Fit piR∧Fit (addR piR piR)∧Fit bigB∧Fit bigT∧Fit bigY:=⟨.of (by decide +kernel),.of (by decide +kernel),.of (by decide +kernel),.of (by decide +kernel),.of (by decide +kernel)⟩
def bigOk (m i:Nat):Bool:=
 fitB (oneR (nW (m - 2 - 2*i)))&&fitB (termR bigY (m - 2 - 2*i))&&fitB (serN bigY m i)&&fitB (mulR (termR bigY (m - 2 - 2*i)) (serN bigY m i))&&fitB (serN bigY m (i+1))
def bigOk0 (m:Nat):Bool:=fitB (oneR (nW m))&&fitB (termR bigY m)&&fitB (subR (oneR u1) (termR bigY m))&&decide ((subR (oneR u1) (termR bigY m)).hi=u1)
theorem big_ok:∀ i,i < 9→bigOk 19 i=true∧bigOk 20 i=true:=by decide +kernel
theorem big_ok0:bigOk0 19=true∧bigOk0 20=true:=by decide +kernel
theorem big_parts {m i:Nat} (h:bigOk m i=true):Fit (oneR (nW (m - 2 - 2*i)))∧Fit (termR bigY (m - 2 - 2*i))∧Fit (serN bigY m i)∧Fit (mulR (termR bigY (m - 2 - 2*i)) (serN bigY m i))∧Fit (serN bigY m (i+1)):=by
 unfold bigOk at h
 simp only [Bool.and_eq_true] at h
 exact ⟨.of h.1.1.1.1,.of h.1.1.1.2,.of h.1.1.2,.of h.1.2,.of h.2⟩
theorem term_in {y:Res} {k:Nat} (hy:In y bigY) (fk:Fit (oneR (nW k))) (ft:Fit (termR bigY k)):In (termR y k) (termR bigY k):=
 div_in hy big_fit.2.2.2.2 (.refl fk) fk ft.e
theorem start_in {y:Res} {m:Nat} (hm:bigOk0 m=true) (hy:In y bigY):In (serStart y m) (serStart bigY m)∧In (termR y m) (termR bigY m)∧In (subR (oneR u1) (termR y m)) (subR (oneR u1) (termR bigY m)):=by
 unfold bigOk0 at hm
 simp only [Bool.and_eq_true,decide_eq_true_eq] at hm
 obtain⟨⟨⟨a,b⟩,c⟩,d⟩:=hm
 have t:=term_in hy (.of a) (.of b)
 have s:=sub_in (.refl u1_fit) u1_fit t (.of b) (Fit.of c).e
 refine ⟨⟨⟨rfl,s.fit.lo,(by show u1 < 18446744073709551616; decide),?_⟩,s.lo,?_⟩,t,s⟩
 rotate_left
 · show val u1≤val u1
   exact Int.le_refl _
 have h1:=s.fit.le
 have h2:=s.hi
 rw [d] at h2
 show ivR (subR (oneR u1) (termR y m)).lo u1=true
 have r1:rightB u1=true:=by decide
 unfold ivR leB
 rw [s.fit.rlo,r1,decide_eq_true (Int.le_trans h1 h2)]; rfl
theorem ser_in {y:Res} {m:Nat} (h0:bigOk0 m=true) (hm:∀ i,i < 9→bigOk m i=true) (hy:In y bigY):∀ i,i≤9→In (serN y m i) (serN bigY m i)
 | 0,_=>(start_in h0 hy).1
 | i+1,hi=>by
   obtain⟨f1,f2,f3,f4,f5⟩:=big_parts (hm i (by omega))
   have ih:=ser_in h0 hm hy i (by omega)
   exact sub_in (.refl u1_fit) u1_fit (mul_in (term_in hy f1 f2) f2 ih f3 f4.e) f4 f5.e
theorem serRound_in {y:Res} {m:Nat} (h0:bigOk0 m=true) (hm:∀ i,i < 9→bigOk m i=true) (hy:In y bigY) (i:Nat) (hi:i < 9) :
   Fit (termR y (m - 2 - 2*i))∧Fit (mulR (termR y (m - 2 - 2*i)) (serN y m i))∧Fit (serN y m i)∧Fit (serN y m (i+1)):=by
 obtain⟨f1,f2,f3,f4,f5⟩:=big_parts (hm i hi)
 have ih:=ser_in h0 hm hy i (by omega)
 exact ⟨(term_in hy f1 f2).fit,(mul_in (term_in hy f1 f2) f2 ih f3 f4.e).fit,ih.fit,(ser_in h0 hm hy (i+1) (by omega)).fit⟩
theorem ok19:bigOk0 19=true∧∀ i,i < 9→bigOk 19 i=true:=⟨big_ok0.1,fun i hi=>(big_ok i hi).1⟩
theorem ok20:bigOk0 20=true∧∀ i,i < 9→bigOk 20 i=true:=⟨big_ok0.2,fun i hi=>(big_ok i hi).2⟩
structure Turn (x:Nat):Prop where
 lt:x < 18446744073709551616
 right:rightB x=true
 lo:0≤val x
 hi:val x≤val u1
def qEnds:Nat→Res
 | 0=>⟨0,0,4593671619917905920⟩ | 1=>⟨0,4593671619917905920,4600427019358961664⟩ | 2=>⟨0,4600427019358961664,4603804719079489536⟩ | 3=>⟨0,4603804719079489536,4606056518893174784⟩ | _=>⟨0,4606056518893174784,4607182418800017408⟩
theorem ends_ok4:∀ j,j≤4→(fitB (qEnds j)&&fitB (oneR (quartW j))&&fitB (subR (qEnds j) (oneR (quartW j)))&&leB bigB.lo (subR (qEnds j) (oneR (quartW j))).lo&&leB (subR (qEnds j) (oneR (quartW j))).hi bigB.hi)=true:=by decide +kernel
theorem turn_in {x:Nat} (h:Turn x):In (oneR x) (qEnds (qN x)):=by
 have e0:val (qEnds 0).lo=0:=by decide
 have e1:(qEnds 0).hi=eighth 0∧(qEnds 1).lo=eighth 0∧(qEnds 1).hi=eighth 1∧(qEnds 2).lo=eighth 1∧(qEnds 2).hi=eighth 2∧(qEnds 3).lo=eighth 2∧(qEnds 3).hi=eighth 3∧(qEnds 4).lo=eighth 3∧(qEnds 4).hi=u1:=⟨rfl,rfl,rfl,rfl,rfl,rfl,rfl,rfl,rfl⟩
 obtain⟨a1,a2,a3,a4,a5,a6,a7,a8,a9⟩:=e1
 have hl:=h.lo
 have hh:=h.hi
 refine ⟨one_fit h.lt h.right,?_,?_⟩
 · show val (qEnds (qN x)).lo≤val x
   unfold qN
   split
   · rw [e0]; exact hl
   · split
     · rw [a2]; omega
     · split
       · rw [a4]; omega
       · split
         · rw [a6]; omega
         · rw [a8]; omega
 · show val x≤val (qEnds (qN x)).hi
   unfold qN
   split
   · rw [a1]; omega
   · split
     · rw [a3]; omega
     · split
       · rw [a5]; omega
       · split
         · rw [a7]; omega
         · rw [a9]; exact hh
theorem beyond_in {x:Nat} (h:Turn x):In (beyondR x (qN x)) bigB:=by
 have k:=ends_ok4 (qN x) (qN_le x)
 simp only [Bool.and_eq_true] at k
 obtain⟨⟨⟨⟨k1,k2⟩,k3⟩,k4⟩,k5⟩:=k
 have s:=sub_in (turn_in h) (.of k1) (.refl (.of k2)) (.of k2) (Fit.of k3).e
 unfold leB at k4 k5
 exact ⟨s.fit,Int.le_trans (of_decide_eq_true k4) s.lo,Int.le_trans s.hi (of_decide_eq_true k5)⟩
theorem angle_in {x:Nat} (h:Turn x):In (angleR x (qN x)) bigT:=mul_in (.refl big_fit.2.1) big_fit.2.1 (beyond_in h) big_fit.2.2.1 big_fit.2.2.2.1.e
theorem square_in {x:Nat} (h:Turn x):In (sqrR (angleR x (qN x))) bigY:=sqr_in (angle_in h) big_fit.2.2.2.1 big_fit.2.2.2.2.e
theorem bigS_fit:Fit (sinS bigT):=.of (by decide +kernel)
theorem bigS20:Fit (serR bigY 20):=.of (by decide +kernel)
theorem sinS_in {x:Nat} (h:Turn x):In (sinS (angleR x (qN x))) (sinS bigT):=mul_in (angle_in h) big_fit.2.2.2.1 (ser_in ok20.1 ok20.2 (square_in h) 9 (by decide)) bigS20 bigS_fit.e
theorem cosS_in {x:Nat} (h:Turn x):In (cosS (angleR x (qN x))) (cosS bigT):=ser_in ok19.1 ok19.2 (square_in h) 9 (by decide)
def boundR (r:Res):Res:=boundI r.lo r.hi
theorem bound_facts {r:Res} (h:Fit r):Fit (boundR r)∧val m1≤val (boundR r).lo∧val (boundR r).hi≤val u1:=by
 obtain⟨x1,x2,x3⟩:=max_facts r.lo m1 h.lo (by decide) h.rlo (by decide)
 obtain⟨y1,y2,y3⟩:=min_facts r.hi u1 h.hi (by decide) h.rhi (by decide)
 have v1:val m1≤0:=by decide +kernel
 have v2:0≤val u1:=by decide +kernel
 have v0:val 0=0:=by decide
 have e1:(boundR r).lo=if bothB r.lo r.hi m1 u1 then maxW r.lo m1 else 0:=rfl
 have e2:(boundR r).hi=if bothB r.lo r.hi m1 u1 then minW r.hi u1 else 0:=rfl
 cases hb:bothB r.lo r.hi m1 u1
 · rw [hb,if_neg Bool.false_ne_true] at e1 e2
   refine ⟨⟨rfl,by rw [e1]; decide,by rw [e2]; decide,by rw [e1,e2]; decide⟩,by rw [e1,v0]; exact v1,by rw [e2,v0]; exact v2⟩
 · rw [hb,if_pos rfl] at e1 e2
   have hb':leB (maxW r.lo m1) (minW r.hi u1)=true:=hb
   refine ⟨⟨rfl,by rw [e1]; exact x1,by rw [e2]; exact y1,?_⟩,by rw [e1,x3]; omega,by rw [e2,y3]; omega⟩
   rw [e1,e2]
   unfold ivR
   rw [x2,y2,hb']; rfl
def sinT (s c:Res):Nat→Res
 | 1=>c | 2=>negR s | 3=>negR c | _=>s
def cosT (s c:Res):Nat→Res
 | 1=>negR s | 2=>negR c | 3=>s | _=>c
def sinR (x:Nat):Res:=boundR (sinT (sinS (angleR x (qN x))) (cosS (angleR x (qN x))) (qN x))
def cosR (x:Nat):Res:=boundR (cosT (sinS (angleR x (qN x))) (cosS (angleR x (qN x))) (qN x))
theorem neg_fit {r:Res} (h:Fit r):Fit (negR r):=(neg_in (.refl h) h).fit
theorem sinT_fit {s c:Res} (hs:Fit s) (hc:Fit c):∀ j,Fit (sinT s c j)
 | 0=>hs | 1=>hc | 2=>neg_fit hs | 3=>neg_fit hc | _+4=>hs
theorem cosT_fit {s c:Res} (hs:Fit s) (hc:Fit c):∀ j,Fit (cosT s c j)
 | 0=>hc | 1=>neg_fit hs | 2=>neg_fit hc | 3=>hs | _+4=>hc
theorem sinR_facts {x:Nat} (h:Turn x):Fit (sinR x)∧val m1≤val (sinR x).lo∧val (sinR x).hi≤val u1:=bound_facts (sinT_fit (sinS_in h).fit (cosS_in h).fit _)
theorem cosR_facts {x:Nat} (h:Turn x):Fit (cosR x)∧val m1≤val (cosR x).lo∧val (cosR x).hi≤val u1:=bound_facts (cosT_fit (sinS_in h).fit (cosS_in h).fit _)
def hullR (a b:Res):Res:=⟨0,minW a.lo b.lo,maxW a.hi b.hi⟩
theorem hull_fit {a b:Res} (ha:Fit a) (hb:Fit b):Fit (hullR a b):=by
 obtain⟨x1,x2,x3⟩:=min_facts a.lo b.lo ha.lo hb.lo ha.rlo hb.rlo
 obtain⟨y1,y2,y3⟩:=max_facts a.hi b.hi ha.hi hb.hi ha.rhi hb.rhi
 have h1:=ha.le
 refine ⟨rfl,x1,y1,?_⟩
 show ivR (minW a.lo b.lo) (maxW a.hi b.hi)=true
 unfold ivR leB
 rw [x2,y2,decide_eq_true (by omega)]; rfl
def sin2 (al ah:Nat):Res:=hullR (sinR al) (sinR ah)
def sin3 (al ah:Nat):Res:=if hasB al ah 4598175219545276416 then hullR (sin2 al ah) (oneR u1) else sin2 al ah
def sinU (al ah:Nat):Res:=if hasB al ah 4604930618986332160 then hullR (sin3 al ah) (oneR m1) else sin3 al ah
def cos2 (al ah:Nat):Res:=hullR (cosR al) (cosR ah)
def cosU (al ah:Nat):Res:=if hasB al ah 4602678819172646912 then hullR (cos2 al ah) (oneR m1) else cos2 al ah
end
section
open Go.RowKit
attribute [local go_sem] run_store_float
structure Env (B:World) (pb:Nat) (l:List (Nat×Array Value)) (v:World):Prop where
 put:Put ⟨pb,0,none⟩ (.int .i64 0) B v
 cal:Has1 v (pb,#[true])
 blocks:∀ p,p∈l→Has1 v p∧pb≠p.1
section
variable {B v v':World} {pb:Nat} {l:List (Nat×Array Value)}
theorem Env.start (h:Has1 B (pb,#[true])):Env B pb [] B:=⟨Put.of_below h.pc (Below.refl _ _),h,fun p hp=>by cases hp⟩
theorem Env.add (h:Env B pb l v) {p:Nat×Array Value} (hp:Has1 v p) (hn:pb≠p.1):Env B pb (p :: l) v:=
 ⟨h.put,h.cal,fun q hq=>by
   rcases List.mem_cons.1 hq with e | e
   · rw [e]; exact ⟨hp,hn⟩
   · exact h.blocks q e⟩
theorem Env.below (h:Env B pb l v) (hb:Below v.heap.size v v'):Env B pb l v':=⟨h.put.below hb,h.cal.below hb,fun p hp=>⟨(h.blocks p hp).1.below hb,(h.blocks p hp).2⟩⟩
theorem Env.putc (h:Env B pb l v) (hp:Put ⟨pb,0,none⟩ (.int .i64 0) v v'):Env B pb l v':=⟨h.put.trans hp,h.cal.own hp,fun p hq=>⟨(h.blocks p hq).1.put (h.blocks p hq).2 hp,(h.blocks p hq).2⟩⟩
theorem Env.drew (h:Env B pb l v):Env B pb l v.drew:=⟨h.put.below (Below.refl _ _).drew,h.cal,h.blocks⟩
theorem Env.made (h:Env B pb l v) (c:Array Value) (t:TypeId):Env B pb ((v.heap.size,c) :: l) (v.alloc (.cells c t)):=
 (h.below (bel1 _ _)).add (Has1.made v c t) (Nat.ne_of_lt h.cal.1)
theorem Env.sub (h:Env B pb l v) {k:List (Nat×Array Value)} (hk:∀ p,p∈k→p∈l):Env B pb k v:=⟨h.put,h.cal,fun p hp=>h.blocks p (hk p hp)⟩
theorem Env.nth (h:Env B pb l v) (i:Nat) {p:Nat×Array Value} (hp:l[i]? = some p):Has1 v p:=(h.blocks p (List.mem_of_getElem? hp)).1
theorem Env.ne (h:Env B pb l v) (i:Nat) {p:Nat×Array Value} (hp:l[i]? = some p):pb≠p.1:=(h.blocks p (List.mem_of_getElem? hp)).2
theorem Env.set2 (h:Env B pb l v) {q:Nat} {x y:Value} (hx:Has1 v (q,#[x,y])) (hn:pb≠q) (hB:B.heap.size≤q) (x' y':Value) (k:List (Nat×Array Value)) (hk:∀ p,p∈k→p=(q,#[x',y'])∨p∈l∧q≠p.1):Env B pb k ((v.setCell ⟨q,0,none⟩ x').setCell ⟨q,1,none⟩ y') where
 put:=by
   have hb:Below B.heap.size (B.setCell ⟨pb,0,none⟩ (.int .i64 0)) v:=h.put
   exact (hb.setCell hB _).setCell hB _
 cal:=(h.cal.set (Ne.symm hn)).set (Ne.symm hn)
 blocks:=fun p hp=>by
   rcases hk p hp with e | ⟨e,e'⟩
   · rw [e]; exact ⟨hx.set2 _ _,hn⟩
   · exact ⟨((h.blocks p e).1.set e').set e',(h.blocks p e).2⟩
end
abbrev Calc2 (f:FuncId) (pb al ah bl bh rl rh:Nat):Prop:=∀ v:World,Has1 v (pb,#[true])→Calls Tryz.prog f #[.pointer (some ⟨pb,0,none⟩),.agg #[al,ah],.agg #[bl,bh]] v fun r w'=>r = .returned (.agg #[rl,rh])∧Put ⟨pb,0,none⟩ (.int .i64 0) v w'
abbrev Calc1 (f:FuncId) (pb al ah rl rh:Nat):Prop:=∀ v:World,Has1 v (pb,#[true])→Calls Tryz.prog f #[.pointer (some ⟨pb,0,none⟩),.agg #[al,ah]] v fun r w'=>r = .returned (.agg #[rl,rh])∧Put ⟨pb,0,none⟩ (.int .i64 0) v w'
abbrev CalcN (pb x:Nat):Prop:=∀ v:World,Has1 v (pb,#[true])→Calls Tryz.prog 35 #[.pointer (some ⟨pb,0,none⟩),x] v fun r w'=>r = .returned (.agg #[x,x])∧Put ⟨pb,0,none⟩ (.int .i64 0) v w'
theorem told_none {R:Res} {pb:Nat} {w:World} {f:FuncId} {args:Array Value} (he:R.e=0) (h:Calls Tryz.prog f args w (Told R pb 0 w)) :
   Calls Tryz.prog f args w fun r w'=>r = .returned (.agg #[R.lo,R.hi])∧Put ⟨pb,0,none⟩ (.int .i64 0) w w':=by
 refine h.mono fun r w' ⟨h1,h2⟩=>⟨h1,?_⟩
 rw [he] at h2
 exact h2
theorem step_two {a b:Res} (fa:Fit a) (fb:Fit b) (r:Res):stepI 0 (ivR a.lo a.hi&&ivR b.lo b.hi) r=r:=by
 rw [fa.iv,fb.iv]; rfl
theorem step_one {a:Res} (fa:Fit a) (r:Res):stepI 0 (ivR a.lo a.hi) r=r:=by
 rw [fa.iv]; rfl
theorem calc_num {x:Nat} (f:Fit (oneR x)) (pb:Nat):CalcN pb x:=fun v h=>by
 have c:=cNum_any 0 x pb 0 v f.lo h.pc h.pf
 have e:stepI 0 true (ofI x)=⟨0,x,x⟩:=by
   unfold stepI ofI
   rw [if_pos rfl,if_pos rfl,if_pos (show rightB x=true from f.rlo)]
 rw [e] at c
 exact told_none rfl c
theorem calc_add {a b:Res} (fa:Fit a) (fb:Fit b) (fr:Fit (addR a b)) (pb:Nat):Calc2 103 pb a.lo a.hi b.lo b.hi (addR a b).lo (addR a b).hi:=fun v h=>by
 have c:=cAdd_any 0 a.lo a.hi b.lo b.hi pb 0 v fa.lo fa.hi fb.lo fb.hi h.pc h.pf
 rw [step_two fa fb] at c
 exact told_none fr.e c
theorem calc_sub {a b:Res} (fa:Fit a) (fb:Fit b) (fr:Fit (subR a b)) (pb:Nat):Calc2 34 pb a.lo a.hi b.lo b.hi (subR a b).lo (subR a b).hi:=fun v h=>by
 have c:=cSub_any 0 a.lo a.hi b.lo b.hi pb 0 v fa.lo fa.hi fb.lo fb.hi h.pc h.pf
 rw [step_two fa fb] at c
 exact told_none fr.e c
theorem calc_mul {a b:Res} (fa:Fit a) (fb:Fit b) (fr:Fit (mulR a b)) (pb:Nat):Calc2 32 pb a.lo a.hi b.lo b.hi (mulR a b).lo (mulR a b).hi:=fun v h=>by
 have c:=cMul_any 0 a.lo a.hi b.lo b.hi pb 0 v fa.lo fa.hi fb.lo fb.hi h.pc h.pf
 rw [step_two fa fb] at c
 exact told_none fr.e c
theorem calc_div {a b:Res} (fa:Fit a) (fb:Fit b) (fr:Fit (divR a b)) (pb:Nat):Calc2 60 pb a.lo a.hi b.lo b.hi (divR a b).lo (divR a b).hi:=fun v h=>by
 have c:=cDiv_any 0 a.lo a.hi b.lo b.hi pb 0 v fa.lo fa.hi fb.lo fb.hi h.pc h.pf
 rw [step_two fa fb] at c
 exact told_none fr.e c
theorem calc_sqr {a:Res} (fa:Fit a) (fr:Fit (sqrR a)) (pb:Nat):Calc1 104 pb a.lo a.hi (sqrR a).lo (sqrR a).hi:=fun v h=>by
 have c:=cSqr_any 0 a.lo a.hi pb 0 v fa.lo fa.hi h.pc h.pf
 rw [step_one fa] at c
 exact told_none fr.e c
theorem calc_neg {a:Res} (fa:Fit a) (pb:Nat):Calc1 113 pb a.lo a.hi (negR a).lo (negR a).hi:=fun v h=>by
 have c:=cNeg_any 0 a.lo a.hi pb 0 v fa.lo fa.hi h.pc h.pf
 rw [step_one fa] at c
 exact told_none rfl c
theorem term_walk (k yl yh rl rh pb cp yp:Nat) (w:World) (hk:k≤20) (hC:Has1 w (pb,#[true])) (hP:Has1 w (cp,#[.pointer (some ⟨pb,0,none⟩)])) (hY:Has1 w (yp,#[yl,yh])) (n1:pb≠cp) (n2:pb≠yp)
   (cN:Hid (CalcN pb (floatOfInt .f64 ((k:Int)*((k:Int)+1))))) (cD:Hid (Calc2 60 pb yl yh (floatOfInt .f64 ((k:Int)*((k:Int)+1))) (floatOfInt .f64 ((k:Int)*((k:Int)+1))) rl rh)) :
   Calls Tryz.prog 163 #[.int .i64 k,.pointer (some ⟨cp,0,none⟩),.pointer (some ⟨yp,0,none⟩)] w fun r w'=>r = .returned (.agg #[rl,rh])∧Put ⟨pb,0,none⟩ (.int .i64 0) w w':=by
 have E:=Lib.hid ((((Env.start hC).add hY n2).add hP n1).made #[(),()] 31)
 have z1:(0:Int)≤k:=by omega
 have z2:(k:Int)≤20:=by omega
 have z3:(k:Int)*((k:Int)+1)≤420:=by
   have:(k:Int)*((k:Int)+1)≤20*21:=Int.mul_le_mul z2 (by omega) (by omega) (by omega)
   omega
 have z4:0≤(k:Int)*((k:Int)+1):=Int.mul_nonneg z1 (by omega)
 have a3:IntKind.i64.wrap ((k:Int)+1)=(k:Int)+1:=IntWalk.i64_in _ ⟨by omega,by omega⟩
 have a4:IntKind.i64.wrap ((k:Int)*((k:Int)+1))=(k:Int)*((k:Int)+1):=IntWalk.i64_in _ ⟨by omega,by omega⟩
 have a1:wrap64 ((k:Int)+1)=(k:Int)+1:=wrap64_in _ (by omega) (by omega)
 have a2:wrap64 ((k:Int)*((k:Int)+1))=(k:Int)*((k:Int)+1):=wrap64_in _ (by omega) (by omega)
 have o1:w.heap.size≠cp:=Nat.ne_of_gt hP.1
 have o2:w.heap.size≠yp:=Nat.ne_of_gt hY.1
 clear hC hP hY n1 n2 z3 hk
 go_enter Tryz.func163,Tryz.ntmps163
 go_upto_region 1 with fail
 have k1:=(E.out.drew.nth 1 rfl).pc
 obtain⟨k2,k3⟩:=(E.out.drew.nth 2 rfl).two
 go_region_held3 (fun w'=>w'.cell? ⟨cp,0,none⟩=some (.pointer (some ⟨pb,0,none⟩))∧w'.cell? ⟨yp,0,none⟩=some (.float .f64 yl)∧w'.cell? ⟨yp,1,none⟩=some (.float .f64 yh)) (((try dsimp only); (repeat' apply And.intro); all_goals (repeat (first | (with_reducible assumption) | ((with_reducible refine keep_undrew ?_); (with_reducible assumption)) | (with_reducible refine keep_drew ?_) | (with_reducible refine keep_alloc _ ?_) | (with_reducible refine keep_set _ (by first | (with_reducible assumption) | omega) ?_)))))
   (first
     | (go_at_call 35; (with_reducible refine (cN.out _ E.out.drew.cal).mono ?_); rintro rr w5 ⟨rfl,hp⟩; have E':=Lib.hid (E.out.drew.putc hp); clear E hp k1 k2 k3; have E:=E'; clear E'; have k1:=(E.out.nth 1 rfl).pc; obtain⟨k2,k3⟩:=(E.out.nth 2 rfl).two)
     | (go_at_call 60; (with_reducible refine (cD.out _ E.out.cal).mono ?_); rintro rr w5 ⟨rfl,hp⟩; have E':=Lib.hid (E.out.putc hp); clear E hp k1 k2 k3; have E:=E'; clear E'; have k1:=(E.out.nth 1 rfl).pc; obtain⟨k2,k3⟩:=(E.out.nth 2 rfl).two; have k4:=(E.out.nth 0 rfl).2.1; have k5:=(E.out.nth 0 rfl).2.2))
 have F:=Lib.hid (E.out.set2 (E.out.nth 0 rfl) (E.out.ne 0 rfl) (Nat.le_refl _) (.float .f64 rl) (.float .f64 rh) [(w.heap.size,#[rl,rh])] (by simp))
 go_wp2
 have f1:=(F.out.nth 0 rfl).2.1
 exact bodyPost_ret (v:=.agg #[.float .f64 rl,.float .f64 rh]) (by simp [results,Tryz.results163,go_sem,f1]) rfl ⟨rfl,F.out.put⟩
end
section
open Go.RowKit
attribute [local go_sem] run_store_float
theorem run_quarter (j:Nat) (hj:j≤4):floatBits .quo .f64 (floatOfInt .f64 (j:Int)) 4616189618054758400=some (quartW j):=by
 rcases (show j=0∨j=1∨j=2∨j=3∨j=4 by omega) with rfl | rfl | rfl | rfl | rfl <;> decide +kernel
theorem angle_walk (x j q bl bh pl ph rl rh pb:Nat) (w:World) (hC:Has1 w (pb,#[true])) (hq:∀ w,(binOp .quo 25 (.float .f64 (floatOfInt .f64 (j:Int))) (.float .f64 4616189618054758400)).run Tryz.prog w = .ok (.float .f64 q) w)
   (cX:Hid (CalcN pb x)) (cQ:Hid (CalcN pb q)) (cS:Hid (Calc2 34 pb x x q q bl bh))
   (cA:Hid (Calc2 103 pb 4614256656552045848 4614256656552045849 4614256656552045848 4614256656552045849 pl ph)) (cM:Hid (Calc2 32 pb pl ph bl bh rl rh)) :
   Calls Tryz.prog 109 #[.pointer (some ⟨pb,0,none⟩),x,.int .i64 j] w fun r w'=>r = .returned (.agg #[rl,rh])∧Put ⟨pb,0,none⟩ (.int .i64 0) w w':=by
 have E:=Lib.hid ((Env.start hC).made #[(),()] 31)
 clear hC
 go_enter Tryz.func109,Tryz.ntmps109
 go_wp2_with fail
 refine (cX.out _ E.out.cal).mono ?_
 rintro r w1 ⟨rfl,hp⟩
 replace E:=Lib.hid (E.out.putc hp)
 clear hp
 go_wp2_with fail
 refine (cQ.out _ E.out.cal).mono ?_
 rintro r w2 ⟨rfl,hp⟩
 replace E:=Lib.hid (E.out.putc hp)
 clear hp
 go_wp2_with fail
 refine (cS.out _ E.out.cal).mono ?_
 rintro r w3 ⟨rfl,hp⟩
 have z3:w.heap.size≠w3.heap.size:=Nat.ne_of_lt ((E.out.putc hp).nth 0 rfl).1
 replace E:=Lib.hid ((E.out.putc hp).made #[bl,bh] 31)
 clear hp
 go_upto_region 2 with fail
 obtain⟨k2,k3⟩:=(E.out.drew.nth 0 rfl).two
 go_region_held3 (fun w'=>w'.cell? ⟨w3.heap.size,0,none⟩=some (.float .f64 bl)∧w'.cell? ⟨w3.heap.size,1,none⟩=some (.float .f64 bh)) (((try dsimp only); (repeat' apply And.intro); all_goals (repeat (first | (with_reducible assumption) | ((with_reducible refine keep_undrew ?_); (with_reducible assumption)) | (with_reducible refine keep_drew ?_) | (with_reducible refine keep_alloc _ ?_) | (with_reducible refine keep_set _ (by first | (with_reducible assumption) | omega) ?_)))))
   (first
     | (go_at_call 162; (with_reducible refine (pi_any _).mono ?_); rintro rr w5 ⟨rfl,hb⟩; (first | (with_reducible have E':=Lib.hid (E.out.below hb)) | (with_reducible have E':=Lib.hid (E.out.drew.below hb))); clear E hb k2 k3; have E:=E'; clear E'; obtain⟨k2,k3⟩:=(E.out.nth 0 rfl).two)
     | (go_at_call 103; (with_reducible refine (cA.out _ E.out.cal).mono ?_); rintro rr w5 ⟨rfl,hp⟩; have E':=Lib.hid (E.out.putc hp); clear E hp k2 k3; have E:=E'; clear E'; obtain⟨k2,k3⟩:=(E.out.nth 0 rfl).two)
     | (go_at_call 32; (with_reducible refine (cM.out _ E.out.cal).mono ?_); rintro rr w5 ⟨rfl,hp⟩; have E':=Lib.hid (E.out.putc hp); clear E hp k2 k3; have E:=E'; clear E'; obtain⟨k2,k3⟩:=(E.out.nth 0 rfl).two; have k4:=(E.out.nth 1 rfl).2.1; have k5:=(E.out.nth 1 rfl).2.2))
 have F:=Lib.hid (E.out.set2 (E.out.nth 1 rfl) (E.out.ne 1 rfl) (Nat.le_refl _) (.float .f64 rl) (.float .f64 rh) [(w.heap.size,#[rl,rh])] (by simp))
 go_wp2
 have f1:=(F.out.nth 0 rfl).2.1
 exact bodyPost_ret (v:=.agg #[.float .f64 rl,.float .f64 rh]) (by simp [results,Tryz.results109,go_sem,f1]) rfl ⟨rfl,F.out.put⟩
theorem angle_any {x:Nat} (h:Turn x) (pb:Nat) (w:World) (hC:Has1 w (pb,#[true])) :
   Calls Tryz.prog 109 #[.pointer (some ⟨pb,0,none⟩),x,.int .i64 (qN x)] w fun r w'=>r = .returned (.agg #[.float .f64 (angleR x (qN x)).lo,.float .f64 (angleR x (qN x)).hi])∧Put ⟨pb,0,none⟩ (.int .i64 0) w w':=by
 have hx:=one_fit h.lt h.right
 have hq:Fit (oneR (quartW (qN x))):=by
   have k:=ends_ok4 (qN x) (qN_le x)
   simp only [Bool.and_eq_true] at k
   exact .of k.1.1.1.2
 have hb:=(beyond_in h).fit
 exact angle_walk x (qN x) (quartW (qN x)) _ _ _ _ _ _ pb w hC (fun w=>run_float_arith (P:=Tryz.prog) (w:=w) .quo _ .f64 _ _ _ (run_quarter (qN x) (qN_le x)))
   (Lib.hid (calc_num hx pb)) (Lib.hid (calc_num hq pb)) (Lib.hid (calc_sub hx hq hb pb)) (Lib.hid (calc_add big_fit.1 big_fit.1 big_fit.2.1 pb)) (Lib.hid (calc_mul big_fit.2.1 hb (angle_in h).fit pb))
end
section
open Go.RowKit
attribute [local go_sem] run_store_float
theorem lit1 (sl sh kl kh pb cp sp kp:Nat) (w:World) (hC:Has1 w (pb,#[true])) (hP:Has1 w (cp,#[.pointer (some ⟨pb,0,none⟩)])) (hS:Has1 w (sp,#[sl,sh])) (hK:Has1 w (kp,#[kl,kh])) (_n1:pb≠cp) (_n2:pb≠sp) (_n3:pb≠kp)  :
   Calls Tryz.prog 111 #[.pointer (some ⟨sp,0,none⟩),.pointer (some ⟨kp,0,none⟩)] w fun r w'=>r = .returned (.tuple #[.agg #[sl,sh],.agg #[kl,kh]])∧Put ⟨pb,0,none⟩ (.int .i64 0) w w':=by
 have o1:w.heap.size≠cp:=Nat.ne_of_gt hP.1
 have o2:w.heap.size≠sp:=Nat.ne_of_gt hS.1
 have o3:w.heap.size≠kp:=Nat.ne_of_gt hK.1
 have o4:w.heap.size+1≠cp:=by have:cp < w.heap.size:=hP.1; omega
 have o5:w.heap.size+1≠sp:=by have:sp < w.heap.size:=hS.1; omega
 have o6:w.heap.size+1≠kp:=by have:kp < w.heap.size:=hK.1; omega
 have k1:=hP.pc
 obtain⟨k2,k3⟩:=hS.two
 obtain⟨k4,k5⟩:=hK.two
 have P:=Lib.hid (Put.of_below hC.pc (Below.refl w.heap.size w))
 clear hC hP hS hK
 go_enter Tryz.func111,Tryz.ntmps111
 go_upto_region 1 with fail
 go_region_held3 (fun w'=>w'.cell? ⟨cp,0,none⟩=some (.pointer (some ⟨pb,0,none⟩))∧w'.cell? ⟨sp,0,none⟩=some (.float .f64 sl)∧w'.cell? ⟨sp,1,none⟩=some (.float .f64 sh)∧w'.cell? ⟨kp,0,none⟩=some (.float .f64 kl)∧w'.cell? ⟨kp,1,none⟩=some (.float .f64 kh)) (((try dsimp only); (repeat' apply And.intro); all_goals (repeat (first | (with_reducible assumption) | ((with_reducible refine keep_undrew ?_); (with_reducible assumption)) | (with_reducible refine keep_drew ?_) | (with_reducible refine keep_alloc _ ?_) | (with_reducible refine keep_set _ (by first | (with_reducible assumption) | omega) ?_)))))
   (fail)
 go_wp2
 have M:=Lib.hid (Mem.two w #[sl,sh] #[kl,kh] 31 31)
 have f1:=(M.out.drew.nth 0 rfl).2.1
 have g1:=(M.out.drew.nth 1 rfl).2.1
 exact bodyPost_ret (v:=.tuple #[.agg #[.float .f64 sl,.float .f64 sh],.agg #[.float .f64 kl,.float .f64 kh]]) (by simp [results,Tryz.results111,go_sem,f1,g1]) rfl ⟨rfl,P.out.below M.out.drew.base⟩
theorem lit2 (sl sh kl kh xl xh pb cp sp kp:Nat) (w:World) (hC:Has1 w (pb,#[true])) (hP:Has1 w (cp,#[.pointer (some ⟨pb,0,none⟩)])) (hS:Has1 w (sp,#[sl,sh])) (hK:Has1 w (kp,#[kl,kh])) (n1:pb≠cp) (n2:pb≠sp) (n3:pb≠kp) (c1:Hid (Calc1 113 pb sl sh xl xh)) :
   Calls Tryz.prog 112 #[.pointer (some ⟨kp,0,none⟩),.pointer (some ⟨cp,0,none⟩),.pointer (some ⟨sp,0,none⟩)] w fun r w'=>r = .returned (.tuple #[.agg #[kl,kh],.agg #[xl,xh]])∧Put ⟨pb,0,none⟩ (.int .i64 0) w w':=by
 have o1:w.heap.size≠cp:=Nat.ne_of_gt hP.1
 have o2:w.heap.size≠sp:=Nat.ne_of_gt hS.1
 have o3:w.heap.size≠kp:=Nat.ne_of_gt hK.1
 have o4:w.heap.size+1≠cp:=by have:cp < w.heap.size:=hP.1; omega
 have o5:w.heap.size+1≠sp:=by have:sp < w.heap.size:=hS.1; omega
 have o6:w.heap.size+1≠kp:=by have:kp < w.heap.size:=hK.1; omega
 have E:Hid (Env w pb [(w.heap.size+1,#[(),()]),(w.heap.size,#[(),()]),(cp,#[.pointer (some ⟨pb,0,none⟩)]),(sp,#[sl,sh]),(kp,#[kl,kh])] ((w.alloc (.cells #[(),()] 31)).alloc (.cells #[(),()] 31))):=by
   have h:=((((((Env.start hC).add hK n3).add hS n2).add hP n1).made #[(),()] 31).made #[(),()] 31)
   simp only [World.size_alloc] at h
   exact Lib.hid h
 have k1:=(E.out.nth 2 rfl).pc
 obtain⟨k2,k3⟩:=(E.out.nth 3 rfl).two
 obtain⟨k4,k5⟩:=(E.out.nth 4 rfl).two
 have k6:=(E.out.nth 0 rfl).2.1
 have k7:=(E.out.nth 0 rfl).2.2
 have k8:=(E.out.nth 1 rfl).2.1
 have k9:=(E.out.nth 1 rfl).2.2
 clear hC hP hS hK n1 n2 n3
 go_enter Tryz.func112,Tryz.ntmps112
 go_upto_region 1 with fail
 go_region_held3 (fun w'=>w'.cell? ⟨cp,0,none⟩=some (.pointer (some ⟨pb,0,none⟩))∧w'.cell? ⟨sp,0,none⟩=some (.float .f64 sl)∧w'.cell? ⟨sp,1,none⟩=some (.float .f64 sh)∧w'.cell? ⟨kp,0,none⟩=some (.float .f64 kl)∧w'.cell? ⟨kp,1,none⟩=some (.float .f64 kh)) (((try dsimp only); (repeat' apply And.intro); all_goals (repeat (first | (with_reducible assumption) | ((with_reducible refine keep_undrew ?_); (with_reducible assumption)) | (with_reducible refine keep_drew ?_) | (with_reducible refine keep_alloc _ ?_) | (with_reducible refine keep_set _ (by first | (with_reducible assumption) | omega) ?_)))))
   (first
     | (go_at_call 113; (with_reducible refine (c1.out _ E.out.drew.cal).mono ?_); rintro rr w5 ⟨rfl,hp⟩; have E':=Lib.hid (E.out.drew.putc hp); clear E hp; clear k1 k2 k3 k4 k5 k6 k7 k8 k9; have E:=E'; clear E'; have k1:=(E.out.nth 2 rfl).pc; obtain⟨k2,k3⟩:=(E.out.nth 3 rfl).two; obtain⟨k4,k5⟩:=(E.out.nth 4 rfl).two; have k6:=(E.out.nth 0 rfl).2.1; have k7:=(E.out.nth 0 rfl).2.2; have k8:=(E.out.nth 1 rfl).2.1; have k9:=(E.out.nth 1 rfl).2.2)
)
 have F:=Lib.hid ((E.out.set2 (E.out.nth 1 rfl) (E.out.ne 1 rfl) (Nat.le_refl _) (.float .f64 kl) (.float .f64 kh) [(w.heap.size,#[kl,kh]),(w.heap.size+1,#[(),()])] (by simp)))
 have f2:=F.out.nth 1 rfl
 have G:=Lib.hid ((F.out.set2 f2 (F.out.ne 1 rfl) (by simp) (.float .f64 xl) (.float .f64 xh) [(w.heap.size,#[kl,kh]),(w.heap.size+1,#[xl,xh])] (by simp)))
 clear f2
 have f3:=(F.out.nth 0 rfl).2.1
 have f4:=(F.out.nth 0 rfl).2.2
 have f5:=(F.out.nth 1 rfl).2.1
 have f6:=(F.out.nth 1 rfl).2.2
 go_wp2
 have f1:=(G.out.nth 0 rfl).2.1
 have g1:=(G.out.nth 1 rfl).2.1
 exact bodyPost_ret (v:=.tuple #[.agg #[.float .f64 kl,.float .f64 kh],.agg #[.float .f64 xl,.float .f64 xh]]) (by simp [results,Tryz.results112,go_sem,f1,g1]) rfl ⟨rfl,G.out.put⟩
theorem lit3 (sl sh kl kh xl xh yl yh pb cp sp kp:Nat) (w:World) (hC:Has1 w (pb,#[true])) (hP:Has1 w (cp,#[.pointer (some ⟨pb,0,none⟩)])) (hS:Has1 w (sp,#[sl,sh])) (hK:Has1 w (kp,#[kl,kh])) (n1:pb≠cp) (n2:pb≠sp) (n3:pb≠kp) (c1:Hid (Calc1 113 pb sl sh xl xh)) (c2:Hid (Calc1 113 pb kl kh yl yh)) :
   Calls Tryz.prog 114 #[.pointer (some ⟨cp,0,none⟩),.pointer (some ⟨sp,0,none⟩),.pointer (some ⟨kp,0,none⟩)] w fun r w'=>r = .returned (.tuple #[.agg #[xl,xh],.agg #[yl,yh]])∧Put ⟨pb,0,none⟩ (.int .i64 0) w w':=by
 have o1:w.heap.size≠cp:=Nat.ne_of_gt hP.1
 have o2:w.heap.size≠sp:=Nat.ne_of_gt hS.1
 have o3:w.heap.size≠kp:=Nat.ne_of_gt hK.1
 have o4:w.heap.size+1≠cp:=by have:cp < w.heap.size:=hP.1; omega
 have o5:w.heap.size+1≠sp:=by have:sp < w.heap.size:=hS.1; omega
 have o6:w.heap.size+1≠kp:=by have:kp < w.heap.size:=hK.1; omega
 have E:Hid (Env w pb [(w.heap.size+1,#[(),()]),(w.heap.size,#[(),()]),(cp,#[.pointer (some ⟨pb,0,none⟩)]),(sp,#[sl,sh]),(kp,#[kl,kh])] ((w.alloc (.cells #[(),()] 31)).alloc (.cells #[(),()] 31))):=by
   have h:=((((((Env.start hC).add hK n3).add hS n2).add hP n1).made #[(),()] 31).made #[(),()] 31)
   simp only [World.size_alloc] at h
   exact Lib.hid h
 have k1:=(E.out.nth 2 rfl).pc
 obtain⟨k2,k3⟩:=(E.out.nth 3 rfl).two
 obtain⟨k4,k5⟩:=(E.out.nth 4 rfl).two
 have k6:=(E.out.nth 0 rfl).2.1
 have k7:=(E.out.nth 0 rfl).2.2
 have k8:=(E.out.nth 1 rfl).2.1
 have k9:=(E.out.nth 1 rfl).2.2
 clear hC hP hS hK n1 n2 n3
 go_enter Tryz.func114,Tryz.ntmps114
 go_upto_region 1 with fail
 go_region_held3 (fun w'=>w'.cell? ⟨cp,0,none⟩=some (.pointer (some ⟨pb,0,none⟩))∧w'.cell? ⟨sp,0,none⟩=some (.float .f64 sl)∧w'.cell? ⟨sp,1,none⟩=some (.float .f64 sh)∧w'.cell? ⟨kp,0,none⟩=some (.float .f64 kl)∧w'.cell? ⟨kp,1,none⟩=some (.float .f64 kh)) (((try dsimp only); (repeat' apply And.intro); all_goals (repeat (first | (with_reducible assumption) | ((with_reducible refine keep_undrew ?_); (with_reducible assumption)) | (with_reducible refine keep_drew ?_) | (with_reducible refine keep_alloc _ ?_) | (with_reducible refine keep_set _ (by first | (with_reducible assumption) | omega) ?_)))))
   (first
     | (go_at_call 113; (with_reducible refine (c1.out _ E.out.drew.cal).mono ?_); rintro rr w5 ⟨rfl,hp⟩; have E':=Lib.hid (E.out.drew.putc hp); clear E hp; clear k1 k2 k3 k4 k5 k6 k7 k8 k9; have E:=E'; clear E'; have k1:=(E.out.nth 2 rfl).pc; obtain⟨k2,k3⟩:=(E.out.nth 3 rfl).two; obtain⟨k4,k5⟩:=(E.out.nth 4 rfl).two; have k6:=(E.out.nth 0 rfl).2.1; have k7:=(E.out.nth 0 rfl).2.2; have k8:=(E.out.nth 1 rfl).2.1; have k9:=(E.out.nth 1 rfl).2.2)
     | (go_at_call 113; (with_reducible refine (c2.out _ E.out.cal).mono ?_); rintro rr w5 ⟨rfl,hp⟩; have E':=Lib.hid (E.out.putc hp); clear E hp; clear k1 k2 k3 k4 k5 k6 k7 k8 k9; have E:=E'; clear E'; have k1:=(E.out.nth 2 rfl).pc; obtain⟨k2,k3⟩:=(E.out.nth 3 rfl).two; obtain⟨k4,k5⟩:=(E.out.nth 4 rfl).two; have k6:=(E.out.nth 0 rfl).2.1; have k7:=(E.out.nth 0 rfl).2.2; have k8:=(E.out.nth 1 rfl).2.1; have k9:=(E.out.nth 1 rfl).2.2))
 have F:=Lib.hid ((E.out.set2 (E.out.nth 1 rfl) (E.out.ne 1 rfl) (Nat.le_refl _) (.float .f64 xl) (.float .f64 xh) [(w.heap.size,#[xl,xh]),(w.heap.size+1,#[(),()])] (by simp)))
 have f2:=F.out.nth 1 rfl
 have G:=Lib.hid ((F.out.set2 f2 (F.out.ne 1 rfl) (by simp) (.float .f64 yl) (.float .f64 yh) [(w.heap.size,#[xl,xh]),(w.heap.size+1,#[yl,yh])] (by simp)))
 clear f2
 have f3:=(F.out.nth 0 rfl).2.1
 have f4:=(F.out.nth 0 rfl).2.2
 have f5:=(F.out.nth 1 rfl).2.1
 have f6:=(F.out.nth 1 rfl).2.2
 go_wp2
 have f1:=(G.out.nth 0 rfl).2.1
 have g1:=(G.out.nth 1 rfl).2.1
 exact bodyPost_ret (v:=.tuple #[.agg #[.float .f64 xl,.float .f64 xh],.agg #[.float .f64 yl,.float .f64 yh]]) (by simp [results,Tryz.results114,go_sem,f1,g1]) rfl ⟨rfl,G.out.put⟩
theorem lit4 (sl sh kl kh yl yh pb cp sp kp:Nat) (w:World) (hC:Has1 w (pb,#[true])) (hP:Has1 w (cp,#[.pointer (some ⟨pb,0,none⟩)])) (hS:Has1 w (sp,#[sl,sh])) (hK:Has1 w (kp,#[kl,kh])) (n1:pb≠cp) (n2:pb≠sp) (n3:pb≠kp) (c1:Hid (Calc1 113 pb kl kh yl yh)) :
   Calls Tryz.prog 115 #[.pointer (some ⟨cp,0,none⟩),.pointer (some ⟨kp,0,none⟩),.pointer (some ⟨sp,0,none⟩)] w fun r w'=>r = .returned (.tuple #[.agg #[yl,yh],.agg #[sl,sh]])∧Put ⟨pb,0,none⟩ (.int .i64 0) w w':=by
 have o1:w.heap.size≠cp:=Nat.ne_of_gt hP.1
 have o2:w.heap.size≠sp:=Nat.ne_of_gt hS.1
 have o3:w.heap.size≠kp:=Nat.ne_of_gt hK.1
 have o4:w.heap.size+1≠cp:=by have:cp < w.heap.size:=hP.1; omega
 have o5:w.heap.size+1≠sp:=by have:sp < w.heap.size:=hS.1; omega
 have o6:w.heap.size+1≠kp:=by have:kp < w.heap.size:=hK.1; omega
 have E:Hid (Env w pb [(w.heap.size+1,#[(),()]),(w.heap.size,#[(),()]),(cp,#[.pointer (some ⟨pb,0,none⟩)]),(sp,#[sl,sh]),(kp,#[kl,kh])] ((w.alloc (.cells #[(),()] 31)).alloc (.cells #[(),()] 31))):=by
   have h:=((((((Env.start hC).add hK n3).add hS n2).add hP n1).made #[(),()] 31).made #[(),()] 31)
   simp only [World.size_alloc] at h
   exact Lib.hid h
 have k1:=(E.out.nth 2 rfl).pc
 obtain⟨k2,k3⟩:=(E.out.nth 3 rfl).two
 obtain⟨k4,k5⟩:=(E.out.nth 4 rfl).two
 have k6:=(E.out.nth 0 rfl).2.1
 have k7:=(E.out.nth 0 rfl).2.2
 have k8:=(E.out.nth 1 rfl).2.1
 have k9:=(E.out.nth 1 rfl).2.2
 clear hC hP hS hK n1 n2 n3
 go_enter Tryz.func115,Tryz.ntmps115
 go_upto_region 1 with fail
 go_region_held3 (fun w'=>w'.cell? ⟨cp,0,none⟩=some (.pointer (some ⟨pb,0,none⟩))∧w'.cell? ⟨sp,0,none⟩=some (.float .f64 sl)∧w'.cell? ⟨sp,1,none⟩=some (.float .f64 sh)∧w'.cell? ⟨kp,0,none⟩=some (.float .f64 kl)∧w'.cell? ⟨kp,1,none⟩=some (.float .f64 kh)) (((try dsimp only); (repeat' apply And.intro); all_goals (repeat (first | (with_reducible assumption) | ((with_reducible refine keep_undrew ?_); (with_reducible assumption)) | (with_reducible refine keep_drew ?_) | (with_reducible refine keep_alloc _ ?_) | (with_reducible refine keep_set _ (by first | (with_reducible assumption) | omega) ?_)))))
   (first
     | (go_at_call 113; (with_reducible refine (c1.out _ E.out.drew.cal).mono ?_); rintro rr w5 ⟨rfl,hp⟩; have E':=Lib.hid (E.out.drew.putc hp); clear E hp; clear k1 k2 k3 k4 k5 k6 k7 k8 k9; have E:=E'; clear E'; have k1:=(E.out.nth 2 rfl).pc; obtain⟨k2,k3⟩:=(E.out.nth 3 rfl).two; obtain⟨k4,k5⟩:=(E.out.nth 4 rfl).two; have k6:=(E.out.nth 0 rfl).2.1; have k7:=(E.out.nth 0 rfl).2.2; have k8:=(E.out.nth 1 rfl).2.1; have k9:=(E.out.nth 1 rfl).2.2)
)
 have F:=Lib.hid ((E.out.set2 (E.out.nth 1 rfl) (E.out.ne 1 rfl) (Nat.le_refl _) (.float .f64 yl) (.float .f64 yh) [(w.heap.size,#[yl,yh]),(w.heap.size+1,#[(),()])] (by simp)))
 have f2:=F.out.nth 1 rfl
 have G:=Lib.hid ((F.out.set2 f2 (F.out.ne 1 rfl) (by simp) (.float .f64 sl) (.float .f64 sh) [(w.heap.size,#[yl,yh]),(w.heap.size+1,#[sl,sh])] (by simp)))
 clear f2
 have f3:=(F.out.nth 0 rfl).2.1
 have f4:=(F.out.nth 0 rfl).2.2
 have f5:=(F.out.nth 1 rfl).2.1
 have f6:=(F.out.nth 1 rfl).2.2
 go_wp2
 have f1:=(G.out.nth 0 rfl).2.1
 have g1:=(G.out.nth 1 rfl).2.1
 exact bodyPost_ret (v:=.tuple #[.agg #[.float .f64 yl,.float .f64 yh],.agg #[.float .f64 sl,.float .f64 sh]]) (by simp [results,Tryz.results115,go_sem,f1,g1]) rfl ⟨rfl,G.out.put⟩
end
section
open Go.RowKit
attribute [local go_sem] run_store_float
theorem Env.fresh {B v:World} {pb:Nat} {l:List (Nat×Array Value)} (h:Env B pb l v):B.heap.size≤v.heap.size∧∀ p,p∈l→v.heap.size≠p.1:=
 ⟨h.put.size,fun p hp=>Nat.ne_of_gt (h.blocks p hp).1.1⟩
def KeptE (w:World) (pb:Nat) (l:List (Nat×Array Value)) (x y:Nat) (p:Value) (wx:World):Prop:=
 ∃ q,p = .pointer (some ⟨q,0,none⟩)∧w.heap.size≤q∧(∀ p,p∈l→q≠p.1)∧Env w pb ((q,#[x,y]) :: l) wx
theorem KeptE.made {w v:World} {pb:Nat} {l:List (Nat×Array Value)} (h:Env w pb l v) (x y:Nat) (t:TypeId):KeptE w pb l x y (.pointer (some ⟨v.heap.size,0,none⟩)) (v.alloc (.cells #[x,y] t)):=
 ⟨_,rfl,h.fresh.1,h.fresh.2,h.made _ t⟩
theorem KeptE.set {w v:World} {pb q:Nat} {l:List (Nat×Array Value)} {a b:Value} (h:Env w pb ((q,#[a,b]) :: l) v) (hq:w.heap.size≤q∧∀ p,p∈l→q≠p.1) (x y:Nat) :
   KeptE w pb l x y (.pointer (some ⟨q,0,none⟩)) ((v.setCell ⟨q,0,none⟩ (.float .f64 x)).setCell ⟨q,1,none⟩ (.float .f64 y)):=
 ⟨_,rfl,hq.1,hq.2,h.set2 (h.nth 0 rfl) (h.ne 0 rfl) hq.1 _ _ _ (fun p hp=>by
   rcases List.mem_cons.1 hp with e | e
   · exact Or.inl e
   · exact Or.inr ⟨List.mem_cons_of_mem _ e,hq.2 p e⟩)⟩
theorem Env.reset {w v:World} {pb q:Nat} {l:List (Nat×Array Value)} {a b:Value} (h:Env w pb ((q,#[a,b]) :: l) v) (hq:w.heap.size≤q) (hl:∀ p,p∈l→q≠p.1) (x y:Value) :
   Env w pb ((q,#[x,y]) :: l) ((v.setCell ⟨q,0,none⟩ x).setCell ⟨q,1,none⟩ y):=
 h.set2 (h.nth 0 rfl) (h.ne 0 rfl) hq _ _ _ (fun p hp=>by
   rcases List.mem_cons.1 hp with e | e
   · exact Or.inl e
   · exact Or.inr ⟨List.mem_cons_of_mem _ e,hl p e⟩)
def SerRel (w:World) (pb q m:Nat) (l:List (Nat×Array Value)) (y:Res) (v:Value) (wr:World):Prop:=
 ∃ (i:Nat) (k:Int),i≤9∧k=(m:Int) - 2 - 2*i∧v = .int .i64 k∧Env w pb ((q,#[.float .f64 (serN y m i).lo,.float .f64 (serN y m i).hi]) :: l) wr
theorem trig_field0 (a b:Nat) (w:World):(Instr.field 31 (.agg #[a,b]) 0).run Tryz.prog w = .ok (.float .f64 a) w:=by kernel_rfl
abbrev CalcT (pb k rl rh yl yh:Nat):Prop:=∀ (cp yp:Nat) (v:World),Has1 v (pb,#[true])→Has1 v (cp,#[.pointer (some ⟨pb,0,none⟩)])→Has1 v (yp,#[yl,yh])→pb≠cp→pb≠yp→Calls Tryz.prog 163 #[.int .i64 k,.pointer (some ⟨cp,0,none⟩),.pointer (some ⟨yp,0,none⟩)] v fun r w'=>r = .returned (.agg #[rl,rh])∧Put ⟨pb,0,none⟩ (.int .i64 0) v w'
theorem series_walk (m tl th yl yh t0l t0h s0l s0h pb:Nat) (y:Res) (w:World) (hC:Has1 w (pb,#[true])) (hm:19≤m∧m≤20)
   (cQ:Hid (Calc1 104 pb tl th yl yh)) (cN:Hid (CalcN pb 4607182418800017408)) (cT0:Hid (CalcT pb m t0l t0h yl yh)) (cS0:Hid (Calc2 34 pb 4607182418800017408 4607182418800017408 t0l t0h s0l s0h)) (h0:Hid ((serN y m 0).lo=s0l∧(serN y m 0).hi=4607182418800017408))
   (cT:Hid (∀ i,i < 9→CalcT pb (m - 2 - 2*i) (termR y (m - 2 - 2*i)).lo (termR y (m - 2 - 2*i)).hi yl yh))
   (cM:Hid (∀ i,i < 9→Calc2 32 pb (termR y (m - 2 - 2*i)).lo (termR y (m - 2 - 2*i)).hi (serN y m i).lo (serN y m i).hi (mulR (termR y (m - 2 - 2*i)) (serN y m i)).lo (mulR (termR y (m - 2 - 2*i)) (serN y m i)).hi))
   (cS:Hid (∀ i,i < 9→Calc2 34 pb 4607182418800017408 4607182418800017408 (mulR (termR y (m - 2 - 2*i)) (serN y m i)).lo (mulR (termR y (m - 2 - 2*i)) (serN y m i)).hi (serN y m (i+1)).lo (serN y m (i+1)).hi)) :
   Calls Tryz.prog 110 #[.pointer (some ⟨pb,0,none⟩),.agg #[tl,th],.int .i64 m] w fun r w'=>r = .returned (.agg #[.float .f64 (serN y m 9).lo,.float .f64 (serN y m 9).hi])∧Put ⟨pb,0,none⟩ (.int .i64 0) w w':=by
 obtain⟨hm1,hm2⟩:=hm
 have n1:pb≠w.heap.size:=Nat.ne_of_lt hC.1
 have E:Hid (Env w pb [(w.heap.size+1+1,#[(),()]),(w.heap.size+1,#[tl,th]),(w.heap.size,#[.pointer (some ⟨pb,0,none⟩)])] (((w.alloc (.cells #[.pointer (some ⟨pb,0,none⟩)] 91)).alloc (.cells #[tl,th] 31)).alloc (.cells #[(),()] 31))):=by
   have h:=(((Env.start hC).made #[.pointer (some ⟨pb,0,none⟩)] 91).made #[tl,th] 31).made #[(),()] 31
   simp only [World.size_alloc] at h
   exact Lib.hid h
 have k1:=(E.out.nth 2 rfl).pc
 obtain⟨k2,k3⟩:=(E.out.nth 1 rfl).two
 clear hC
 go_enter Tryz.func110,Tryz.ntmps110
 go_wp2_with fail
 refine (cQ.out _ E.out.cal).mono ?_
 rintro r w1 ⟨rfl,hp⟩
 have zy:w.heap.size+1+1 < w1.heap.size:=((E.out.putc hp).nth 0 rfl).1
 replace E:Hid (Env w pb [(w.heap.size+1+1,#[(),()]),(w.heap.size,#[.pointer (some ⟨pb,0,none⟩)]),(w1.heap.size,#[yl,yh])] (w1.alloc (.cells #[yl,yh] 31))):=Lib.hid (((E.out.putc hp).made #[yl,yh] 31).sub (by simp))
 clear hp k1 k2 k3
 have ny:pb≠w1.heap.size:=E.out.ne 2 rfl
 go_upto_region 3 with fail
 revert E
 generalize w1.alloc (.cells #[yl,yh] 31)=W
 intro E
 have k1:=(E.out.blocks (w.heap.size,#[.pointer (some ⟨pb,0,none⟩)]) (by simp)).1.pc
 have z1:=(E.out.blocks (w.heap.size,#[.pointer (some ⟨pb,0,none⟩)]) (by simp)).1.1
 have k8:=(E.out.nth 0 rfl).2.1
 have k9:=(E.out.nth 0 rfl).2.2
 have hC:=Lib.hid (E.out.blocks (w.heap.size,#[.pointer (some ⟨pb,0,none⟩)]) (by simp)).1
 have hY:=Lib.hid (E.out.blocks (w1.heap.size,#[yl,yh]) (by simp)).1
 have f0:=trig_field0
 go_cut [9] (KeptE w pb [(w.heap.size+1+1,#[(),()]),(w.heap.size,#[.pointer (some ⟨pb,0,none⟩)]),(w1.heap.size,#[yl,yh])] s0l 4607182418800017408)
 case first =>
   go_region_held3 (fun w'=>w'.cell? ⟨w.heap.size,0,none⟩=some (.pointer (some ⟨pb,0,none⟩))) (((try dsimp only); (repeat' apply And.intro); all_goals (repeat (first | (with_reducible assumption) | ((with_reducible refine keep_undrew ?_); (with_reducible assumption)) | (with_reducible refine keep_drew ?_) | (with_reducible refine keep_alloc _ ?_) | (with_reducible refine keep_set _ (by first | (with_reducible assumption) | omega) ?_)))))
     (first
       | (go_at_call 35; (with_reducible refine (cN.out _ (E.out).cal).mono ?_); rintro rr w5 ⟨rfl,hp⟩; have E':=Lib.hid ((E.out).putc hp); clear E hp; clear k1 z1 k8 k9 hC hY; have E:=E'; clear E'; have k1:=(E.out.blocks (w.heap.size,#[.pointer (some ⟨pb,0,none⟩)]) (by simp)).1.pc; have z1:=(E.out.blocks (w.heap.size,#[.pointer (some ⟨pb,0,none⟩)]) (by simp)).1.1; have k8:=(E.out.nth 0 rfl).2.1; have k9:=(E.out.nth 0 rfl).2.2; have hC:=Lib.hid (E.out.blocks (w.heap.size,#[.pointer (some ⟨pb,0,none⟩)]) (by simp)).1; have hY:=Lib.hid (E.out.blocks (w1.heap.size,#[yl,yh]) (by simp)).1)
       | (go_at_call 35; (with_reducible refine (cN.out _ (E.out.drew).cal).mono ?_); rintro rr w5 ⟨rfl,hp⟩; have E':=Lib.hid ((E.out.drew).putc hp); clear E hp; clear k1 z1 k8 k9 hC hY; have E:=E'; clear E'; have k1:=(E.out.blocks (w.heap.size,#[.pointer (some ⟨pb,0,none⟩)]) (by simp)).1.pc; have z1:=(E.out.blocks (w.heap.size,#[.pointer (some ⟨pb,0,none⟩)]) (by simp)).1.1; have k8:=(E.out.nth 0 rfl).2.1; have k9:=(E.out.nth 0 rfl).2.2; have hC:=Lib.hid (E.out.blocks (w.heap.size,#[.pointer (some ⟨pb,0,none⟩)]) (by simp)).1; have hY:=Lib.hid (E.out.blocks (w1.heap.size,#[yl,yh]) (by simp)).1)
       | (go_at_call 35; (with_reducible refine (cN.out _ ((E.out.made _ _)).cal).mono ?_); rintro rr w5 ⟨rfl,hp⟩; have hF:=Lib.hid E.out.fresh; have a1:=Nat.ne_of_gt z1; have E':=Lib.hid (((E.out.made _ _)).putc hp); clear E hp; clear k1 z1 k8 k9 hC hY; have E:=E'; clear E'; have k1:=(E.out.blocks (w.heap.size,#[.pointer (some ⟨pb,0,none⟩)]) (by simp)).1.pc; have z1:=(E.out.blocks (w.heap.size,#[.pointer (some ⟨pb,0,none⟩)]) (by simp)).1.1; have k8:=(E.out.nth 0 rfl).2.1; have k9:=(E.out.nth 0 rfl).2.2; have hC:=Lib.hid (E.out.blocks (w.heap.size,#[.pointer (some ⟨pb,0,none⟩)]) (by simp)).1; have hY:=Lib.hid (E.out.blocks (w1.heap.size,#[yl,yh]) (by simp)).1)
       | (go_at_call 35; (with_reducible refine (cN.out _ ((E.out.made _ _).drew).cal).mono ?_); rintro rr w5 ⟨rfl,hp⟩; have hF:=Lib.hid E.out.fresh; have a1:=Nat.ne_of_gt z1; have E':=Lib.hid (((E.out.made _ _).drew).putc hp); clear E hp; clear k1 z1 k8 k9 hC hY; have E:=E'; clear E'; have k1:=(E.out.blocks (w.heap.size,#[.pointer (some ⟨pb,0,none⟩)]) (by simp)).1.pc; have z1:=(E.out.blocks (w.heap.size,#[.pointer (some ⟨pb,0,none⟩)]) (by simp)).1.1; have k8:=(E.out.nth 0 rfl).2.1; have k9:=(E.out.nth 0 rfl).2.2; have hC:=Lib.hid (E.out.blocks (w.heap.size,#[.pointer (some ⟨pb,0,none⟩)]) (by simp)).1; have hY:=Lib.hid (E.out.blocks (w1.heap.size,#[yl,yh]) (by simp)).1)
       | (go_at_call 163; (with_reducible refine (cT0.out _ _ _ (E.out).cal ((E.out).blocks (w.heap.size,#[.pointer (some ⟨pb,0,none⟩)]) (by simp)).1 ((E.out).blocks (w1.heap.size,#[yl,yh]) (by simp)).1 n1 ny).mono ?_); rintro rr w5 ⟨rfl,hp⟩; have E':=Lib.hid ((E.out).putc hp); clear E hp; clear k1 z1 k8 k9 hC hY; have E:=E'; clear E'; have k1:=(E.out.blocks (w.heap.size,#[.pointer (some ⟨pb,0,none⟩)]) (by simp)).1.pc; have z1:=(E.out.blocks (w.heap.size,#[.pointer (some ⟨pb,0,none⟩)]) (by simp)).1.1; have k8:=(E.out.nth 0 rfl).2.1; have k9:=(E.out.nth 0 rfl).2.2; have hC:=Lib.hid (E.out.blocks (w.heap.size,#[.pointer (some ⟨pb,0,none⟩)]) (by simp)).1; have hY:=Lib.hid (E.out.blocks (w1.heap.size,#[yl,yh]) (by simp)).1)
       | (go_at_call 163; (with_reducible refine (cT0.out _ _ _ (E.out.drew).cal ((E.out.drew).blocks (w.heap.size,#[.pointer (some ⟨pb,0,none⟩)]) (by simp)).1 ((E.out.drew).blocks (w1.heap.size,#[yl,yh]) (by simp)).1 n1 ny).mono ?_); rintro rr w5 ⟨rfl,hp⟩; have E':=Lib.hid ((E.out.drew).putc hp); clear E hp; clear k1 z1 k8 k9 hC hY; have E:=E'; clear E'; have k1:=(E.out.blocks (w.heap.size,#[.pointer (some ⟨pb,0,none⟩)]) (by simp)).1.pc; have z1:=(E.out.blocks (w.heap.size,#[.pointer (some ⟨pb,0,none⟩)]) (by simp)).1.1; have k8:=(E.out.nth 0 rfl).2.1; have k9:=(E.out.nth 0 rfl).2.2; have hC:=Lib.hid (E.out.blocks (w.heap.size,#[.pointer (some ⟨pb,0,none⟩)]) (by simp)).1; have hY:=Lib.hid (E.out.blocks (w1.heap.size,#[yl,yh]) (by simp)).1)
       | (go_at_call 163; (with_reducible refine (cT0.out _ _ _ ((E.out.made _ _)).cal (((E.out.made _ _)).blocks (w.heap.size,#[.pointer (some ⟨pb,0,none⟩)]) (by simp)).1 (((E.out.made _ _)).blocks (w1.heap.size,#[yl,yh]) (by simp)).1 n1 ny).mono ?_); rintro rr w5 ⟨rfl,hp⟩; have hF:=Lib.hid E.out.fresh; have a1:=Nat.ne_of_gt z1; have E':=Lib.hid (((E.out.made _ _)).putc hp); clear E hp; clear k1 z1 k8 k9 hC hY; have E:=E'; clear E'; have k1:=(E.out.blocks (w.heap.size,#[.pointer (some ⟨pb,0,none⟩)]) (by simp)).1.pc; have z1:=(E.out.blocks (w.heap.size,#[.pointer (some ⟨pb,0,none⟩)]) (by simp)).1.1; have k8:=(E.out.nth 0 rfl).2.1; have k9:=(E.out.nth 0 rfl).2.2; have hC:=Lib.hid (E.out.blocks (w.heap.size,#[.pointer (some ⟨pb,0,none⟩)]) (by simp)).1; have hY:=Lib.hid (E.out.blocks (w1.heap.size,#[yl,yh]) (by simp)).1)
       | (go_at_call 163; (with_reducible refine (cT0.out _ _ _ ((E.out.made _ _).drew).cal (((E.out.made _ _).drew).blocks (w.heap.size,#[.pointer (some ⟨pb,0,none⟩)]) (by simp)).1 (((E.out.made _ _).drew).blocks (w1.heap.size,#[yl,yh]) (by simp)).1 n1 ny).mono ?_); rintro rr w5 ⟨rfl,hp⟩; have hF:=Lib.hid E.out.fresh; have a1:=Nat.ne_of_gt z1; have E':=Lib.hid (((E.out.made _ _).drew).putc hp); clear E hp; clear k1 z1 k8 k9 hC hY; have E:=E'; clear E'; have k1:=(E.out.blocks (w.heap.size,#[.pointer (some ⟨pb,0,none⟩)]) (by simp)).1.pc; have z1:=(E.out.blocks (w.heap.size,#[.pointer (some ⟨pb,0,none⟩)]) (by simp)).1.1; have k8:=(E.out.nth 0 rfl).2.1; have k9:=(E.out.nth 0 rfl).2.2; have hC:=Lib.hid (E.out.blocks (w.heap.size,#[.pointer (some ⟨pb,0,none⟩)]) (by simp)).1; have hY:=Lib.hid (E.out.blocks (w1.heap.size,#[yl,yh]) (by simp)).1)
       | (go_at_call 34; (with_reducible refine (cS0.out _ (E.out).cal).mono ?_); rintro rr w5 ⟨rfl,hp⟩; have E':=Lib.hid ((E.out).putc hp); clear E hp; clear k1 z1 k8 k9 hC hY; have E:=E'; clear E'; have k1:=(E.out.blocks (w.heap.size,#[.pointer (some ⟨pb,0,none⟩)]) (by simp)).1.pc; have z1:=(E.out.blocks (w.heap.size,#[.pointer (some ⟨pb,0,none⟩)]) (by simp)).1.1; have k8:=(E.out.nth 0 rfl).2.1; have k9:=(E.out.nth 0 rfl).2.2; have hC:=Lib.hid (E.out.blocks (w.heap.size,#[.pointer (some ⟨pb,0,none⟩)]) (by simp)).1; have hY:=Lib.hid (E.out.blocks (w1.heap.size,#[yl,yh]) (by simp)).1)
       | (go_at_call 34; (with_reducible refine (cS0.out _ (E.out.drew).cal).mono ?_); rintro rr w5 ⟨rfl,hp⟩; have E':=Lib.hid ((E.out.drew).putc hp); clear E hp; clear k1 z1 k8 k9 hC hY; have E:=E'; clear E'; have k1:=(E.out.blocks (w.heap.size,#[.pointer (some ⟨pb,0,none⟩)]) (by simp)).1.pc; have z1:=(E.out.blocks (w.heap.size,#[.pointer (some ⟨pb,0,none⟩)]) (by simp)).1.1; have k8:=(E.out.nth 0 rfl).2.1; have k9:=(E.out.nth 0 rfl).2.2; have hC:=Lib.hid (E.out.blocks (w.heap.size,#[.pointer (some ⟨pb,0,none⟩)]) (by simp)).1; have hY:=Lib.hid (E.out.blocks (w1.heap.size,#[yl,yh]) (by simp)).1)
       | (go_at_call 34; (with_reducible refine (cS0.out _ ((E.out.made _ _)).cal).mono ?_); rintro rr w5 ⟨rfl,hp⟩; have hF:=Lib.hid E.out.fresh; have a1:=Nat.ne_of_gt z1; have E':=Lib.hid (((E.out.made _ _)).putc hp); clear E hp; clear k1 z1 k8 k9 hC hY; have E:=E'; clear E'; have k1:=(E.out.blocks (w.heap.size,#[.pointer (some ⟨pb,0,none⟩)]) (by simp)).1.pc; have z1:=(E.out.blocks (w.heap.size,#[.pointer (some ⟨pb,0,none⟩)]) (by simp)).1.1; have k8:=(E.out.nth 0 rfl).2.1; have k9:=(E.out.nth 0 rfl).2.2; have hC:=Lib.hid (E.out.blocks (w.heap.size,#[.pointer (some ⟨pb,0,none⟩)]) (by simp)).1; have hY:=Lib.hid (E.out.blocks (w1.heap.size,#[yl,yh]) (by simp)).1)
       | (go_at_call 34; (with_reducible refine (cS0.out _ ((E.out.made _ _).drew).cal).mono ?_); rintro rr w5 ⟨rfl,hp⟩; have hF:=Lib.hid E.out.fresh; have a1:=Nat.ne_of_gt z1; have E':=Lib.hid (((E.out.made _ _).drew).putc hp); clear E hp; clear k1 z1 k8 k9 hC hY; have E:=E'; clear E'; have k1:=(E.out.blocks (w.heap.size,#[.pointer (some ⟨pb,0,none⟩)]) (by simp)).1.pc; have z1:=(E.out.blocks (w.heap.size,#[.pointer (some ⟨pb,0,none⟩)]) (by simp)).1.1; have k8:=(E.out.nth 0 rfl).2.1; have k9:=(E.out.nth 0 rfl).2.2; have hC:=Lib.hid (E.out.blocks (w.heap.size,#[.pointer (some ⟨pb,0,none⟩)]) (by simp)).1; have hY:=Lib.hid (E.out.blocks (w1.heap.size,#[yl,yh]) (by simp)).1))
   all_goals (go_wp2_with fail; go_meet)
   all_goals first | exact KeptE.made E.out _ _ _ | exact KeptE.set E.out hF.out _ _
 case rest =>
   obtain⟨w2,rfl⟩:∃ x:World,x=wc:=⟨_,rfl⟩
   obtain⟨q,rfl,hq1,hq2,hE⟩:=hcut
   clear k1 z1 k8 k9 hC hY
   clear E
   have E:=Lib.hid hE
   have HQ:=Lib.hid hq2
   clear hE hq2 cT0 cS0 cQ
   go_wp2_with fail
   go_loopw [10] (SerRel w pb q m [(w.heap.size+1+1,#[(),()]),(w.heap.size,#[.pointer (some ⟨pb,0,none⟩)]),(w1.heap.size,#[yl,yh])] y) (fun v _=>(intOf v).toNat)
   case atStart =>
     refine ⟨0,_,by decide,?_,rfl,?_⟩
     · omega
     · rw [h0.out.1,h0.out.2]; exact E.out
   case round =>
     clear E
     obtain⟨i,k,hi,hk,rfl,hE⟩:=hrel
     have E:=Lib.hid hE
     clear hE
     have k1:=(E.out.blocks (w.heap.size,#[.pointer (some ⟨pb,0,none⟩)]) (by simp)).1.pc
     obtain⟨k2,k3⟩:=(E.out.nth 0 rfl).two
     by_cases hlt:i < 9
     · obtain⟨kk,rfl⟩:=Int.eq_ofNat_of_zero_le (show 0≤k by omega)
       have hkk:kk=m - 2 - 2*i:=by omega
       have CT:=Lib.hid (cT.out i hlt)
       have CM:=Lib.hid (cM.out i hlt)
       have CS:=Lib.hid (cS.out i hlt)
       rw [←hkk] at CT CM CS
       have hpos:0 < (kk:Int):=by omega
       have hle:(kk:Int)≤20:=by omega
       have HK:=Lib.hid hk
       clear hk hkk
       obtain⟨a1,ha1⟩:∃ a,a=(termR y kk).lo:=⟨_,rfl⟩
       obtain⟨a2,ha2⟩:∃ a,a=(termR y kk).hi:=⟨_,rfl⟩
       obtain⟨b1,hb1⟩:∃ a,a=(mulR (termR y kk) (serN y m i)).lo:=⟨_,rfl⟩
       obtain⟨b2,hb2⟩:∃ a,a=(mulR (termR y kk) (serN y m i)).hi:=⟨_,rfl⟩
       obtain⟨c1,hc1⟩:∃ a,a=(serN y m i).lo:=⟨_,rfl⟩
       obtain⟨c2,hc2⟩:∃ a,a=(serN y m i).hi:=⟨_,rfl⟩
       obtain⟨d1,hd1⟩:∃ a,a=(serN y m (i+1)).lo:=⟨_,rfl⟩
       obtain⟨d2,hd2⟩:∃ a,a=(serN y m (i+1)).hi:=⟨_,rfl⟩
       rw [←ha1,←ha2] at CT
       rw [←ha1,←ha2,←hb1,←hb2,←hc1,←hc2] at CM
       rw [←hb1,←hb2,←hd1,←hd2] at CS
       rw [←hc1,←hc2] at E
       rw [←hc1] at k2
       rw [←hc2] at k3
       have HD:Hid (d1=(serN y m (i+1)).lo∧d2=(serN y m (i+1)).hi):=Lib.hid ⟨hd1,hd2⟩
       clear ha1 ha2 hb1 hb2 hc1 hc2 hd1 hd2 cT cM cS h0
       go_upto_region 7 with fail
       replace E:=Lib.hid E.out.drew
       refine wp_region_noPanic ?_
       refine tails_region (S:=fun w'=>w'.cell? ⟨w.heap.size,0,none⟩=some (.pointer (some ⟨pb,0,none⟩))∧w'.cell? ⟨q,0,none⟩=some (.float .f64 c1)∧w'.cell? ⟨q,1,none⟩=some (.float .f64 c2)) [10] (by kernel_rfl) ?_ (fun hS=>?_)
       · exact ⟨k1,k2,k3⟩
       refine tails_take (T:=[10]) (i:=0) (o:=_) (x:=?_) rfl (by kernel_rfl) (by kernel_rfl) (by kernel_rfl) (by kernel_rfl) (fun _ _ _ h=>h) (Or.inl ⟨by rfl,?_⟩) (by assumption) ?_
       rotate_left; focus (intro w hSw; (try dsimp only at hSw); go_simp; first | done | with_reducible rfl)
       refine tails_take (T:=[10]) (i:=1) (o:=_) (x:=?_) rfl (by kernel_rfl) (by kernel_rfl) (by kernel_rfl) (by kernel_rfl) (fun _ _ _ h=>h) (Or.inl ⟨by rfl,?_⟩) (by assumption) ?_
       rotate_left; focus (intro w hSw; (try dsimp only at hSw); go_simp; first | done | with_reducible rfl)
       refine tails_take (T:=[10]) (i:=3) (o:=_) (x:=?_) rfl (by kernel_rfl) (by kernel_rfl) (by kernel_rfl) (by kernel_rfl) (fun _ _ _ h=>h) (Or.inl ⟨by rfl,?_⟩) (by assumption) ?_
       rotate_left; focus (intro w hSw; (try dsimp only at hSw); go_simp; first | done | with_reducible rfl)
       refine tails_take (T:=[10]) (i:=4) (o:=_) (x:=?_) rfl (by kernel_rfl) (by kernel_rfl) (by kernel_rfl) (by kernel_rfl) (fun _ _ _ h=>h) (Or.inl ⟨by rfl,?_⟩) (by assumption) ?_
       rotate_left; focus (intro w hSw; (try dsimp only at hSw); go_simp; first | done | with_reducible rfl)
       refine tails_take (T:=[10]) (i:=5) (o:=_) (x:=?_) rfl (by kernel_rfl) (by kernel_rfl) (by kernel_rfl) (by kernel_rfl) (fun _ _ _ h=>h) (Or.inl ⟨by rfl,?_⟩) (by assumption) ?_
       rotate_left; focus (intro w hSw; (try dsimp only at hSw); go_simp; first | done | with_reducible rfl)
       refine tails_take (T:=[10]) (i:=7) (o:=_) (x:=?_) rfl (by kernel_rfl) (by kernel_rfl) (by kernel_rfl) (by kernel_rfl) (fun _ _ _ h=>h) (Or.inl ⟨by rfl,?_⟩) (by assumption) ?_
       rotate_left; focus (intro w hSw; (try dsimp only at hSw); go_simp; first | done | with_reducible rfl)
       refine tails_one (T:=[10]) (i:=2) (o:=_) rfl (by kernel_rfl) (fun K hK=>?_)
       go_simp
       ((with_reducible refine (cN.out _ E.out.cal).mono ?_); rintro rr w5 ⟨rfl,hp⟩; replace E:=Lib.hid (E.out.putc hp); clear hp k1 k2 k3; have k1:=(E.out.blocks (w.heap.size,#[.pointer (some ⟨pb,0,none⟩)]) (by simp)).1.pc; obtain⟨k2,k3⟩:=(E.out.nth 0 rfl).two)
       try go_wp2_with fail
       refine hK.out _ _ (Or.inr ⟨k1,k2,k3⟩) (fun hHeld=>?_)
       clear hK K hS
       have hS:=hHeld.resolve_left (by decide)
       clear hHeld
       refine tails_one (T:=[10]) (i:=6) (o:=_) rfl (by kernel_rfl) (fun K hK=>?_)
       go_simp
       ((with_reducible refine (CT.out _ _ _ E.out.cal (E.out.blocks (w.heap.size,#[.pointer (some ⟨pb,0,none⟩)]) (by simp)).1 (E.out.blocks (w1.heap.size,#[yl,yh]) (by simp)).1 n1 ny).mono ?_); rintro rr w5 ⟨rfl,hp⟩; replace E:=Lib.hid (E.out.putc hp); clear hp k1 k2 k3; have k1:=(E.out.blocks (w.heap.size,#[.pointer (some ⟨pb,0,none⟩)]) (by simp)).1.pc; obtain⟨k2,k3⟩:=(E.out.nth 0 rfl).two)
       try go_wp2_with fail
       refine hK.out _ _ (Or.inr ⟨k1,k2,k3⟩) (fun hHeld=>?_)
       clear hK K hS
       have hS:=hHeld.resolve_left (by decide)
       clear hHeld
       refine tails_one (T:=[10]) (i:=8) (o:=_) rfl (by kernel_rfl) (fun K hK=>?_)
       go_simp
       ((with_reducible refine (CM.out _ E.out.cal).mono ?_); rintro rr w5 ⟨rfl,hp⟩; replace E:=Lib.hid (E.out.putc hp); clear hp k1 k2 k3; have k1:=(E.out.blocks (w.heap.size,#[.pointer (some ⟨pb,0,none⟩)]) (by simp)).1.pc; obtain⟨k2,k3⟩:=(E.out.nth 0 rfl).two)
       try go_wp2_with fail
       refine hK.out _ _ (Or.inr ⟨k1,k2,k3⟩) (fun hHeld=>?_)
       clear hK K hS
       have hS:=hHeld.resolve_left (by decide)
       clear hHeld
       refine tails_one (T:=[10]) (i:=9) (o:=_) rfl (by kernel_rfl) (fun K hK=>?_)
       go_simp
       ((with_reducible refine (CS.out _ E.out.cal).mono ?_); rintro rr w5 ⟨rfl,hp⟩; replace E:=Lib.hid (E.out.putc hp); clear hp k1 k2 k3; have k1:=(E.out.blocks (w.heap.size,#[.pointer (some ⟨pb,0,none⟩)]) (by simp)).1.pc; obtain⟨k2,k3⟩:=(E.out.nth 0 rfl).two)
       try go_wp2_with fail
       refine hK.out _ _ (Or.inr ⟨k1,k2,k3⟩) (fun hHeld=>?_)
       clear hK K hS
       have hS:=hHeld.resolve_left (by decide)
       clear hHeld
       refine tails_one (T:=[10]) (i:=10) (o:=_) rfl (by kernel_rfl) (fun K hK=>?_)
       have kc:=(E.out.nth 0 rfl).2.1
       have kf:=(E.out.nth 0 rfl).2.2
       go_simp
       refine hK.out _ _ (Or.inl (by decide)) (fun hHeld=>?_)
       clear hK K hHeld
       refine tails_done (by kernel_rfl) ?_ _
       refine NoPanic.normal ?_
       have e17:wrap64 ((kk:Int) - 2)=(kk:Int) - 2:=wrap64_in _ (by omega) (by omega)
       have E2:=Lib.hid (E.out.reset hq1 HQ.out (.float .f64 d1) (.float .f64 d2))
       clear E k1 k2 k3 hS
       go_wp2_with fail
       go_roundw
       case rel =>
         have hk:=HK.out
         have h1:=HD.out.1
         have h2:=HD.out.2
         subst h1 h2
         exact ⟨i+1,(kk:Int) - 2,by omega,by omega,rfl,E2.out⟩
       case measure=>simp [intOf]; omega
     · obtain rfl:i=9:=by omega
       have hk0:k≤0:=by omega
       have k4:=(E.out.nth 1 rfl).2.1
       have k5:=(E.out.nth 1 rfl).2.2
       have F:=Lib.hid (E.out.set2 (E.out.nth 1 rfl) (E.out.ne 1 rfl) (by omega) (.float .f64 (serN y m 9).lo) (.float .f64 (serN y m 9).hi) [(w.heap.size+1+1,#[.float .f64 (serN y m 9).lo,.float .f64 (serN y m 9).hi])] (by simp))
       clear cT cM cS h0 hk
       go_wp2
       have f1:=(F.out.nth 0 rfl).2.1
       exact bodyPost_ret (v:=.agg #[.float .f64 (serN y m 9).lo,.float .f64 (serN y m 9).hi]) (by simp [results,Tryz.results110,go_sem,f1]) rfl ⟨rfl,F.out.put⟩
theorem term_any {y:Res} {k:Nat} (hk:k≤20) (fy:Fit y) (fk:Fit (oneR (nW k))) (ft:Fit (termR y k)) (pb:Nat):CalcT pb k (termR y k).lo (termR y k).hi y.lo y.hi:=fun cp yp v hC hP hY n1 n2 =>
 term_walk k y.lo y.hi (termR y k).lo (termR y k).hi pb cp yp v hk hC hP hY n1 n2 (Lib.hid (calc_num fk pb)) (Lib.hid (calc_div fy fk ft pb))
theorem series_any {t:Res} {m:Nat} (hm:m=19∨m=20) (ft:Fit t) (hy:In (sqrR t) bigY) (pb:Nat) (w:World) (hC:Has1 w (pb,#[true])) :
   Calls Tryz.prog 110 #[.pointer (some ⟨pb,0,none⟩),.agg #[t.lo,t.hi],.int .i64 m] w fun r w'=>r = .returned (.agg #[.float .f64 (serR (sqrR t) m).lo,.float .f64 (serR (sqrR t) m).hi])∧Put ⟨pb,0,none⟩ (.int .i64 0) w w':=by
 have ok:bigOk0 m=true∧∀ i,i < 9→bigOk m i=true:=by
   rcases hm with rfl | rfl
   · exact ok19
   · exact ok20
 obtain⟨h1,h2⟩:=ok
 obtain⟨s1,s2,s3⟩:=start_in h1 hy
 have f0:Fit (oneR (nW m)):=by
   unfold bigOk0 at h1
   simp only [Bool.and_eq_true] at h1
   exact .of h1.1.1.1
 have fy:=hy.fit
 exact series_walk m t.lo t.hi (sqrR t).lo (sqrR t).hi (termR (sqrR t) m).lo (termR (sqrR t) m).hi (subR (oneR u1) (termR (sqrR t) m)).lo (subR (oneR u1) (termR (sqrR t) m)).hi pb (sqrR t) w hC (by omega)
   (Lib.hid (calc_sqr ft fy pb)) (Lib.hid (calc_num u1_fit pb)) (Lib.hid (term_any (by omega) fy f0 s2.fit pb)) (Lib.hid (calc_sub u1_fit s2.fit s3.fit pb)) (Lib.hid ⟨rfl,rfl⟩)
   (Lib.hid fun i hi=>term_any (by omega) fy (big_parts (h2 i hi)).1 (serRound_in h1 h2 hy i hi).1 pb)
   (Lib.hid fun i hi=>calc_mul (serRound_in h1 h2 hy i hi).1 (serRound_in h1 h2 hy i hi).2.2.1 (serRound_in h1 h2 hy i hi).2.1 pb)
   (Lib.hid fun i hi=>calc_sub u1_fit (serRound_in h1 h2 hy i hi).2.1 (serRound_in h1 h2 hy i hi).2.2.2 pb)
end
end Go.Proofs.YtnaomilkgfkegaaGreat
