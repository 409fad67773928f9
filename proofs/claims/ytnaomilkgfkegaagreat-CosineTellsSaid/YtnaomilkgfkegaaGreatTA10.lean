/- What the claim stands on, part 11: QRef. -/
import Derived.Test.YtnaomilkgfkegaaGreatTA8
import Derived.Test.YtnaomilkgfkegaaGreatTA9
import Derived.Test.YtnaomilkgfkegaaGreatTA0
set_option maxHeartbeats 1000000
set_option maxRecDepth 100000
namespace Go.Proofs.YtnaomilkgfkegaaGreat
section
open Go.RowKit
theorem read_inf (a:Nat) (ha:a < 18446744073709551616) (h:rung a=9218868437227405312):Ieee.double.read a = .infinity (sgnB a):=by
 unfold Ieee.Format.read
 rw [sw64,bin64,inf64]
 have hs:(a / 9223372036854775808 % 2 == 1)=sgnB a:=by
   unfold sgnB
   by_cases g:9223372036854775808≤a
   · rw [decide_eq_true g,beq_iff_eq]; omega
   · rw [decide_eq_false g,beq_eq_false_iff_ne]; omega
 have hr:a % 9223372036854775808=rung a:=rfl
 dsimp only
 rw [hs,hr,if_neg (by omega),if_neg (by omega),if_pos h]
theorem read_nan (a:Nat) (h:9218868437227405312 < rung a):∃ s f,Ieee.double.read a = .nan s f:=by
 unfold Ieee.Format.read
 rw [sw64,bin64,inf64]
 have hr:a % 9223372036854775808=rung a:=rfl
 dsimp only
 rw [hr,if_neg (by omega),if_neg (by omega),if_neg (by omega)]
 exact ⟨_,_,rfl⟩
def nanB (a:Nat):Bool:=decide (9218868437227405312 < rung a)
def infB (a:Nat):Bool:=decide (rung a=9218868437227405312)
theorem order_nan (a:Nat) (ha:a < 18446744073709551616):(FloatKind.f64.format.order a a != some Ordering.eq)=nanB a:=by
 unfold nanB
 rcases Nat.lt_trichotomy (rung a) 9218868437227405312 with h | h | h
 · rw [order_val a a ha ha h h,Int.compare_eq_eq.2 rfl,decide_eq_false (by omega)]; rfl
 · rw [fmt64]
   unfold Ieee.Format.order
   rw [read_inf a ha h,decide_eq_false (by omega)]
   unfold Ieee.Datum.order
   dsimp only
   rw [Nat.compare_eq_eq.2 rfl]
   rfl
 · rw [fmt64]
   unfold Ieee.Format.order
   obtain⟨s,f,e⟩:=read_nan a h
   rw [e,decide_eq_true h]
   rfl
theorem isNaN_any (a:Nat) (w:World) (ha:a < 18446744073709551616):Calls Tryz.prog 145 #[.float .f64 a] w fun r w'=>r = .returned (.bool (nanB a))∧w=w':=by
 have h:=Lib.hid (order_nan a ha)
 go_enter Tryz.func145,Tryz.ntmps145
 go_wp2
 go_ret
 exact ⟨by rw [←h.out]; rfl,rfl⟩
theorem order_inf (a:Nat) (_ha:a < 18446744073709551616) (hn:nanB a=false):(FloatKind.f64.format.order (rung a) 9218868437227405311 == some Ordering.gt)=infB a:=by
 unfold nanB at hn
 rw [decide_eq_false_iff_not] at hn
 unfold infB
 by_cases h:rung a=9218868437227405312
 · rw [decide_eq_true h,h]; decide +kernel
 · obtain⟨p1,p2,_,_,p5⟩:=pos_facts (rung a) (by omega)
   rw [decide_eq_false h,order_gt _ _ p1 (by decide) p2 right_max]
   exact decide_eq_false (by have:=val_max (rung a) p2; omega)
theorem abs_rung (c:Nat) (w:World) (hc:c < 18446744073709551616) :
   Calls Tryz.prog 102 #[.float .f64 c] w fun r w'=>r = .returned (.float .f64 (rung c))∧w=w':=abs_any c w hc
theorem isInf0_any (a:Nat) (w:World) (ha:a < 18446744073709551616) (hn:nanB a=false):Calls Tryz.prog 129 #[.float .f64 a,.int .i64 0] w fun r w'=>r = .returned (.bool (infB a))∧w=w':=by
 have h:=Lib.hid (order_inf a ha hn)
 have c:=Lib.hid (fun w=>abs_rung a w ha)
 clear hn
 go_enter Tryz.func129,Tryz.ntmps129
 go_wp2_with fail
 refine (c.out _).mono ?_
 rintro r ww ⟨rfl,rfl⟩
 go_wp2
 go_ret
 exact ⟨by rw [←h.out]; rfl,rfl⟩
theorem signbit_any (a:Nat) (w:World) (ha:a < 18446744073709551616):Calls Tryz.prog 146 #[.float .f64 a] w fun r w'=>r = .returned (.bool (sgnB a))∧w=w':=by
 have h1:=run_bits
 have h2:decide (wrap64 (a:Int) < 0)=sgnB a:=by
   unfold sgnB wrap64
   by_cases g:9223372036854775808≤a
   · rw [decide_eq_true g]; exact decide_eq_true (by omega)
   · rw [decide_eq_false g]; exact decide_eq_false (by omega)
 have H:=Lib.hid h2
 clear h2
 go_enter Tryz.func146,Tryz.ntmps146
 go_wp2
 go_ret
 exact ⟨by rw [←H.out]; rfl,rfl⟩
theorem refRight_nan (a:Nat) (w:World) (c1:Hid (∀ w,Calls Tryz.prog 145 #[.float .f64 a] w fun r w'=>r = .returned (.bool true)∧w=w')) :
   Calls Tryz.prog 99 #[.float .f64 a] w fun r w'=>r = .returned (.bool false)∧w=w':=by
 go_enter Tryz.func99,Tryz.ntmps99
 go_wp2_with fail
 refine (c1.out _).mono ?_
 rintro r ww ⟨rfl,rfl⟩
 go_wp2
 go_ret
 exact ⟨rfl,rfl⟩
theorem refRight_inf (a:Nat) (w:World) (c1:Hid (∀ w,Calls Tryz.prog 145 #[.float .f64 a] w fun r w'=>r = .returned (.bool false)∧w=w'))
   (c2:Hid (∀ w,Calls Tryz.prog 129 #[.float .f64 a,.int .i64 0] w fun r w'=>r = .returned (.bool true)∧w=w')) :
   Calls Tryz.prog 99 #[.float .f64 a] w fun r w'=>r = .returned (.bool false)∧w=w':=by
 go_enter Tryz.func99,Tryz.ntmps99
 go_wp2_with fail
 refine (c1.out _).mono ?_
 rintro r ww ⟨rfl,rfl⟩
 go_wp2_with fail
 refine (c2.out _).mono ?_
 rintro r ww ⟨rfl,rfl⟩
 go_wp2
 go_ret
 exact ⟨rfl,rfl⟩
theorem refRight_num (a:Nat) (z s:Bool) (w:World) (c1:Hid (∀ w,Calls Tryz.prog 145 #[.float .f64 a] w fun r w'=>r = .returned (.bool false)∧w=w'))
   (c2:Hid (∀ w,Calls Tryz.prog 129 #[.float .f64 a,.int .i64 0] w fun r w'=>r = .returned (.bool false)∧w=w'))
   (o:(FloatKind.f64.format.order a 0 != some Ordering.eq)=z) (c3:Hid (∀ w,Calls Tryz.prog 146 #[.float .f64 a] w fun r w'=>r = .returned (.bool s)∧w=w')) :
   Calls Tryz.prog 99 #[.float .f64 a] w fun r w'=>r = .returned (.bool (z || !s))∧w=w':=by
 go_enter Tryz.func99,Tryz.ntmps99
 go_wp2_with fail
 refine (c1.out _).mono ?_
 rintro r ww ⟨rfl,rfl⟩
 go_wp2_with fail
 refine (c2.out _).mono ?_
 rintro r ww ⟨rfl,rfl⟩
 cases z
 · go_wp2_with fail
   refine (c3.out _).mono ?_
   rintro r ww ⟨rfl,rfl⟩
   go_wp2
   go_ret
   exact ⟨by cases s <;> rfl,rfl⟩
 · go_wp2
   go_ret
   exact ⟨by cases s <;> rfl,rfl⟩
theorem refRight_any (a:Nat) (w:World) (ha:a < 18446744073709551616) :
   Calls Tryz.prog 99 #[.float .f64 a] w fun r w'=>r = .returned (.bool (rightB a))∧w=w':=by
 have c1:=fun w=>isNaN_any a w ha
 cases hn:nanB a
 · rw [hn] at c1
   have c2:=fun w=>isInf0_any a w ha hn
   cases hi:infB a
   · rw [hi] at c2
     have hr:rung a < 9218868437227405312:=by
       unfold nanB at hn; unfold infB at hi
       rw [decide_eq_false_iff_not] at hn hi
       omega
     have c3:=fun w=>signbit_any a w ha
     have hz:(FloatKind.f64.format.order a 0 != some Ordering.eq)=!decide (rung a=0):=by
       rw [bne,order_val a 0 ha (by decide) hr (by decide),val_0]
       have hs:=steps_zero (rung a)
       by_cases h:rung a=0
       · have hv:val a=0:=by unfold val; rw [hs.2 h]; simp
         rw [hv,Int.compare_eq_eq.2 rfl,decide_eq_true h]; rfl
       · have h1:steps (rung a)≠0:=fun h'=>h (hs.1 h')
         rw [decide_eq_false h]
         rcases Int.lt_trichotomy (val a) 0 with g | g | g
         · rw [Int.compare_eq_lt.2 g]; rfl
         · exfalso; unfold val at g; split at g <;> omega
         · rw [Int.compare_eq_gt.2 g]; rfl
     have c:=refRight_num a _ _ w (Lib.hid c1) (Lib.hid c2) hz (Lib.hid c3)
     have e:(!decide (rung a=0) || !sgnB a)=rightB a:=by
       unfold rightB sgnB
       rw [decide_eq_true (show a % 9223372036854775808 < 9218868437227405312 from hr),Bool.true_and]
       unfold rung
       by_cases h:a=9223372036854775808
       · subst h; decide
       · rw [decide_eq_false h]
         by_cases h2:a % 9223372036854775808=0
         · rw [decide_eq_true h2,decide_eq_false (by omega)]; rfl
         · rw [decide_eq_false h2]; rfl
     rw [e] at c
     exact c
   · rw [hi] at c2
     have e:rightB a=false:=by
       unfold infB at hi
       rw [decide_eq_true_eq] at hi
       unfold rightB
       rw [decide_eq_false (show ¬ a % 9223372036854775808 < 9218868437227405312 by unfold rung at hi; omega)]; rfl
     rw [e]
     exact refRight_inf a w (Lib.hid c1) (Lib.hid c2)
 · rw [hn] at c1
   have e:rightB a=false:=by
     unfold nanB at hn
     rw [decide_eq_true_eq] at hn
     unfold rightB
     rw [decide_eq_false (show ¬ a % 9223372036854775808 < 9218868437227405312 by unfold rung at hn; omega)]; rfl
   rw [e]
   exact refRight_nan a w (Lib.hid c1)
end
section
open Go.RowKit
theorem Up.unique {s:Nat} {T:Int} {c c':Nat} {e e':Int} (h:Up s T c e) (h':Up s T c' e'):c=c'∧e=e':=by
 rcases h with ⟨a0,a1,a2,a3,a4⟩ | ⟨a0,a1,a2⟩
 · rcases h' with ⟨b0,b1,b2,b3,b4⟩ | ⟨b0,b1,b2⟩
   · exact ⟨val_inj a1 b1 a2 b2 (by have:=a4 _ b1 b2 b3; have:=b4 _ a1 a2 a3; omega),by omega⟩
   · have:=b2 c a1 a2; omega
 · rcases h' with ⟨b0,b1,b2,b3,b4⟩ | ⟨b0,b1,b2⟩
   · have:=a2 c' b1 b2; omega
   · exact ⟨by omega,by omega⟩
theorem Down.unique {s:Nat} {T:Int} {c c':Nat} {e e':Int} (h:Down s T c e) (h':Down s T c' e'):c=c'∧e=e':=by
 rcases h with ⟨a0,a1,a2,a3,a4⟩ | ⟨a0,a1,a2⟩
 · rcases h' with ⟨b0,b1,b2,b3,b4⟩ | ⟨b0,b1,b2⟩
   · exact ⟨val_inj a1 b1 a2 b2 (by have:=a4 _ b1 b2 b3; have:=b4 _ a1 a2 a3; omega),by omega⟩
   · have:=b2 c a1 a2; omega
 · rcases h' with ⟨b0,b1,b2,b3,b4⟩ | ⟨b0,b1,b2⟩
   · have:=a2 c' b1 b2; omega
   · exact ⟨by omega,by omega⟩
theorem word_cases (d:Nat) (hd:d < 18446744073709551616) (rd:rightB d=true):(d < 9218868437227405312∧val d=(steps d:Int))∨∃ r,d=9223372036854775808+r∧1≤r∧r < 9218868437227405312∧val d=-(steps r:Int):=by
 have hr:=right_rung d rd
 have hn:=right_ne d rd
 by_cases h:d < 9223372036854775808
 · left
   have h1:d < 9218868437227405312:=by unfold rung at hr; omega
   exact ⟨h1,(pos_facts d h1).2.2.2.2⟩
 · right
   have e:rung d=d - 9223372036854775808:=by unfold rung; omega
   refine ⟨d - 9223372036854775808,by omega,by omega,by omega,?_⟩
   unfold val
   have hs:sgnB d=true:=by unfold sgnB; exact decide_eq_true (by omega)
   rw [hs,e,if_pos rfl]
theorem neg_facts (r:Nat) (h1:1≤r) (h2:r < 9218868437227405312):9223372036854775808+r < 18446744073709551616∧rightB (9223372036854775808+r)=true∧val (9223372036854775808+r)=-(steps r:Int):=by
 obtain⟨f1,f2,f3⟩:=sw_facts true r (by omega)
 rw [sw_true r (by omega)] at f1 f2 f3
 exact ⟨f1,f2,f3⟩
def besideW (x:Nat) (up:Bool):Nat:=if x=0 then (if up then 1 else 9223372036854775809) else if up=decide (x < 9223372036854775808) then x+1 else x - 1
def stepW (x:Nat) (up:Bool):Nat:=if rung (besideW x up)=9218868437227405312 then 0 else if besideW x up=9223372036854775808 then 0 else besideW x up
def stepE (x:Nat) (up:Bool):Int:=if rung (besideW x up)=9218868437227405312 then 10 else 0
theorem up_step (x:Nat) (hx:x < 18446744073709551616) (rx:rightB x=true):Up 1 (val x+1) (stepW x true) (stepE x true):=by
 have e1:((1:Nat):Int)=1:=rfl
 rcases word_cases x hx rx with ⟨h1,hv⟩ | ⟨r,h0,h1,h2,hv⟩
 · have hb:besideW x true=x+1:=by
     unfold besideW
     by_cases h0:x=0
     · rw [if_pos h0,h0]; rfl
     · rw [if_neg h0,if_pos (decide_eq_true (by omega)).symm]
   have hr:rung (x+1)=x+1:=by unfold rung; omega
   unfold stepW stepE
   rw [hb,hr]
   by_cases hm:x+1=9218868437227405312
   · rw [if_pos hm,if_pos hm]
     refine Or.inr ⟨rfl,rfl,fun d hd rd=>?_⟩
     have h3:=val_max d rd
     have hx':x=9218868437227405311:=by omega
     rw [hx',e1]; omega
   · rw [if_neg hm,if_neg hm,if_neg (by omega)]
     obtain⟨p1,p2,_,_,p5⟩:=pos_facts (x+1) (by omega)
     have hlt:=steps_lt (show x < x+1 by omega)
     refine Or.inl ⟨rfl,p1,p2,by rw [p5,hv,e1]; omega,fun d hd rd hle=>?_⟩
     rw [p5]
     rw [hv,e1] at hle
     rcases word_cases d hd rd with ⟨g1,gv⟩ | ⟨r',_,_,_,gv⟩
     · rw [gv] at hle ⊢
       have:x+1≤d:=by
         rcases Nat.lt_or_ge x d with g | g
         · exact g
         · have:=steps_le g; omega
       exact Int.ofNat_le.2 (steps_le this)
     · rw [gv] at hle; omega
 · have hb:besideW x true=9223372036854775808+(r - 1):=by
     unfold besideW
     rw [if_neg (by omega),if_neg (by rw [decide_eq_false (by omega)]; simp)]
     omega
   have hr:rung (9223372036854775808+(r - 1))=r - 1:=by unfold rung; omega
   have hlt:=steps_lt (show r - 1 < r by omega)
   -- no number lies between
   have key:∀ d,d < 18446744073709551616→rightB d=true→val x+1≤val d*((1:Nat):Int) → -(steps (r - 1):Int)≤val d:=by
     intro d hd rd hle
     rw [hv,e1] at hle
     rcases word_cases d hd rd with ⟨g1,gv⟩ | ⟨r',_,_,_,gv⟩
     · rw [gv]; omega
     · rw [gv] at hle ⊢
       have:r'≤r - 1:=by
         rcases Nat.lt_or_ge r' r with g | g
         · omega
         · have:=steps_le g; omega
       have:=steps_le this
       omega
   unfold stepW stepE
   have hc:¬ r - 1=9218868437227405312:=by omega
   rw [hb,hr,if_neg hc,if_neg hc]
   by_cases h3:r=1
   · subst h3
     rw [if_pos rfl]
     have z1:steps (1 - 1)=0:=rfl
     exact Or.inl ⟨rfl,by decide,by decide,by rw [val_0,hv,e1]; omega,fun d hd rd hle=>by have:=key d hd rd hle; rw [val_0]; omega⟩
   · rw [if_neg (by omega)]
     obtain⟨p1,p2,p5⟩:=neg_facts (r - 1) (by omega) (by omega)
     exact Or.inl ⟨rfl,p1,p2,by rw [p5,hv,e1]; omega,fun d hd rd hle=>by rw [p5]; exact key d hd rd hle⟩
theorem down_step (x:Nat) (hx:x < 18446744073709551616) (rx:rightB x=true):Down 1 (val x + -1) (stepW x false) (stepE x false):=by
 have e1:((1:Nat):Int)=1:=rfl
 by_cases hz:x=0
 · subst hz
   have hb:besideW 0 false=9223372036854775809:=rfl
   have hr:rung 9223372036854775809=1:=rfl
   unfold stepW stepE
   rw [hb,hr,if_neg (by decide),if_neg (by decide),if_neg (by decide)]
   obtain⟨p1,p2,p5⟩:=neg_facts 1 (by decide) (by decide)
   have s1:steps 1=1:=rfl
   have p5':val 9223372036854775809=-1:=by rw [show (9223372036854775809:Nat)=9223372036854775808+1 by decide,p5,s1]; rfl
   exact Or.inl ⟨rfl,by decide,by decide,by rw [p5',val_0,e1]; omega,fun d hd rd hle=>by rw [val_0,e1] at hle; rw [p5']; omega⟩
 · rcases word_cases x hx rx with ⟨h1,hv⟩ | ⟨r,h0,h1,h2,hv⟩
   · have hb:besideW x false=x - 1:=by
       unfold besideW
       rw [if_neg hz,if_neg (by rw [decide_eq_true (by omega)]; simp)]
     have hr:rung (x - 1)=x - 1:=by unfold rung; omega
     have hlt:=steps_lt (show x - 1 < x by omega)
     obtain⟨p1,p2,_,_,p5⟩:=pos_facts (x - 1) (by omega)
     unfold stepW stepE
     rw [hb,hr,if_neg (by omega),if_neg (by omega),if_neg (by omega)]
     refine Or.inl ⟨rfl,p1,p2,by rw [p5,hv,e1]; omega,fun d hd rd hle=>?_⟩
     rw [p5]
     rw [hv,e1] at hle
     rcases word_cases d hd rd with ⟨g1,gv⟩ | ⟨r',_,_,_,gv⟩
     · rw [gv] at hle ⊢
       have:d≤x - 1:=by
         rcases Nat.lt_or_ge d x with g | g
         · omega
         · have:=steps_le g; omega
       exact Int.ofNat_le.2 (steps_le this)
     · rw [gv]; omega
   · have hb:besideW x false=9223372036854775808+(r+1):=by
       unfold besideW
       rw [if_neg hz,if_pos (by rw [decide_eq_false (by omega)])]
       omega
     have hr:rung (9223372036854775808+(r+1))=r+1:=by unfold rung; omega
     have hlt:=steps_lt (show r < r+1 by omega)
     unfold stepW stepE
     rw [hb,hr]
     by_cases hm:r+1=9218868437227405312
     · rw [if_pos hm,if_pos hm]
       refine Or.inr ⟨rfl,rfl,fun d hd rd=>?_⟩
       have h3:=val_min d hd rd
       have hx':x=18442240474082181119:=by omega
       rw [hx',e1]; omega
     · rw [if_neg hm,if_neg hm,if_neg (by omega)]
       obtain⟨p1,p2,p5⟩:=neg_facts (r+1) (by omega) (by omega)
       refine Or.inl ⟨rfl,p1,p2,by rw [p5,hv,e1]; omega,fun d hd rd hle=>?_⟩
       rw [p5]
       rw [hv,e1] at hle
       rcases word_cases d hd rd with ⟨g1,gv⟩ | ⟨r',_,_,_,gv⟩
       · rw [gv] at hle; omega
       · rw [gv] at hle ⊢
         have:r+1≤r':=by
           rcases Nat.lt_or_ge r r' with g | g
           · exact g
           · have:=steps_le g; omega
         have:=steps_le this
         omega
theorem step_dir (x:Nat) (hx:x < 18446744073709551616) (rx:rightB x=true) (up:Bool):stepW x up=addW x (tinyW up) up∧stepE x up=addE x (tinyW up) up:=by
 cases up
 · have h:=add_down x 9223372036854775809 rx right_m1
   rw [val_m1] at h
   exact (down_step x hx rx).unique h
 · have h:=add_up x 1 rx right_1
   rw [val_1] at h
   exact (up_step x hx rx).unique h
theorem order_top (x:Nat) (hx:x < 18446744073709551616) (rx:rightB x=true) (up:Bool) :
   FloatKind.f64.format.order x (if up then 9218868437227405312 else 18442240474082181120)=some (if up then Ordering.lt else Ordering.gt)∧FloatKind.f64.format.order (if up then 9218868437227405312 else 18442240474082181120) x=some (if up then Ordering.gt else Ordering.lt):=by
 rw [fmt64]
 unfold Ieee.Format.order
 rw [read_num x hx (right_rung x rx)]
 have i1:Ieee.double.read 9218868437227405312 = .infinity false:=by decide +kernel
 have i2:Ieee.double.read 18442240474082181120 = .infinity true:=by decide +kernel
 cases up
 · rw [if_neg Bool.false_ne_true,if_neg Bool.false_ne_true,if_neg Bool.false_ne_true,i2]
   exact ⟨rfl,rfl⟩
 · rw [if_pos rfl,if_pos rfl,if_pos rfl,i1]
   exact ⟨rfl,rfl⟩
theorem copysign_lit (y r:Nat) (w:World) (h:∃ s:Int,bits .and .u64 (y:Int) 9223372036854775808=s∧bits .or .u64 1 s=r) :
   Calls Tryz.prog 171 #[.float .f64 1,.float .f64 y] w fun e w'=>e = .returned (.float .f64 r)∧w=w':=by
 obtain⟨s,h1,h2⟩:=h
 have h3:bits .andNot .u64 1 9223372036854775808=1:=by decide +kernel
 have b1:=run_bits
 have b2:=run_frombits
 go_enter Tryz.func171,Tryz.ntmps171
 go_wp2
 go_ret
 exact ⟨rfl,rfl⟩
theorem nextafter_zero (y r:Nat) (w:World) (c1:Hid (∀ w,Calls Tryz.prog 145 #[.float .f64 0] w fun r w'=>r = .returned (.bool false)∧w=w')) (c2:Hid (∀ w,Calls Tryz.prog 145 #[.float .f64 y] w fun r w'=>r = .returned (.bool false)∧w=w'))
   (o1:(FloatKind.f64.format.order 0 y == some Ordering.eq)=false) (o2:(FloatKind.f64.format.order 0 0 == some Ordering.eq)=true)
   (c3:Hid (∀ w,Calls Tryz.prog 171 #[.float .f64 1,.float .f64 y] w fun e w'=>e = .returned (.float .f64 r)∧w=w')) :
   Calls Tryz.prog 127 #[.float .f64 0,.float .f64 y] w fun e w'=>e = .returned (.float .f64 r)∧w=w':=by
 have b2:=run_frombits
 go_enter Tryz.func127,Tryz.ntmps127
 go_wp2_with fail
 refine (c1.out _).mono ?_
 rintro r ww ⟨rfl,rfl⟩
 go_wp2_with fail
 refine (c2.out _).mono ?_
 rintro r ww ⟨rfl,rfl⟩
 go_wp2_with fail
 refine (c3.out _).mono ?_
 rintro r ww ⟨rfl,rfl⟩
 go_wp2
 go_ret
 exact ⟨rfl,rfl⟩
theorem nextafter_walk (x y up' dn:Nat) (g p:Bool) (w:World) (c1:Hid (∀ w,Calls Tryz.prog 145 #[.float .f64 x] w fun r w'=>r = .returned (.bool false)∧w=w')) (c2:Hid (∀ w,Calls Tryz.prog 145 #[.float .f64 y] w fun r w'=>r = .returned (.bool false)∧w=w'))
   (o1:(FloatKind.f64.format.order x y == some Ordering.eq)=false) (o2:(FloatKind.f64.format.order x 0 == some Ordering.eq)=false)
   (o3:(FloatKind.f64.format.order y x == some Ordering.gt)=g) (o4:(FloatKind.f64.format.order x 0 == some Ordering.gt)=p)
   (u1:IntKind.u64.wrap ((x:Int)+1)=(up':Int)) (u2:IntKind.u64.wrap ((x:Int) - 1)=(dn:Int)) :
   Calls Tryz.prog 127 #[.float .f64 x,.float .f64 y] w fun e w'=>e = .returned (.float .f64 (if g=p then up' else dn))∧w=w':=by
 have b1:=run_bits
 have b2:=run_frombits
 have t1:(up':Int).toNat=up':=Int.toNat_natCast _
 have t2:(dn:Int).toNat=dn:=Int.toNat_natCast _
 go_enter Tryz.func127,Tryz.ntmps127
 go_wp2_with fail
 refine (c1.out _).mono ?_
 rintro r ww ⟨rfl,rfl⟩
 go_wp2_with fail
 refine (c2.out _).mono ?_
 rintro r ww ⟨rfl,rfl⟩
 cases g <;> cases p
 all_goals
   go_wp2
   go_ret
   exact ⟨rfl,rfl⟩
end
section
open Go.RowKit
def plainW (c:Nat):Nat:=if rung c=0 then 0 else c
theorem order_zero_any (c:Nat) (hc:c < 18446744073709551616) (h:rung c < 9218868437227405312):(FloatKind.f64.format.order c 0 == some Ordering.eq)=decide (rung c=0):=by
 rw [order_val c 0 hc (by decide) h (by decide),val_0]
 have hs:=steps_zero (rung c)
 by_cases h:rung c=0
 · have hv:val c=0:=by unfold val; rw [hs.2 h]; simp
   rw [hv,Int.compare_eq_eq.2 rfl,decide_eq_true h]; rfl
 · have h1:steps (rung c)≠0:=fun h'=>h (hs.1 h')
   rw [decide_eq_false h]
   rcases Int.lt_trichotomy (val c) 0 with g | g | g
   · rw [Int.compare_eq_lt.2 g]; rfl
   · exfalso; unfold val at g; split at g <;> omega
   · rw [Int.compare_eq_gt.2 g]; rfl
theorem plain_any (c:Nat) (w:World) (hc:c < 18446744073709551616) (h:rung c < 9218868437227405312) :
   Calls Tryz.prog 130 #[.float .f64 c] w fun e w'=>e = .returned (.float .f64 (plainW c))∧w=w':=by
 have o:=order_zero_any c hc h
 cases hz:decide (rung c=0)
 · have e:plainW c=c:=if_neg (by rw [decide_eq_false_iff_not] at hz; exact hz)
   rw [hz] at o
   rw [e]
   clear e hz
   go_enter Tryz.func130,Tryz.ntmps130
   go_wp2
   go_ret
   exact ⟨rfl,rfl⟩
 · have e:plainW c=0:=if_pos (by rw [decide_eq_true_eq] at hz; exact hz)
   rw [hz] at o
   rw [e]
   clear e hz
   go_enter Tryz.func130,Tryz.ntmps130
   go_wp2
   go_ret
   exact ⟨rfl,rfl⟩
def infW (up:Bool):Nat:=if up then 9218868437227405312 else 18442240474082181120
theorem inf_up (w:World):Calls Tryz.prog 128 #[.int .i64 1] w fun e w'=>e = .returned (.float .f64 9218868437227405312)∧w=w':=by
 have b2:=run_frombits
 go_enter Tryz.func128,Tryz.ntmps128
 go_wp2
 go_ret
 exact ⟨rfl,rfl⟩
theorem inf_down (w:World):Calls Tryz.prog 128 #[.int .i64 (-1)] w fun e w'=>e = .returned (.float .f64 18442240474082181120)∧w=w':=by
 have b2:=run_frombits
 go_enter Tryz.func128,Tryz.ntmps128
 go_wp2
 go_ret
 exact ⟨rfl,rfl⟩
theorem nextafter_any (x:Nat) (up:Bool) (w:World) (hx:x < 18446744073709551616) (rx:rightB x=true) :
   Calls Tryz.prog 127 #[.float .f64 x,.float .f64 (infW up)] w fun e w'=>e = .returned (.float .f64 (besideW x up))∧w=w':=by
 have hr:=right_rung x rx
 have hn:=right_ne x rx
 have c1:=fun w=>isNaN_any x w hx
 rw [show nanB x=false from decide_eq_false (by omega)] at c1
 have hy:infW up < 18446744073709551616:=by cases up <;> decide
 have c2:=fun w=>isNaN_any (infW up) w hy
 rw [show nanB (infW up)=false by cases up <;> decide] at c2
 have ot:=order_top x hx rx up
 have o1:(FloatKind.f64.format.order x (infW up) == some Ordering.eq)=false:=by
   show (FloatKind.f64.format.order x (if up then 9218868437227405312 else 18442240474082181120) == some Ordering.eq)=false
   rw [ot.1]; cases up <;> rfl
 by_cases hz:x=0
 · subst hz
   have hb:besideW 0 up=if up then 1 else 9223372036854775809:=if_pos rfl
   rw [hb]
   exact nextafter_zero (infW up) _ w (Lib.hid c1) (Lib.hid c2) o1 (by decide +kernel) (Lib.hid fun w=>copysign_lit (infW up) _ w (by cases up <;> exact ⟨_,rfl,by decide +kernel⟩))
 · have o3:(FloatKind.f64.format.order (infW up) x == some Ordering.gt)=up:=by
     show (FloatKind.f64.format.order (if up then 9218868437227405312 else 18442240474082181120) x == some Ordering.gt)=up
     rw [ot.2]; cases up <;> rfl
   have o2:(FloatKind.f64.format.order x 0 == some Ordering.eq)=false:=by rw [order_zero x hx rx]; exact decide_eq_false hz
   have o4:(FloatKind.f64.format.order x 0 == some Ordering.gt)=decide (x < 9223372036854775808):=by
     rw [order_gt x 0 hx (by decide) rx right_0,val_0]
     rcases word_cases x hx rx with ⟨h1,hv⟩ | ⟨r,h0,h1,h2,hv⟩
     · have h3:steps x≠0:=fun h'=>hz ((steps_zero x).1 h')
       rw [hv,decide_eq_true (by omega:(0:Int) < (steps x:Int)),decide_eq_true (by omega)]
     · rw [hv,decide_eq_false (by omega),decide_eq_false (by omega)]
   have u1:IntKind.u64.wrap ((x:Int)+1)=((x+1:Nat):Int):=by rw [IntKind.wrap_u64]; unfold rung at hr; omega
   have u2:IntKind.u64.wrap ((x:Int) - 1)=((x - 1:Nat):Int):=by rw [IntKind.wrap_u64]; omega
   have c:=nextafter_walk x (infW up) (x+1) (x - 1) up _ w (Lib.hid c1) (Lib.hid c2) o1 o2 o3 o4 u1 u2
   have hb:besideW x up=if up=decide (x < 9223372036854775808) then x+1 else x - 1:=if_neg hz
   rw [hb]
   exact c
theorem beside_in (x:Nat) (up:Bool) (hx:x < 18446744073709551616) (rx:rightB x=true):besideW x up < 18446744073709551616∧rung (besideW x up)≤9218868437227405312:=by
 have hr:=right_rung x rx
 have hn:=right_ne x rx
 unfold besideW
 unfold rung at *
 by_cases hz:x=0
 · rw [if_pos hz]; cases up <;> decide
 · rw [if_neg hz]
   by_cases h:x < 9223372036854775808
   · rw [decide_eq_true h]; cases up
     · rw [if_neg Bool.false_ne_true]; omega
     · rw [if_pos rfl]; omega
   · rw [decide_eq_false h]; cases up
     · rw [if_pos rfl]; omega
     · rw [if_neg (by simp)]; omega
theorem refNext_walk (x b v:Nat) (up i:Bool) (e:Int) (w:World) (cR:Hid (∀ w,Calls Tryz.prog 99 #[.float .f64 x] w fun r w'=>r = .returned (.bool true)∧w=w'))
   (cN:Hid (∀ w,Calls Tryz.prog 127 #[.float .f64 x,.float .f64 (infW up)] w fun r w'=>r = .returned (.float .f64 b)∧w=w'))
   (cI:Hid (∀ w,Calls Tryz.prog 129 #[.float .f64 b,.int .i64 0] w fun r w'=>r = .returned (.bool i)∧w=w'))
   (cP:Hid (i=false→∀ w,Calls Tryz.prog 130 #[.float .f64 b] w fun r w'=>r = .returned (.float .f64 v)∧w=w'))
   (h:Hid (i=true→v=0∧e=10)) (h':Hid (i=false→e=0)) :
   Calls Tryz.prog 84 #[.float .f64 x,.bool up] w fun r w'=>r = .returned (.tuple #[.float .f64 v,.int .i64 e])∧w=w':=by
 cases up
 · have iw:infW false=18442240474082181120:=rfl
   rw [iw] at cN
   go_enter Tryz.func84,Tryz.ntmps84
   go_wp2_with fail
   refine (cR.out _).mono ?_
   rintro r ww ⟨rfl,rfl⟩
   go_wp2_with fail
   refine (inf_down _).mono ?_
   rintro r ww ⟨rfl,rfl⟩
   go_wp2_with fail
   refine (cN.out _).mono ?_
   rintro r ww ⟨rfl,rfl⟩
   go_wp2_with fail
   refine (cI.out _).mono ?_
   rintro r ww ⟨rfl,rfl⟩
   cases i
   · obtain rfl:=h'.out (by simp)
     go_wp2_with fail
     refine (cP.out (by simp) _).mono ?_
     rintro r ww ⟨rfl,rfl⟩
     go_wp2
     go_ret2
     exact ⟨rfl,rfl⟩
   · obtain⟨rfl,rfl⟩:=h.out (by simp)
     go_wp2
     go_ret2
     exact ⟨rfl,rfl⟩
 · have iw:infW true=9218868437227405312:=rfl
   rw [iw] at cN
   go_enter Tryz.func84,Tryz.ntmps84
   go_wp2_with fail
   refine (cR.out _).mono ?_
   rintro r ww ⟨rfl,rfl⟩
   go_wp2_with fail
   refine (inf_up _).mono ?_
   rintro r ww ⟨rfl,rfl⟩
   go_wp2_with fail
   refine (cN.out _).mono ?_
   rintro r ww ⟨rfl,rfl⟩
   go_wp2_with fail
   refine (cI.out _).mono ?_
   rintro r ww ⟨rfl,rfl⟩
   cases i
   · obtain rfl:=h'.out (by simp)
     go_wp2_with fail
     refine (cP.out (by simp) _).mono ?_
     rintro r ww ⟨rfl,rfl⟩
     go_wp2
     go_ret2
     exact ⟨rfl,rfl⟩
   · obtain⟨rfl,rfl⟩:=h.out (by simp)
     go_wp2
     go_ret2
     exact ⟨rfl,rfl⟩
theorem refNext_wrong (x:Nat) (up:Bool) (w:World) (cR:Hid (∀ w,Calls Tryz.prog 99 #[.float .f64 x] w fun r w'=>r = .returned (.bool false)∧w=w')) :
   Calls Tryz.prog 84 #[.float .f64 x,.bool up] w fun r w'=>r = .returned (.tuple #[.float .f64 0,.int .i64 13])∧w=w':=by
 go_enter Tryz.func84,Tryz.ntmps84
 go_wp2_with fail
 refine (cR.out _).mono ?_
 rintro r ww ⟨rfl,rfl⟩
 go_wp2
 go_ret2
 exact ⟨rfl,rfl⟩
theorem refNext_any (x:Nat) (up:Bool) (w:World) (hx:x < 18446744073709551616) :
   Calls Tryz.prog 84 #[.float .f64 x,.bool up] w fun r w'=>r = .returned (.tuple #[.float .f64 (addW x (tinyW up) up),.int .i64 (addE x (tinyW up) up)])∧w=w':=by
 have cR:=fun w=>refRight_any x w hx
 cases rx:rightB x
 · rw [rx] at cR
   have e1:addW x (tinyW up) up=0:=if_neg (by rw [rx]; exact Bool.false_ne_true)
   have e2:addE x (tinyW up) up=13:=if_neg (by rw [rx]; exact Bool.false_ne_true)
   rw [e1,e2]
   exact refNext_wrong x up w (Lib.hid cR)
 · rw [rx] at cR
   obtain⟨b1,b2⟩:=beside_in x up hx rx
   obtain⟨s1,s2⟩:=step_dir x hx rx up
   rw [←s1,←s2]
   have hn:nanB (besideW x up)=false:=decide_eq_false (by omega)
   refine refNext_walk x (besideW x up) _ up _ _ w (Lib.hid cR) (Lib.hid fun w=>nextafter_any x up w hx rx) (Lib.hid fun w=>isInf0_any _ w b1 hn) (Lib.hid ?_) (Lib.hid ?_) (Lib.hid ?_)
   · intro hi w
     unfold infB at hi
     rw [decide_eq_false_iff_not] at hi
     have e:stepW x up=plainW (besideW x up):=by
       unfold stepW plainW
       rw [if_neg hi]
       unfold rung at hi b2 ⊢
       by_cases h:besideW x up=9223372036854775808
       · rw [if_pos h,h]; rfl
       · rw [if_neg h]
         by_cases h2:besideW x up % 9223372036854775808=0
         · rw [if_pos h2]; omega
         · rw [if_neg h2]
     rw [e]
     exact plain_any _ w b1 (by omega)
   · intro hi
     unfold infB at hi
     rw [decide_eq_true_eq] at hi
     exact ⟨if_pos hi,if_pos hi⟩
   · intro hi
     unfold infB at hi
     rw [decide_eq_false_iff_not] at hi
     exact if_neg hi
end
section
open Go.RowKit
theorem cut_near (neg:Bool) (n drop:Nat):(Ieee.Toward.even.cut neg n drop=n / 2 ^ drop∧2*(n % 2 ^ drop)≤2 ^ drop)∨(Ieee.Toward.even.cut neg n drop=n / 2 ^ drop+1∧2 ^ drop≤2*(n % 2 ^ drop)):=by
 unfold Ieee.Toward.cut
 simp only [Nat.shiftLeft_eq,Nat.one_mul]
 by_cases h:drop≤n.log2+2
 · rw [Nat.min_eq_left h]
   cases hc:(decide (2 ^ drop < 2*(n % 2 ^ drop)) || (2 ^ drop == 2*(n % 2 ^ drop)&&n / 2 ^ drop % 2 == 1))
   · left
     rw [Bool.or_eq_false_iff] at hc
     have:=of_decide_eq_false hc.1
     exact ⟨rfl,by omega⟩
   · right
     refine ⟨rfl,?_⟩
     rw [Bool.or_eq_true,Bool.and_eq_true] at hc
     rcases hc with hc | ⟨hc,_⟩
     · have:=of_decide_eq_true hc; omega
     · have:=eq_of_beq hc; omega
 · rw [Nat.min_eq_right (by omega)]
   have h1:n < 2 ^ (n.log2+1):=Nat.lt_log2_self
   have e:2 ^ (n.log2+2)=2 ^ (n.log2+1)*2:=Nat.pow_succ ..
   have h2:n < 2 ^ (n.log2+2):=by omega
   have h4:2 ^ (n.log2+2)≤2 ^ drop:=Nat.pow_le_pow_right (by decide) (by omega)
   have h3:n < 2 ^ drop:=Nat.lt_of_lt_of_le h2 h4
   left
   rw [Nat.div_eq_of_lt h2,Nat.mod_eq_of_lt h2,Nat.div_eq_of_lt h3,Nat.mod_eq_of_lt h3]
   have hc:(decide (2 ^ (n.log2+2) < 2*n) || (2 ^ (n.log2+2) == 2*n&&0 % 2 == 1))=false:=by
     rw [decide_eq_false (by omega)]
     simp
   rw [hc]
   exact ⟨rfl,by omega⟩
theorem near_core (S:Nat→Nat) (hS:∀ i j,i < j→S i < S j) (I F U V rl c:Nat) (q1:S I=F) (q2:S (I+1)=F+U) (q3:rl=F+V) (hV:V < U) (hc:c=I∧2*V≤U∨c=I+1∧U≤2*V) :
   (∀ r,S r≤rl→r≤c)∧(∀ r,rl≤S r→c≤r)∧∀ r,((rl:Nat) - (S c:Nat):Int).natAbs≤((rl:Nat) - (S r:Nat):Int).natAbs:=by
 have le:∀ i j,i≤j→S i≤S j:=fun i j h=>by
   rcases Nat.lt_or_ge i j with g | g
   · exact Nat.le_of_lt (hS i j g)
   · rw [show i=j by omega]; exact Nat.le_refl _
 have lo:∀ r,r≤I→S r≤F:=fun r h=>by have:=le r I h; omega
 have hi:∀ r,I < r→F+U≤S r:=fun r h=>by have:=le (I+1) r h; omega
 have lo':∀ r,r < I→S r < F:=fun r h=>by have:=hS r I h; omega
 rcases hc with ⟨rfl,h2⟩ | ⟨rfl,h2⟩
 · refine ⟨fun r h=>?_,fun r h=>?_,fun r=>?_⟩
   · rcases Nat.lt_or_ge c r with g | g
     · have:=hi r g; omega
     · exact g
   · rcases Nat.lt_or_ge r c with g | g
     · have:=lo' r g; omega
     · exact g
   · rcases Nat.lt_or_ge c r with g | g
     · have:=hi r g; omega
     · have:=lo r g; omega
 · refine ⟨fun r h=>?_,fun r h=>?_,fun r=>?_⟩
   · rcases Nat.lt_or_ge (I+1) r with g | g
     · have:=hi r (by omega); have:=hS (I+1) r g; omega
     · exact g
   · rcases Nat.lt_or_ge I r with g | g
     · exact g
     · have:=lo r g; omega
   · rcases Nat.lt_or_ge I r with g | g
     · have:=hi r g; omega
     · have:=lo r g; omega
theorem near_best (neg:Bool) (mag:Nat) (place:Int) (h0:mag≠0) (hp:-6000≤place) :
   ∃ R,Ieee.double.nearest neg mag place=Ieee.double.word neg (min R 9218868437227405312)∧(∀ r,steps r*2 ^ sc≤real mag place→r≤R)∧(∀ r,real mag place≤steps r*2 ^ sc→R≤r) ∧
     ∀ r,((real mag place:Nat) - (steps R*2 ^ sc:Nat):Int).natAbs≤((real mag place:Nat) - (steps r*2 ^ sc:Nat):Int).natAbs:=by
 have hs:=sc_eq
 have l1:2 ^ mag.log2≤mag:=Nat.log2_self_le h0
 have l2:mag < 2 ^ (mag.log2+1):=Nat.lt_log2_self
 obtain⟨last,hlast⟩:∃ last:Int,last=max (place+mag.log2 - 52) (-1074):=⟨_,rfl⟩
 have hR:Ieee.double.nearest neg mag place=Ieee.double.word neg (min ((last+1074).toNat*4503599627370496+Ieee.Toward.even.cut neg (mag*2 ^ (place - last).toNat) (last - place).toNat) 9218868437227405312):=by
   unfold Ieee.Format.nearest
   rw [if_neg h0,bin64,inf64,lp64]
   have e1:(max (place+(mag.log2:Int) - ((Ieee.double.fractionBits:Nat):Int)) (-1074))=last:=by rw [hlast]; rfl
   simp only [e1,Nat.shiftLeft_eq]
   have e2 : (last - -1074).toNat = (last + 1074).toNat := by omega
   rw [e2]
 refine ⟨_,hR,?_⟩
 have hc:=cut_near neg (mag*2 ^ (place - last).toNat) (last - place).toNat
 obtain⟨low,hlow⟩:∃ low,low=mag*2 ^ (place - last).toNat / 2 ^ (last - place).toNat:=⟨_,rfl⟩
 obtain⟨rem,hrem⟩:∃ rem,rem=mag*2 ^ (place - last).toNat % 2 ^ (last - place).toNat:=⟨_,rfl⟩
 have hd:0 < 2 ^ (last - place).toNat:=Nat.two_pow_pos _
 have hpp:0 < 2 ^ (place+1074+(sc:Int) - (place - last).toNat).toNat:=Nat.two_pow_pos _
 have hdm:mag*2 ^ (place - last).toNat=low*2 ^ (last - place).toNat+rem:=by
   have:=Nat.div_add_mod (mag*2 ^ (place - last).toNat) (2 ^ (last - place).toNat)
   rw [←hlow,←hrem,Nat.mul_comm] at this; exact this.symm
 have hrl:rem < 2 ^ (last - place).toNat:=by rw [hrem]; exact Nat.mod_lt _ hd
 have eK:∀ M,M*2 ^ (last+1074).toNat*2 ^ sc=M*2 ^ (last - place).toNat*2 ^ (place+1074+(sc:Int) - (place - last).toNat).toNat:=by
   intro M
   rw [Nat.mul_assoc,Nat.mul_assoc,←Nat.pow_add,←Nat.pow_add]
   congr 2; omega
 have eR:real mag place=mag*2 ^ (place - last).toNat*2 ^ (place+1074+(sc:Int) - (place - last).toNat).toNat:=by
   unfold real
   rw [Nat.mul_assoc,←Nat.pow_add]
   congr 2; omega
 have hnorm:low < 9007199254740992∧((last+1074).toNat=0∨4503599627370496≤low):=by
   have e53:(9007199254740992:Nat)=2 ^ 53:=by decide
   have e52:(4503599627370496:Nat)=2 ^ 52:=by decide
   constructor
   · rw [hlow,Nat.div_lt_iff_lt_mul hd,e53,←Nat.pow_add]
     have:mag*2 ^ (place - last).toNat < 2 ^ (mag.log2+1)*2 ^ (place - last).toNat:=Nat.mul_lt_mul_of_pos_right l2 (Nat.two_pow_pos _)
     rw [←Nat.pow_add] at this
     exact Nat.lt_of_lt_of_le this (Nat.pow_le_pow_right (by decide) (by omega))
   · by_cases c:last=-1074
     · left; omega
     · right
       rw [hlow,Nat.le_div_iff_mul_le hd,e52,←Nat.pow_add]
       have:2 ^ mag.log2*2 ^ (place - last).toNat≤mag*2 ^ (place - last).toNat:=Nat.mul_le_mul_right _ l1
       rw [←Nat.pow_add] at this
       exact Nat.le_trans (Nat.pow_le_pow_right (by decide) (by omega)) this
 have s1:=steps_km (last+1074).toNat low (by omega) hnorm.2
 have s2:=steps_km (last+1074).toNat (low+1) (by omega) (by omega)
 rw [←hlow,←hrem] at hc
 -- in small letters
 have q1:steps ((last+1074).toNat*4503599627370496+low)*2 ^ sc=low*2 ^ (last - place).toNat*2 ^ (place+1074+(sc:Int) - (place - last).toNat).toNat:=by rw [s1,eK]
 have q2:steps ((last+1074).toNat*4503599627370496+low+1)*2 ^ sc=low*2 ^ (last - place).toNat*2 ^ (place+1074+(sc:Int) - (place - last).toNat).toNat+2 ^ (last - place).toNat*2 ^ (place+1074+(sc:Int) - (place - last).toNat).toNat:=by
   rw [Nat.add_assoc,s2,eK,Nat.add_mul,Nat.add_mul,Nat.one_mul]
 have q3:real mag place=low*2 ^ (last - place).toNat*2 ^ (place+1074+(sc:Int) - (place - last).toNat).toNat+rem*2 ^ (place+1074+(sc:Int) - (place - last).toNat).toNat:=by
   rw [eR,hdm,Nat.add_mul]
 have hsc:0 < 2 ^ sc:=Nat.two_pow_pos _
 have r1:rem*2 ^ (place+1074+(sc:Int) - (place - last).toNat).toNat < 2 ^ (last - place).toNat*2 ^ (place+1074+(sc:Int) - (place - last).toNat).toNat:=Nat.mul_lt_mul_of_pos_right hrl hpp
 exact near_core (fun r=>steps r*2 ^ sc) (fun i j h=>Nat.mul_lt_mul_of_pos_right (steps_lt h) hsc) _ _ _ _ _ _ q1 q2 q3 r1 (by
   rcases hc with ⟨hc,hh⟩ | ⟨hc,hh⟩
   · left
     refine ⟨by rw [hc],?_⟩
     rw [←Nat.mul_assoc]; exact Nat.mul_le_mul_right _ hh
   · right
     refine ⟨by rw [hc,Nat.add_assoc],?_⟩
     rw [←Nat.mul_assoc]; exact Nat.mul_le_mul_right _ hh)
def Rep (v:Int):Prop:=∃ r,v.natAbs=steps r
structure Best (T x:Int):Prop where
 rep:Rep x
 best:∀ v,Rep v→(T - x).natAbs≤(T - v).natAbs
theorem steps_nil:steps 0=0:=by decide
theorem rep_neg {v:Int} (h:Rep v):Rep (-v):=by
 obtain⟨r,h⟩:=h
 exact ⟨r,by omega⟩
theorem rep_zero:Rep 0:=⟨0,by decide⟩
theorem rep_nat:∀ (K M:Nat),M≤9007199254740992→∃ r,M*2 ^ K=steps r
 | 0,M,h=>⟨0*4503599627370496+M,(steps_km 0 M h (Or.inl rfl)).symm⟩
 | K+1,M,h=>by
   rcases Nat.lt_or_ge M 4503599627370496 with g | g
   · obtain⟨r,hr⟩:=rep_nat K (2*M) (by omega)
     refine ⟨r,?_⟩
     rw [←hr,Nat.pow_succ,Nat.mul_comm (2 ^ K) 2,←Nat.mul_assoc,Nat.mul_comm M 2]
   · exact ⟨_,(steps_km (K+1) M h (Or.inr g)).symm⟩
theorem rep_mk (m:Int) (K:Nat) (h:m.natAbs≤9007199254740992):Rep (m*((2 ^ K:Nat):Int)):=by
 obtain⟨r,hr⟩:=rep_nat K m.natAbs h
 exact ⟨r,by rw [Int.natAbs_mul,Int.natAbs_natCast]; exact hr⟩
theorem steps_parts2 (r:Nat):∃ M K,steps r=M*2 ^ K∧M < 9007199254740992∧(K=0∨4503599627370496≤M):=by
 unfold steps
 split
 · exact ⟨r,0,by omega,by omega,Or.inl rfl⟩
 · exact ⟨_,_,rfl,by omega,Or.inr (by omega)⟩
theorem rep_parts {v:Int} (h:Rep v):∃ (m:Int) (K:Nat),v=m*((2 ^ K:Nat):Int)∧m.natAbs < 9007199254740992∧(K=0∨4503599627370496≤m.natAbs):=by
 obtain⟨r,hr⟩:=h
 obtain⟨M,K,e,h1,h2⟩:=steps_parts2 r
 rcases Int.natAbs_eq v with g | g
 · exact ⟨(M:Int),K,by rw [g,hr,e,Int.natCast_mul],by omega,by omega⟩
 · exact ⟨-(M:Int),K,by rw [g,hr,e,Int.natCast_mul,Int.neg_mul],by omega,by omega⟩
theorem best_of (neg:Bool) (Tm R:Nat) (h:∀ r,((Tm:Int) - (steps R:Int)).natAbs≤((Tm:Int) - (steps r:Int)).natAbs):Best (sg neg Tm) (sg neg (steps R)):=by
 have h0:=h 0
 rw [steps_nil] at h0
 cases neg
 · refine ⟨⟨R,by show ((steps R:Int)).natAbs=_; omega⟩,fun v hv=>?_⟩
   obtain⟨r,hr⟩:=hv
   have h1:=h r
   show ((Tm:Int) - (steps R:Int)).natAbs≤((Tm:Int) - v).natAbs
   omega
 · refine ⟨⟨R,by show (-(steps R:Int)).natAbs=_; omega⟩,fun v hv=>?_⟩
   obtain⟨r,hr⟩:=hv
   have h1:=h r
   show (-(Tm : Int) - -(steps R : Int)).natAbs ≤ (-(Tm : Int) - v).natAbs
   omega
theorem Best.exact {T s:Int} (h:Best T s) (hT:Rep T):s=T:=by
 have:=h.best T hT
 omega
theorem Best.le {T s v:Int} (h:Best T s) (hv:Rep v) (hT:T.natAbs≤v.natAbs):s.natAbs≤v.natAbs:=by
 have h1:=h.best v hv
 have h2:=h.best (-v) (rep_neg hv)
 omega
theorem Best.ge {T s v:Int} (h:Best T s) (hv:Rep v) (hT:v.natAbs≤T.natAbs):v.natAbs≤s.natAbs:=by
 have h1:=h.best v hv
 have h2:=h.best (-v) (rep_neg hv)
 omega
theorem abs_pow (m:Int) (K:Nat):(m*((2 ^ K:Nat):Int)).natAbs=m.natAbs*2 ^ K:=by rw [Int.natAbs_mul,Int.natAbs_natCast]
theorem pow_le_of {j k:Nat} (h:j≤k):(2:Nat) ^ j≤2 ^ k:=Nat.pow_le_pow_right (by decide) h
theorem down_pow (m:Int) {j k:Nat} (h:j≤k):m*((2 ^ k:Nat):Int)=m*((2 ^ (k - j):Nat):Int)*((2 ^ j:Nat):Int):=by
 rw [Int.mul_assoc,←Int.natCast_mul,←Nat.pow_add]
 congr 3; omega
theorem grid {T s:Int} (h:Best T s) (t:Int) (k:Nat) (hT:T=t*((2 ^ k:Nat):Int)) (j:Int) (g:Nat) (hs:s=j*((2 ^ g:Nat):Int)) (hj:j.natAbs < 9007199254740992) (hr:¬ Rep T) :
   9007199254740992*2 ^ k < T.natAbs∧k < g:=by
 have hp:0 < 2 ^ k:=Nat.two_pow_pos _
 have h1:9007199254740992*2 ^ k < T.natAbs:=by
   rcases Nat.lt_or_ge 9007199254740992 t.natAbs with c | c
   · rw [hT,abs_pow]; exact Nat.mul_lt_mul_of_pos_right c hp
   · exact absurd (by rw [hT]; exact rep_mk t k c) hr
 refine ⟨h1,?_⟩
 have h2:=h.ge (rep_mk 9007199254740992 k (by decide)) (by rw [abs_pow]; exact Nat.le_of_lt h1)
 rw [abs_pow,hs,abs_pow] at h2
 rcases Nat.lt_or_ge k g with c | c
 · exact c
 · have h3:j.natAbs*2 ^ g≤j.natAbs*2 ^ k:=Nat.mul_le_mul_left _ (pow_le_of c)
   have h4:j.natAbs*2 ^ k < 9007199254740992*2 ^ k:=Nat.mul_lt_mul_of_pos_right hj hp
   have h5:(9007199254740992:Int).natAbs*2 ^ k=9007199254740992*2 ^ k:=rfl
   omega
theorem rep_of_lt {T:Int} (t:Int) (k B:Nat) (hT:T=t*((2 ^ k:Nat):Int)) (h:T.natAbs≤B*2 ^ k) (hB:B≤9007199254740992):Rep T:=by
 rw [hT,abs_pow] at h
 have:=Nat.le_of_mul_le_mul_right h (Nat.two_pow_pos k)
 rw [hT]; exact rep_mk t k (by omega)
theorem lacks {a b s:Int} (ha:Rep a) (hb:Rep b) (h:Best (a+b) s):Rep (a+b - s)∧(a+b - s).natAbs≤a.natAbs∧(a+b - s).natAbs≤b.natAbs:=by
 have b1:=h.best a ha
 have b2:=h.best b hb
 have c1:(a+b - s).natAbs≤b.natAbs:=by omega
 have c2:(a+b - s).natAbs≤a.natAbs:=by omega
 refine ⟨?_,c2,c1⟩
 by_cases hT:Rep (a+b)
 · rw [h.exact hT,Int.sub_self]; exact rep_zero
 obtain⟨j,g,es,hj,_⟩:=rep_parts h.rep
 obtain⟨m,k,ea,hm,_⟩:=rep_parts ha
 obtain⟨n,l,eb,hn,_⟩:=rep_parts hb
 rcases Nat.le_total k l with o | o
 · have eT:a+b=(m+n*((2 ^ (l - k):Nat):Int))*((2 ^ k:Nat):Int):=by rw [ea,eb,down_pow n o,←Int.add_mul]
   have hg:=(grid h _ k eT j g es hj hT).2
   have eE:a+b - s=(m+n*((2 ^ (l - k):Nat):Int) - j*((2 ^ (g - k):Nat):Int))*((2 ^ k:Nat):Int):=by
     rw [eT,es,down_pow j (Nat.le_of_lt hg),←Int.sub_mul]
   refine rep_of_lt _ k 9007199254740992 eE ?_ (Nat.le_refl _)
   rw [ea,abs_pow] at c2
   have:m.natAbs*2 ^ k≤9007199254740992*2 ^ k:=Nat.mul_le_mul_right _ (by omega)
   rw [←ea] at c2
   omega
 · have eT:a+b=(m*((2 ^ (k - l):Nat):Int)+n)*((2 ^ l:Nat):Int):=by rw [ea,eb,down_pow m o,←Int.add_mul]
   have hg:=(grid h _ l eT j g es hj hT).2
   have eE:a+b - s=(m*((2 ^ (k - l):Nat):Int)+n - j*((2 ^ (g - l):Nat):Int))*((2 ^ l:Nat):Int):=by
     rw [eT,es,down_pow j (Nat.le_of_lt hg),←Int.sub_mul]
   refine rep_of_lt _ l 9007199254740992 eE ?_ (Nat.le_refl _)
   rw [eb,abs_pow] at c1
   have:n.natAbs*2 ^ l≤9007199254740992*2 ^ l:=Nat.mul_le_mul_right _ (by omega)
   rw [←eb] at c1
   omega
theorem tri (s a b:Int):(s - a).natAbs≤b.natAbs+(a+b - s).natAbs:=by omega
theorem abs_add (a b:Int):(a+b).natAbs≤a.natAbs+b.natAbs:=by omega
theorem arith1 {X B E L G:Nat} (t:X≤B+E) (hB:B < 9007199254740992*L) (hE:2*E≤G) (hL:L*2≤G):X≤9007199254740992*G:=by omega
theorem arith2 {X A B K:Nat} (t:X≤A+B) (hB:B≤A) (hA:A≤9007199254740991*K):X≤(9007199254740991:Int).natAbs*(K*2):=by
 show X≤9007199254740991*(K*2)
 omega
theorem arith3 {X K G:Nat} (h1:X≤(9007199254740991:Int).natAbs*(K*2)) (h2:K*2*2≤G) (h3:4503599627370496*G≤X) (hK:0 < K):False:=by
 have h4:X≤9007199254740991*(K*2):=h1
 omega
theorem arith4 {X A B E K G:Nat} (t:X≤B+E) (hB:B≤A) (hA:A≤9007199254740991*K) (hE:2*E≤G) (hG:G≤K*2):X≤9007199254740992*K:=by omega
theorem fast {a b s:Int} (ha:Rep a) (hb:Rep b) (hab:b.natAbs≤a.natAbs) (h:Best (a+b) s):Rep (s - a):=by
 by_cases hT:Rep (a+b)
 · rw [h.exact hT,Int.add_comm,Int.add_sub_cancel]; exact hb
 obtain⟨j,g,es,hj,hj2⟩:=rep_parts h.rep
 obtain⟨m,k,ea,hm,hm2⟩:=rep_parts ha
 obtain⟨n,l,eb,hn,hn2⟩:=rep_parts hb
 have la:a.natAbs=m.natAbs*2 ^ k:=by rw [ea,abs_pow]
 have lb:b.natAbs=n.natAbs*2 ^ l:=by rw [eb,abs_pow]
 have ls:s.natAbs=j.natAbs*2 ^ g:=by rw [es,abs_pow]
 have hlk:l≤k:=by
   rcases Nat.lt_or_ge k l with o | o
   · have h1:4503599627370496*2 ^ l≤n.natAbs*2 ^ l:=Nat.mul_le_mul_right _ (by omega)
     have h2:2 ^ (k+1)≤2 ^ l:=pow_le_of o
     rw [Nat.pow_succ] at h2
     have h3:m.natAbs*2 ^ k < 9007199254740992*2 ^ k:=Nat.mul_lt_mul_of_pos_right hm (Nat.two_pow_pos _)
     omega
   · exact o
 have eT:a+b=(m*((2 ^ (k - l):Nat):Int)+n)*((2 ^ l:Nat):Int):=by rw [ea,eb,down_pow m hlk,←Int.add_mul]
 obtain⟨hbig,hlg⟩:=grid h _ l eT j g es hj hT
 -- no further from s than half of its step
 have n1:=h.best (s+((2 ^ g:Nat):Int)) (by
   rw [show s+((2 ^ g:Nat):Int)=(j+1)*((2 ^ g:Nat):Int) by rw [es,Int.add_mul,Int.one_mul]]
   exact rep_mk (j+1) g (by omega))
 have n2:=h.best (s - ((2 ^ g:Nat):Int)) (by
   rw [show s - ((2 ^ g:Nat):Int)=(j - 1)*((2 ^ g:Nat):Int) by rw [es,Int.sub_mul,Int.one_mul]]
   exact rep_mk (j - 1) g (by omega))
 have hp:0 < 2 ^ g:=Nat.two_pow_pos _
 have half:2*(a+b - s).natAbs≤2 ^ g:=by omega
 have hlg2:2 ^ (l+1)≤2 ^ g:=pow_le_of hlg
 rw [Nat.pow_succ] at hlg2
 have hB:b.natAbs < 9007199254740992*2 ^ l:=by rw [lb]; exact Nat.mul_lt_mul_of_pos_right hn (Nat.two_pow_pos _)
 have hX:=tri s a b
 rcases Nat.le_total g k with o | o
 · have eD:s - a=(j - m*((2 ^ (k - g):Nat):Int))*((2 ^ g:Nat):Int):=by rw [es,ea,down_pow m o,←Int.sub_mul]
   exact rep_of_lt _ g 9007199254740992 eD (arith1 hX hB half hlg2) (Nat.le_refl _)
 · have eD:s - a=(j*((2 ^ (g - k):Nat):Int) - m)*((2 ^ k:Nat):Int):=by rw [es,ea,down_pow j o,←Int.sub_mul]
   have hk1:a.natAbs≤9007199254740991*2 ^ k:=by rw [la]; exact Nat.mul_le_mul_right _ (by omega)
   have hg1:g≤k+1:=by
     rcases Nat.lt_or_ge (k+1) g with c | c
     · have h1:=h.le (rep_mk 9007199254740991 (k+1) (by decide)) (by
         rw [abs_pow,Nat.pow_succ]
         exact arith2 (abs_add a b) hab hk1)
       rw [abs_pow,Nat.pow_succ] at h1
       have h2:2 ^ (k+2)≤2 ^ g:=pow_le_of c
       rw [Nat.pow_succ,Nat.pow_succ] at h2
       have h3:4503599627370496*2 ^ g≤s.natAbs:=by rw [ls]; exact Nat.mul_le_mul_right _ (by omega)
       exact absurd (arith3 h1 h2 h3 (Nat.two_pow_pos k)) id
     · exact c
   have hg2:2 ^ g≤2 ^ (k+1):=pow_le_of hg1
   rw [Nat.pow_succ] at hg2
   exact rep_of_lt _ k 9007199254740992 eD (arith4 hX hab hk1 half hg2) (Nat.le_refl _)
theorem two_sum {a b s c p x y d:Int} (ha:Rep a) (hb:Rep b) (hs:Best (a+b) s) (hc:Best (s - a) c) (hp:Best (s - c) p) (hx:Best (a - p) x) (hy:Best (b - c) y) (hd:Best (x+y) d):d=a+b - s:=by
 obtain⟨e1,e2,e3⟩:=lacks ha hb hs
 rcases Nat.le_total b.natAbs a.natAbs with o | o
 · have r1:=fast ha hb o hs
   have c1:=hc.exact r1
   have p1:=hp.exact (by rw [c1,show s - (s - a)=a by omega]; exact ha)
   have x1:=hx.exact (by rw [p1,c1,show a - (s - (s - a))=0 by omega]; exact rep_zero)
   have y1:=hy.exact (by rw [c1,show b - (s - a)=a+b - s by omega]; exact e1)
   have d1:=hd.exact (by rw [x1,y1,p1,c1,show a - (s - (s - a))+(b - (s - a))=a+b - s by omega]; exact e1)
   rw [d1,x1,y1,p1,c1]; omega
 · by_cases hT:Rep (a+b)
   · have s1:=hs.exact hT
     have c1:=hc.exact (by rw [s1,show a+b - a=b by omega]; exact hb)
     have p1:=hp.exact (by rw [c1,s1,show a+b - (a+b - a)=a by omega]; exact ha)
     have x1:=hx.exact (by rw [p1,c1,s1,show a - (a+b - (a+b - a))=0 by omega]; exact rep_zero)
     have y1:=hy.exact (by rw [c1,s1,show b - (a+b - a)=0 by omega]; exact rep_zero)
     have d1:=hd.exact (by rw [x1,y1,p1,c1,s1,show a - (a+b - (a+b - a))+(b - (a+b - a))=0 by omega]; exact rep_zero)
     rw [d1,x1,y1,p1,c1,s1]; omega
   · -- c is next to b
     have hc':Best (b + -(a+b - s)) c:=by rw [show b + -(a+b - s)=s - a by omega]; exact hc
     have r1:=fast hb (rep_neg e1) (by rw [Int.natAbs_neg]; exact e3) hc'
     have y1:=hy.exact (by rw [show b - c=-(c - b) by omega]; exact rep_neg r1)
     have las:a.natAbs≤s.natAbs:=by
       rcases Nat.lt_or_ge (a+b).natAbs a.natAbs with q | q
       · exfalso
         obtain⟨m,k,ea,hm,hm2⟩:=rep_parts ha
         obtain⟨n,l,eb,hn,hn2⟩:=rep_parts hb
         have la:a.natAbs=m.natAbs*2 ^ k:=by rw [ea,abs_pow]
         have lb:b.natAbs=n.natAbs*2 ^ l:=by rw [eb,abs_pow]
         have hlk:k≤l:=by
           rcases Nat.lt_or_ge l k with o2 | o2
           · have h1:4503599627370496*2 ^ k≤m.natAbs*2 ^ k:=Nat.mul_le_mul_right _ (by omega)
             have h2:2 ^ (l+1)≤2 ^ k:=pow_le_of o2
             rw [Nat.pow_succ] at h2
             have h3:n.natAbs*2 ^ l < 9007199254740992*2 ^ l:=Nat.mul_lt_mul_of_pos_right hn (Nat.two_pow_pos _)
             omega
           · exact o2
         have eT:a+b=(m+n*((2 ^ (l - k):Nat):Int))*((2 ^ k:Nat):Int):=by rw [ea,eb,down_pow n hlk,←Int.add_mul]
         have h4:m.natAbs*2 ^ k≤9007199254740992*2 ^ k:=Nat.mul_le_mul_right _ (by omega)
         exact hT (rep_of_lt _ k 9007199254740992 eT (by omega) (Nat.le_refl _))
       · exact hs.ge ha q
     have hc2:Best (s + -a) c:=by rw [←Int.sub_eq_add_neg]; exact hc
     have r2:=fast hs.rep (rep_neg ha) (by rw [Int.natAbs_neg]; exact las) hc2
     have p1:=hp.exact (by rw [show s - c=-(c - s) by omega]; exact rep_neg r2)
     have r3:=(lacks hs.rep (rep_neg ha) hc2).1
     have x1:=hx.exact (by rw [p1,show a - (s - c)=-(s + -a - c) by omega]; exact rep_neg r3)
     have d1:=hd.exact (by rw [x1,y1,p1,show a - (s - c)+(b - c)=a+b - s by omega]; exact e1)
     rw [d1,x1,y1,p1]; omega
end
section
open Go.RowKit
def flipW (a:Nat):Nat:=if a < 9223372036854775808 then a+9223372036854775808 else a - 9223372036854775808
theorem neg_any (a:Nat) (ha:a < 18446744073709551616):Op.unary .neg (.float .f64 a)=pure (.float .f64 (flipW a)):=by
 have h:Op.negFloat .f64 a=flipW a:=by
   have e:Op.negFloat .f64 a=a ^^^ 2 ^ 63:=rfl
   rw [e]
   unfold flipW
   by_cases h1:a < 9223372036854775808
   · rw [if_pos h1,xor_top a h1]; omega
   · rw [if_neg h1]
     obtain⟨b,hb⟩:∃ b,b=a - 9223372036854775808:=⟨_,rfl⟩
     have hx:=xor_top b (by omega)
     have ea:a=b ^^^ 2 ^ 63:=by rw [hx]; omega
     rw [←hb]
     rw [ea,Nat.xor_assoc,Nat.xor_self,Nat.xor_zero]
 show pure (Value.float .f64 (Op.negFloat .f64 a))=_
 rw [h]
theorem flip_facts (a:Nat) (ha:a < 18446744073709551616):flipW a < 18446744073709551616∧rung (flipW a)=rung a∧sgnB (flipW a)=!sgnB a∧val (flipW a)=-val a:=by
 have h1:flipW a < 18446744073709551616∧rung (flipW a)=rung a∧sgnB (flipW a)=!sgnB a:=by
   unfold flipW rung sgnB
   by_cases h:a < 9223372036854775808
   · rw [if_pos h,decide_eq_true (by omega),decide_eq_false (by omega)]
     exact ⟨by omega,by omega,rfl⟩
   · rw [if_neg h,decide_eq_false (by omega),decide_eq_true (by omega)]
     exact ⟨by omega,by omega,rfl⟩
 refine ⟨h1.1,h1.2.1,h1.2.2,?_⟩
 unfold val
 rw [h1.2.1,h1.2.2]
 cases sgnB a <;> simp
theorem inf_cases (c:Nat) (hc:c < 18446744073709551616) (h:rung c=9218868437227405312):(c=9218868437227405312∧sgnB c=false)∨(c=18442240474082181120∧sgnB c=true):=by
 unfold rung at h
 unfold sgnB
 by_cases g:c < 9223372036854775808
 · left; exact ⟨by omega,decide_eq_false (by omega)⟩
 · right; exact ⟨by omega,decide_eq_true (by omega)⟩
theorem val_top:val 9218868437227405311=(steps 9218868437227405311:Int):=by
 have h:sgnB 9218868437227405311=false:=by decide
 have h2:rung 9218868437227405311=9218868437227405311:=by decide
 unfold val; rw [h,h2]; rfl
theorem val_in (c:Nat) (h:rung c < 9218868437227405312):(val c).natAbs≤steps 9218868437227405311:=by
 have:=steps_le (show rung c≤9218868437227405311 by omega)
 unfold val; split <;> omega
theorem order_pinf (c:Nat) (hc:c < 18446744073709551616) (hn:nanB c=false):(FloatKind.f64.format.order c 9218868437227405311 == some Ordering.gt)=(infB c&&!sgnB c):=by
 unfold nanB at hn
 rw [decide_eq_false_iff_not] at hn
 by_cases h:rung c=9218868437227405312
 · rcases inf_cases c hc h with ⟨rfl,_⟩ | ⟨rfl,_⟩ <;> decide +kernel
 · have hi:infB c=false:=decide_eq_false h
   rw [hi,order_val c _ hc (by decide) (by omega) (by decide)]
   have hv:=val_in c (by omega)
   have ht:=val_top
   have:¬ val 9218868437227405311 < val c:=by omega
   rcases Int.lt_trichotomy (val c) (val 9218868437227405311) with g | g | g
   · rw [Int.compare_eq_lt.2 g]; rfl
   · rw [Int.compare_eq_eq.2 g]; rfl
   · exact absurd g this
theorem isInf1_any (a:Nat) (w:World) (ha:a < 18446744073709551616) (hn:nanB a=false):Calls Tryz.prog 129 #[.float .f64 a,.int .i64 1] w fun r w'=>r = .returned (.bool (infB a&&!sgnB a))∧w=w':=by
 have h:=Lib.hid (order_pinf a ha hn)
 clear hn
 go_enter Tryz.func129,Tryz.ntmps129
 go_wp2
 go_ret
 exact ⟨by rw [←h.out]; rfl,rfl⟩
theorem isInfm_any (a:Nat) (w:World) (ha:a < 18446744073709551616) (hn:nanB a=false):Calls Tryz.prog 129 #[.float .f64 a,.int .i64 (-1)] w fun r w'=>r = .returned (.bool (infB a&&sgnB a))∧w=w':=by
 obtain⟨f1,f2,f3,_⟩:=flip_facts a ha
 have h:=order_pinf (flipW a) f1 (by unfold nanB at hn ⊢; rw [f2]; exact hn)
 have e:(infB (flipW a)&&!sgnB (flipW a))=(infB a&&sgnB a):=by
   unfold infB; rw [f2,f3,Bool.not_not]
 rw [e] at h
 have h:=Lib.hid h
 have g:=neg_any a ha
 clear hn f1 f2 f3 e
 go_enter Tryz.func129,Tryz.ntmps129
 go_wp2
 go_ret
 exact ⟨by rw [←h.out]; rfl,rfl⟩
theorem nextafter_mz (y r:Nat) (w:World) (c1:Hid (∀ w,Calls Tryz.prog 145 #[.float .f64 9223372036854775808] w fun r w'=>r = .returned (.bool false)∧w=w')) (c2:Hid (∀ w,Calls Tryz.prog 145 #[.float .f64 y] w fun r w'=>r = .returned (.bool false)∧w=w'))
   (o1:(FloatKind.f64.format.order 9223372036854775808 y == some Ordering.eq)=false) (o2:(FloatKind.f64.format.order 9223372036854775808 0 == some Ordering.eq)=true)
   (c3:Hid (∀ w,Calls Tryz.prog 171 #[.float .f64 1,.float .f64 y] w fun e w'=>e = .returned (.float .f64 r)∧w=w')) :
   Calls Tryz.prog 127 #[.float .f64 9223372036854775808,.float .f64 y] w fun e w'=>e = .returned (.float .f64 r)∧w=w':=by
 obtain⟨z,hz⟩:∃ z,z=9223372036854775808:=⟨_,rfl⟩
 rw [←hz] at c1 o1 o2 ⊢
 clear hz
 have b2:=run_frombits
 go_enter Tryz.func127,Tryz.ntmps127
 go_wp2_with fail
 refine (c1.out _).mono ?_
 rintro r ww ⟨rfl,rfl⟩
 go_wp2_with fail
 refine (c2.out _).mono ?_
 rintro r ww ⟨rfl,rfl⟩
 go_wp2_with fail
 refine (c3.out _).mono ?_
 rintro r ww ⟨rfl,rfl⟩
 go_wp2
 go_ret
 exact ⟨rfl,rfl⟩
theorem nextafter_all (c:Nat) (up:Bool) (w:World) (hc:c < 18446744073709551616) (h:rung c < 9218868437227405312) :
   Calls Tryz.prog 127 #[.float .f64 c,.float .f64 (infW up)] w fun e w'=>e = .returned (.float .f64 (besideW (plainW c) up))∧w=w':=by
 by_cases hz:c=9223372036854775808
 · subst hz
   have e1:besideW (plainW 9223372036854775808) up=if up then 1 else 9223372036854775809:=by cases up <;> decide +kernel
   rw [e1]
   have c1:=fun w=>isNaN_any 9223372036854775808 w (by decide)
   rw [show nanB 9223372036854775808=false by decide] at c1
   have hy:infW up < 18446744073709551616:=by cases up <;> decide
   have c2:=fun w=>isNaN_any (infW up) w hy
   rw [show nanB (infW up)=false by cases up <;> decide] at c2
   exact nextafter_mz (infW up) _ w (Lib.hid c1) (Lib.hid c2) (by cases up <;> decide +kernel) (by decide +kernel) (Lib.hid fun w=>copysign_lit (infW up) _ w (by cases up <;> exact ⟨_,rfl,by decide +kernel⟩))
 · have rc:rightB c=true:=by
     unfold rightB rung at *
     rw [decide_eq_true h,decide_eq_false hz]; rfl
   have e:plainW c=c:=by
     unfold plainW
     by_cases g:rung c=0
     · rw [if_pos g]; unfold rung at g; omega
     · exact if_neg g
   rw [e]
   exact nextafter_any c up w hc rc
def sideF (c:Nat) (gp gn up:Bool):Nat×Int:=
 if (if up then gp else gn)=true then (stepW (plainW c) up,stepE (plainW c) up) else (plainW c,0)
def sideI (up:Bool) (neg:Bool):Nat×Int:=if neg=up then (if up then (18442240474082181119,0) else (9218868437227405311,0)) else (0,10)
def sideR (c:Nat) (gp gn up:Bool):Nat×Int:=if rung c=9218868437227405312 then sideI up (sgnB c) else sideF c gp gn up
theorem refSide_inf (c d:Nat) (up s:Bool) (w:World) (c1:Hid (∀ w,Calls Tryz.prog 129 #[.float .f64 c,.int .i64 1] w fun r w'=>r = .returned (.bool (!s))∧w=w')) (c2:Hid (∀ w,Calls Tryz.prog 129 #[.float .f64 c,.int .i64 (-1)] w fun r w'=>r = .returned (.bool s)∧w=w')) :
   Calls Tryz.prog 134 #[.float .f64 c,.float .f64 d,.bool up] w fun r w'=>r = .returned (.tuple #[.float .f64 (sideI up s).1,.int .i64 (sideI up s).2])∧w=w':=by
 cases s
 · cases up
   · go_enter Tryz.func134,Tryz.ntmps134
     go_wp2_with fail
     refine (c1.out _).mono ?_
     rintro r ww ⟨rfl,rfl⟩
     go_wp2
     go_ret2
     exact ⟨rfl,rfl⟩
   · go_enter Tryz.func134,Tryz.ntmps134
     go_wp2_with fail
     refine (c1.out _).mono ?_
     rintro r ww ⟨rfl,rfl⟩
     go_wp2
     go_ret2
     exact ⟨rfl,rfl⟩
 · cases up
   · go_enter Tryz.func134,Tryz.ntmps134
     go_wp2_with fail
     refine (c1.out _).mono ?_
     rintro r ww ⟨rfl,rfl⟩
     go_wp2_with fail
     refine (c2.out _).mono ?_
     rintro r ww ⟨rfl,rfl⟩
     go_wp2
     go_ret2
     exact ⟨rfl,rfl⟩
   · go_enter Tryz.func134,Tryz.ntmps134
     go_wp2_with fail
     refine (c1.out _).mono ?_
     rintro r ww ⟨rfl,rfl⟩
     go_wp2_with fail
     refine (c2.out _).mono ?_
     rintro r ww ⟨rfl,rfl⟩
     go_wp2
     go_ret2
     exact ⟨rfl,rfl⟩
theorem refSide_walk (c d n v:Nat) (up gp gn i:Bool) (e:Int) (w:World) (c1:Hid (∀ w,Calls Tryz.prog 129 #[.float .f64 c,.int .i64 1] w fun r w'=>r = .returned (.bool false)∧w=w')) (c2:Hid (∀ w,Calls Tryz.prog 129 #[.float .f64 c,.int .i64 (-1)] w fun r w'=>r = .returned (.bool false)∧w=w'))
   (o1:(FloatKind.f64.format.order d 0 == some Ordering.gt)=gp) (o2:(FloatKind.f64.format.order d 0 == some Ordering.lt)=gn)
   (cN:Hid ((if up then gp else gn)=true→∀ w,Calls Tryz.prog 127 #[.float .f64 c,.float .f64 (infW up)] w fun r w'=>r = .returned (.float .f64 n)∧w=w')) (hN:Hid ((if up then gp else gn)=false→n=c))
   (cI:Hid (∀ w,Calls Tryz.prog 129 #[.float .f64 n,.int .i64 0] w fun r w'=>r = .returned (.bool i)∧w=w'))
   (cP:Hid (i=false→∀ w,Calls Tryz.prog 130 #[.float .f64 n] w fun r w'=>r = .returned (.float .f64 v)∧w=w'))
   (h:Hid (i=true→v=0∧e=10)) (h':Hid (i=false→e=0)) :
   Calls Tryz.prog 134 #[.float .f64 c,.float .f64 d,.bool up] w fun r w'=>r = .returned (.tuple #[.float .f64 v,.int .i64 e])∧w=w':=by
 cases up
 · have iw:infW false=18442240474082181120:=rfl
   rw [iw] at cN
   cases gn
   · obtain rfl:=hN.out rfl
     clear cN hN
     go_enter Tryz.func134,Tryz.ntmps134
     go_wp2_with fail
     refine (c1.out _).mono ?_
     rintro r ww ⟨rfl,rfl⟩
     go_wp2_with fail
     refine (c2.out _).mono ?_
     rintro r ww ⟨rfl,rfl⟩
     go_wp2_with fail
     refine (cI.out _).mono ?_
     rintro r ww ⟨rfl,rfl⟩
     cases i
     · obtain rfl:=h'.out (by simp)
       go_wp2_with fail
       refine (cP.out (by simp) _).mono ?_
       rintro r ww ⟨rfl,rfl⟩
       go_wp2
       go_ret2
       exact ⟨rfl,rfl⟩
     · obtain⟨rfl,rfl⟩:=h.out (by simp)
       go_wp2
       go_ret2
       exact ⟨rfl,rfl⟩
   · have cN':=Lib.hid (cN.out rfl)
     clear cN hN
     go_enter Tryz.func134,Tryz.ntmps134
     go_wp2_with fail
     refine (c1.out _).mono ?_
     rintro r ww ⟨rfl,rfl⟩
     go_wp2_with fail
     refine (c2.out _).mono ?_
     rintro r ww ⟨rfl,rfl⟩
     go_wp2_with fail
     refine (inf_down _).mono ?_
     rintro r ww ⟨rfl,rfl⟩
     go_wp2_with fail
     refine (cN'.out _).mono ?_
     rintro r ww ⟨rfl,rfl⟩
     go_wp2_with fail
     refine (cI.out _).mono ?_
     rintro r ww ⟨rfl,rfl⟩
     cases i
     · obtain rfl:=h'.out (by simp)
       go_wp2_with fail
       refine (cP.out (by simp) _).mono ?_
       rintro r ww ⟨rfl,rfl⟩
       go_wp2
       go_ret2
       exact ⟨rfl,rfl⟩
     · obtain⟨rfl,rfl⟩:=h.out (by simp)
       go_wp2
       go_ret2
       exact ⟨rfl,rfl⟩
 · have iw:infW true=9218868437227405312:=rfl
   rw [iw] at cN
   cases gp
   · obtain rfl:=hN.out rfl
     clear cN hN
     go_enter Tryz.func134,Tryz.ntmps134
     go_wp2_with fail
     refine (c1.out _).mono ?_
     rintro r ww ⟨rfl,rfl⟩
     go_wp2_with fail
     refine (c2.out _).mono ?_
     rintro r ww ⟨rfl,rfl⟩
     go_wp2_with fail
     refine (cI.out _).mono ?_
     rintro r ww ⟨rfl,rfl⟩
     cases i
     · obtain rfl:=h'.out (by simp)
       go_wp2_with fail
       refine (cP.out (by simp) _).mono ?_
       rintro r ww ⟨rfl,rfl⟩
       go_wp2
       go_ret2
       exact ⟨rfl,rfl⟩
     · obtain⟨rfl,rfl⟩:=h.out (by simp)
       go_wp2
       go_ret2
       exact ⟨rfl,rfl⟩
   · have cN':=Lib.hid (cN.out rfl)
     clear cN hN
     go_enter Tryz.func134,Tryz.ntmps134
     go_wp2_with fail
     refine (c1.out _).mono ?_
     rintro r ww ⟨rfl,rfl⟩
     go_wp2_with fail
     refine (c2.out _).mono ?_
     rintro r ww ⟨rfl,rfl⟩
     go_wp2_with fail
     refine (inf_up _).mono ?_
     rintro r ww ⟨rfl,rfl⟩
     go_wp2_with fail
     refine (cN'.out _).mono ?_
     rintro r ww ⟨rfl,rfl⟩
     go_wp2_with fail
     refine (cI.out _).mono ?_
     rintro r ww ⟨rfl,rfl⟩
     cases i
     · obtain rfl:=h'.out (by simp)
       go_wp2_with fail
       refine (cP.out (by simp) _).mono ?_
       rintro r ww ⟨rfl,rfl⟩
       go_wp2
       go_ret2
       exact ⟨rfl,rfl⟩
     · obtain⟨rfl,rfl⟩:=h.out (by simp)
       go_wp2
       go_ret2
       exact ⟨rfl,rfl⟩
theorem plain_facts (c:Nat) (hc:c < 18446744073709551616) (h:rung c < 9218868437227405312):plainW c < 18446744073709551616∧rightB (plainW c)=true∧val (plainW c)=val c∧rung (plainW c) < 9218868437227405312:=by
 unfold plainW
 by_cases g:rung c=0
 · rw [if_pos g]
   refine ⟨by decide,by decide,?_,by decide⟩
   rw [val_0]
   have:=(steps_zero 0).2 rfl
   unfold val; rw [g,this]; simp
 · rw [if_neg g]
   refine ⟨hc,?_,rfl,h⟩
   unfold rightB
   unfold rung at g h
   rw [decide_eq_true h,decide_eq_false (by omega)]; rfl
theorem refSide_any (c d:Nat) (gp gn up:Bool) (w:World) (hc:c < 18446744073709551616) (h:rung c≤9218868437227405312)
   (o1:(FloatKind.f64.format.order d 0 == some Ordering.gt)=gp) (o2:(FloatKind.f64.format.order d 0 == some Ordering.lt)=gn) :
   Calls Tryz.prog 134 #[.float .f64 c,.float .f64 d,.bool up] w fun r w'=>r = .returned (.tuple #[.float .f64 (sideR c gp gn up).1,.int .i64 (sideR c gp gn up).2])∧w=w':=by
 have hn:nanB c=false:=decide_eq_false (by omega)
 have c1:=fun w=>isInf1_any c w hc hn
 have c2:=fun w=>isInfm_any c w hc hn
 by_cases hi:rung c=9218868437227405312
 · have e:infB c=true:=decide_eq_true hi
   rw [e,Bool.true_and] at c1 c2
   have e2:sideR c gp gn up=sideI up (sgnB c):=if_pos hi
   rw [e2]
   exact refSide_inf c d up (sgnB c) w (Lib.hid c1) (Lib.hid c2)
 · have e:infB c=false:=decide_eq_false hi
   rw [e,Bool.false_and] at c1 c2
   have e2:sideR c gp gn up=sideF c gp gn up:=if_neg hi
   rw [e2]
   have hf:rung c < 9218868437227405312:=by omega
   obtain⟨p1,p2,p3,p4⟩:=plain_facts c hc hf
   obtain⟨b1,b2⟩:=beside_in (plainW c) up p1 p2
   cases hg:(if up then gp else gn)
   · have e3:sideF c gp gn up=(plainW c,0):=by unfold sideF; rw [hg,if_neg Bool.false_ne_true]
     rw [e3]
     refine refSide_walk c d c _ up gp gn false _ w (Lib.hid c1) (Lib.hid c2) o1 o2 (Lib.hid (fun k=>by rw [hg] at k; cases k)) (Lib.hid fun _=>rfl) (Lib.hid fun w=>?_) (Lib.hid fun _ w=>plain_any c w hc hf) (Lib.hid fun k=>by cases k) (Lib.hid fun _=>rfl)
     have:=isInf0_any c w hc hn
     rw [e] at this; exact this
   · have e3:sideF c gp gn up=(stepW (plainW c) up,stepE (plainW c) up):=by unfold sideF; rw [hg,if_pos rfl]
     rw [e3]
     have hn2:nanB (besideW (plainW c) up)=false:=decide_eq_false (by omega)
     refine refSide_walk c d (besideW (plainW c) up) _ up gp gn _ _ w (Lib.hid c1) (Lib.hid c2) o1 o2 (Lib.hid (fun _ w=>nextafter_all c up w hc hf)) (Lib.hid fun k=>by rw [hg] at k; cases k) (Lib.hid fun w=>isInf0_any _ w b1 hn2) (Lib.hid ?_) (Lib.hid ?_) (Lib.hid ?_)
     · intro hi w
       unfold infB at hi
       rw [decide_eq_false_iff_not] at hi
       have e:stepW (plainW c) up=plainW (besideW (plainW c) up):=by
         unfold stepW
         rw [if_neg hi]
         generalize besideW (plainW c) up=y at *
         unfold plainW
         unfold rung at hi b2 ⊢
         by_cases h:y=9223372036854775808
         · rw [if_pos h,h]; rfl
         · rw [if_neg h]
           by_cases h2:y % 9223372036854775808=0
           · rw [if_pos h2]; omega
           · rw [if_neg h2]
       show Calls _ _ _ _ fun r w'=>r = .returned (.float .f64 (stepW (plainW c) up))∧_
       rw [e]
       exact plain_any _ w b1 (by omega)
     · intro hi
       unfold infB at hi
       rw [decide_eq_true_eq] at hi
       exact ⟨if_pos hi,if_pos hi⟩
     · intro hi
       unfold infB at hi
       rw [decide_eq_false_iff_not] at hi
       exact if_neg hi
structure Faith (s:Nat) (T:Int) (c:Nat):Prop where
 lt:c < 18446744073709551616
 le:rung c≤9218868437227405312
 low:rung c < 9218868437227405312→∀ d,d < 18446744073709551616→rightB d=true→val d*(s:Int)≤T→val d≤val c
 high:rung c < 9218868437227405312→∀ d,d < 18446744073709551616→rightB d=true→T≤val d*(s:Int)→val c≤val d
 pinf:rung c=9218868437227405312→sgnB c=false→∀ d,d < 18446744073709551616→rightB d=true→val d*(s:Int) < T
 ninf:rung c=9218868437227405312→sgnB c=true→∀ d,d < 18446744073709551616→rightB d=true→T < val d*(s:Int)
theorem mul_lt_of {a b:Int} {s:Nat} (h:a*(s:Int) < b*(s:Int)):a < b:=Int.lt_of_mul_lt_mul_right h (Int.natCast_nonneg s)
theorem mul_le_of {a b:Int} (s:Nat) (h:a≤b):a*(s:Int)≤b*(s:Int):=Int.mul_le_mul_of_nonneg_right h (Int.natCast_nonneg s)
theorem faith_dir {s:Nat} {T:Int} {c:Nat} {gp gn:Bool} (F:Faith s T c) (hp:rung c < 9218868437227405312→gp=decide (val c*(s:Int) < T)) (hn:rung c < 9218868437227405312→gn=decide (T < val c*(s:Int))) :
   Down s T (sideR c gp gn false).1 (sideR c gp gn false).2∧Up s T (sideR c gp gn true).1 (sideR c gp gn true).2:=by
 by_cases hi:rung c=9218868437227405312
 · have e1:∀ up,sideR c gp gn up=sideI up (sgnB c):=fun up=>if_pos hi
   rw [e1,e1]
   cases hs:sgnB c
   · have hT:=F.pinf hi hs
     refine ⟨Or.inl ⟨rfl,by decide,by decide,Int.le_of_lt (hT _ (by decide) (by decide)),fun d hd rd _=>?_⟩,Or.inr ⟨rfl,rfl,hT⟩⟩
     have h1:=val_in d (right_rung d rd)
     have h2:=val_top
     show val d≤val 9218868437227405311
     omega
   · have hT:=F.ninf hi hs
     refine ⟨Or.inr ⟨rfl,rfl,hT⟩,Or.inl ⟨rfl,by decide,by decide,Int.le_of_lt (hT _ (by decide) (by decide)),fun d hd rd _=>?_⟩⟩
     have h1:=val_in d (right_rung d rd)
     have h2:val 18442240474082181119=-(steps 9218868437227405311:Int):=by
       have h:sgnB 18442240474082181119=true:=by decide
       have h2:rung 18442240474082181119=9218868437227405311:=by decide
       unfold val; rw [h,h2]; rfl
     show val 18442240474082181119≤val d
     omega
 · have e1:∀ up,sideR c gp gn up=sideF c gp gn up:=fun up=>if_neg hi
   rw [e1,e1]
   have hf:rung c < 9218868437227405312:=by have:=F.le; omega
   obtain⟨p1,p2,p3,p4⟩:=plain_facts c F.lt hf
   have lo:=F.low hf
   have hi:=F.high hf
   have hp':=hp hf
   have hn':=hn hf
   constructor
   · by_cases g:T < val c*(s:Int)
     · have e2:sideF c gp gn false=(stepW (plainW c) false,stepE (plainW c) false):=by unfold sideF; rw [hn',decide_eq_true g]; rfl
       rw [e2]
       rcases down_step (plainW c) p1 p2 with ⟨e0,l,r,le,mx⟩ | ⟨e0,z,no⟩
       · refine Or.inl ⟨e0,l,r,?_,fun d hd rd h=>?_⟩
         · rcases Int.lt_or_le T (val (stepW (plainW c) false)*(s:Int)) with k | k
           · have:=hi _ l r (Int.le_of_lt k); omega
           · exact k
         · have:=mul_lt_of (Int.lt_of_le_of_lt h g)
           exact mx d hd rd (by omega)
       · refine Or.inr ⟨e0,z,fun d hd rd=>?_⟩
         have h1:=no d hd rd
         exact Int.lt_of_lt_of_le g (mul_le_of s (by omega))
     · have e2:sideF c gp gn false=(plainW c,0):=by unfold sideF; rw [hn',decide_eq_false g]; rfl
       rw [e2]
       exact Or.inl ⟨rfl,p1,p2,by rw [p3]; omega,fun d hd rd h=>by rw [p3]; exact lo d hd rd h⟩
   · by_cases g:val c*(s:Int) < T
     · have e2:sideF c gp gn true=(stepW (plainW c) true,stepE (plainW c) true):=by unfold sideF; rw [hp',decide_eq_true g]; rfl
       rw [e2]
       rcases up_step (plainW c) p1 p2 with ⟨e0,l,r,le,mx⟩ | ⟨e0,z,no⟩
       · refine Or.inl ⟨e0,l,r,?_,fun d hd rd h=>?_⟩
         · rcases Int.lt_or_le (val (stepW (plainW c) true)*(s:Int)) T with k | k
           · have:=lo _ l r (Int.le_of_lt k); omega
           · exact k
         · have:=mul_lt_of (Int.lt_of_lt_of_le g h)
           exact mx d hd rd (by omega)
       · refine Or.inr ⟨e0,z,fun d hd rd=>?_⟩
         have h1:=no d hd rd
         exact Int.lt_of_le_of_lt (mul_le_of s (by omega)) g
     · have e2:sideF c gp gn true=(plainW c,0):=by unfold sideF; rw [hp',decide_eq_false g]; rfl
       rw [e2]
       exact Or.inl ⟨rfl,p1,p2,by rw [p3]; omega,fun d hd rd h=>by rw [p3]; exact hi d hd rd h⟩
end
section
open Go.RowKit
structure NearW (T:Int) (r:Nat):Prop where
 lt:r < 18446744073709551616
 le:rung r≤9218868437227405312
 fin:rung r < 9218868437227405312→Best T (val r)
 big:rung r=9218868437227405312→(sgnB r=false∧(steps 9218868437227405311:Int) < T)∨(sgnB r=true∧T < -(steps 9218868437227405311:Int))
theorem word_top (neg:Bool) (R:Nat) (h:9218868437227405312≤R):Ieee.double.word neg (min R 9218868437227405312) < 18446744073709551616∧rung (Ieee.double.word neg (min R 9218868437227405312))=9218868437227405312∧sgnB (Ieee.double.word neg (min R 9218868437227405312))=neg:=by
 rw [Nat.min_eq_right h]
 cases neg <;> decide +kernel
theorem nearest_w (neg:Bool) (mag:Nat) (place:Int) (Tm:Nat) (hp:-6000≤place) (h:real mag place=Tm*2 ^ sc):NearW (sg neg Tm) (Ieee.double.nearest neg mag place):=by
 have hP:0 < 2 ^ sc:=Nat.two_pow_pos _
 obtain⟨R,e,h2,h3⟩:∃ R,Ieee.double.nearest neg mag place=Ieee.double.word neg (min R 9218868437227405312)∧(∀ r,Tm≤steps r→R≤r)∧∀ r,((Tm:Int) - (steps R:Int)).natAbs≤((Tm:Int) - (steps r:Int)).natAbs:=by
   by_cases h0:mag=0
   · subst h0
     have hz:Tm=0:=by
       have:real 0 place=0:=Nat.zero_mul _
       rw [this] at h
       rcases Nat.mul_eq_zero.1 h.symm with g | g
       · exact g
       · omega
     subst hz
     refine ⟨0,?_,fun r _=>Nat.zero_le _,fun r=>?_⟩
     · unfold Ieee.Format.nearest; rw [if_pos rfl]; rfl
     · rw [steps_nil]; simp
   · obtain⟨R,e,h1,h2,h3⟩:=near_best neg mag place h0 hp
     refine ⟨R,e,fun r hr=>h2 r (by rw [h]; exact Nat.mul_le_mul_right _ hr),fun r=>?_⟩
     have k:=h3 r
     rw [h] at k
     have m:∀ x:Nat,(((Tm*2 ^ sc:Nat):Int) - ((x*2 ^ sc:Nat):Int)).natAbs=((Tm:Int) - (x:Int)).natAbs*2 ^ sc:=fun x=>by
       rw [Int.natCast_mul,Int.natCast_mul,←Int.sub_mul,Int.natAbs_mul,Int.natAbs_natCast]
     rw [m,m] at k
     exact Nat.le_of_mul_le_mul_right k hP
 rw [e]
 rcases Nat.lt_or_ge R 9218868437227405312 with g | g
 · obtain⟨w1,w2,w3⟩:=word_sw neg R g
   refine ⟨w1,by omega,fun _=>by rw [w3]; exact best_of neg Tm R h3,fun hb=>by omega⟩
 · obtain⟨w1,w2,w3⟩:=word_top neg R g
   refine ⟨w1,by omega,fun hb=>by omega,fun _=>?_⟩
   have ht:steps 9218868437227405311 < Tm:=by
     rcases Nat.lt_or_ge (steps 9218868437227405311) Tm with q | q
     · exact q
     · have:=h2 _ q; omega
   rw [w3]
   cases neg
   · exact Or.inl ⟨rfl,by show _ < (Tm:Int); omega⟩
   · exact Or.inr ⟨rfl,by show -(Tm:Int) < _; omega⟩
theorem sum_w (s t:Bool) (a b:Nat) (xa:-1074≤expo a) (xb:-1074≤expo b) :
   ∃ r,((Ieee.Datum.number s (mant a) (expo a)).sum (.number t (mant b) (expo b))).map Ieee.double.write=some r∧NearW (sg s (steps (rung a))+sg t (steps (rung b))) r:=by
 have hs:=sc_eq
 obtain⟨base,hbase⟩:∃ base:Int,base=min (expo a) (expo b):=⟨_,rfl⟩
 obtain⟨total,htot⟩:∃ total:Int,total=Ieee.signed s (mant a) (expo a - base).toNat+Ieee.signed t (mant b) (expo b - base).toNat:=⟨_,rfl⟩
 have e1:sg s (steps (rung a))=Ieee.signed s (mant a) (expo a - base).toNat*((2 ^ (base+1074).toNat:Nat):Int):=by
   rw [←signed_mul,show (expo a - base).toNat+(base+1074).toNat=(expo a+1074).toNat by omega]
   unfold Ieee.signed sg; rw [steps_parts,Nat.shiftLeft_eq]
 have e2:sg t (steps (rung b))=Ieee.signed t (mant b) (expo b - base).toNat*((2 ^ (base+1074).toNat:Nat):Int):=by
   rw [←signed_mul,show (expo b - base).toNat+(base+1074).toNat=(expo b+1074).toNat by omega]
   unfold Ieee.signed sg; rw [steps_parts,Nat.shiftLeft_eq]
 have eT:sg s (steps (rung a))+sg t (steps (rung b))=total*((2 ^ (base+1074).toNat:Nat):Int):=by
   rw [e1,e2,htot,Int.add_mul]
 refine ⟨Ieee.double.nearest (if total=0 then s&&t else decide (total < 0)) total.natAbs base,?_,?_⟩
 · unfold Ieee.Datum.sum
   simp only [←hbase,←htot]
   rfl
 · have eS:sg s (steps (rung a))+sg t (steps (rung b))=sg (if total=0 then s&&t else decide (total < 0)) (total.natAbs*2 ^ (base+1074).toNat):=by
     rw [eT]
     by_cases h0:total=0
     · rw [h0,if_pos rfl,Int.zero_mul]
       cases (s&&t) <;> simp [sg]
     · rw [if_neg h0]
       by_cases h1:total < 0
       · rw [decide_eq_true h1]
         show _=-((total.natAbs*2 ^ (base+1074).toNat:Nat):Int)
         rw [Int.natCast_mul,←Int.neg_mul]; congr 1; omega
       · rw [decide_eq_false h1]
         show _=((total.natAbs*2 ^ (base+1074).toNat:Nat):Int)
         rw [Int.natCast_mul]; congr 1; omega
   rw [eS]
   exact nearest_w _ _ _ _ (by omega) (by unfold real; rw [Nat.mul_assoc,←Nat.pow_add]; congr 2; omega)
theorem add_w (a b:Nat) (ha:a < 18446744073709551616) (hb:b < 18446744073709551616) (ra:rung a < 9218868437227405312) (rb:rung b < 9218868437227405312) :
   ∃ r,floatBits .add .f64 a b=some r∧NearW (val a+val b) r:=by
 obtain⟨r,h1,h2⟩:=sum_w (sgnB a) (sgnB b) a b (expo_ge a) (expo_ge b)
 refine ⟨r,?_,h2⟩
 show ((Ieee.double.read a).sum (Ieee.double.read b)).map Ieee.double.write=_
 rw [read_num a ha ra,read_num b hb rb]
 exact h1
theorem sub_w (a b:Nat) (ha:a < 18446744073709551616) (hb:b < 18446744073709551616) (ra:rung a < 9218868437227405312) (rb:rung b < 9218868437227405312) :
   ∃ r,floatBits .sub .f64 a b=some r∧NearW (val a - val b) r:=by
 obtain⟨r,h1,h2⟩:=sum_w (sgnB a) (!sgnB b) a b (expo_ge a) (expo_ge b)
 refine ⟨r,?_,?_⟩
 · show ((Ieee.double.read a).sum (Ieee.double.read b).opposite).map Ieee.double.write=_
   rw [read_num a ha ra,read_num b hb rb]
   exact h1
 · rw [neg_sg,←Int.sub_eq_add_neg] at h2
   exact h2
theorem rep_val (d:Nat):Rep (val d):=⟨rung d,by unfold val; split <;> omega⟩
theorem NearW.faith {T:Int} {r:Nat} (N:NearW T r):Faith 1 T r where
 lt:=N.lt
 le:=N.le
 low:=fun h d _ _ hle=>by
   have:=(N.fin h).best _ (rep_val d)
   omega
 high:=fun h d _ _ hle=>by
   have:=(N.fin h).best _ (rep_val d)
   omega
 pinf:=fun h hs d _ rd=>by
   have h1:=val_in d (right_rung d rd)
   rcases N.big h with ⟨_,g⟩ | ⟨g,_⟩
   · omega
   · rw [hs] at g; cases g
 ninf:=fun h hs d _ rd=>by
   have h1:=val_in d (right_rung d rd)
   rcases N.big h with ⟨g,_⟩ | ⟨_,g⟩
   · rw [hs] at g; cases g
   · omega
theorem NearW.small {T:Int} {r:Nat} (N:NearW T r) (h:T.natAbs≤steps 9218868437227405311):rung r < 9218868437227405312:=by
 have h1:=N.le
 rcases Nat.lt_or_ge (rung r) 9218868437227405312 with g | g
 · exact g
 · rcases N.big (by omega) with ⟨_,k⟩ | ⟨_,k⟩ <;> omega
def exZ:Nat:=2045
def ZZ:Nat:=536870912*2 ^ exZ
theorem top_km (e t:Nat) (h:e*4503599627370496+9007199254740991=t):steps t=9007199254740991*2 ^ e:=by
 rw [←h]
 exact steps_km e 9007199254740991 (by decide) (Or.inr (by decide))
theorem top_is:steps 9218868437227405311=9007199254740991*2 ^ exZ:=top_km exZ _ (by unfold exZ; decide)
theorem top_big:64*ZZ≤steps 9218868437227405311:=by
 rw [top_is]
 unfold ZZ
 rw [←Nat.mul_assoc]
 exact Nat.mul_le_mul_right _ (by decide)
theorem rep_Z (k:Nat) (hk:k≤64):Rep ((k*ZZ:Nat):Int):=by
 have:=rep_mk ((k*536870912:Nat):Int) exZ (by rw [Int.natAbs_natCast]; omega)
 rw [←Int.natCast_mul,Nat.mul_assoc] at this
 exact this
theorem parts_small {A B S:Int} {Z:Nat} (hA:Rep A) (hB:Rep B) (h:Best (A+B) S) (hZ:Rep ((Z:Nat):Int)) (hS:S.natAbs < Z) (hT:¬ Rep (A+B)):A.natAbs≤2*Z∧B.natAbs≤2*Z:=by
 have hTZ:(A+B).natAbs < Z:=by
   rcases Nat.lt_or_ge (A+B).natAbs Z with g | g
   · exact g
   · have:=h.ge hZ (by rw [Int.natAbs_natCast]; exact g)
     rw [Int.natAbs_natCast] at this; omega
 obtain⟨j,g,es,hj,_⟩:=rep_parts h.rep
 obtain⟨m,k,ea,hm,_⟩:=rep_parts hA
 obtain⟨n,l,eb,hn,_⟩:=rep_parts hB
 rcases Nat.le_total k l with o | o
 · have eT:A+B=(m+n*((2 ^ (l - k):Nat):Int))*((2 ^ k:Nat):Int):=by rw [ea,eb,down_pow n o,←Int.add_mul]
   have hg:=(grid h _ k eT j g es hj hT).1
   have la:A.natAbs < 9007199254740992*2 ^ k:=by rw [ea,abs_pow]; exact Nat.mul_lt_mul_of_pos_right hm (Nat.two_pow_pos _)
   clear ea eb es eT
   omega
 · have eT:A+B=(m*((2 ^ (k - l):Nat):Int)+n)*((2 ^ l:Nat):Int):=by rw [ea,eb,down_pow m o,←Int.add_mul]
   have hg:=(grid h _ l eT j g es hj hT).1
   have lb:B.natAbs < 9007199254740992*2 ^ l:=by rw [eb,abs_pow]; exact Nat.mul_lt_mul_of_pos_right hn (Nat.two_pow_pos _)
   clear ea eb es eT
   omega
theorem two_sum_w (a b s:Nat) (ha:a < 18446744073709551616) (hb:b < 18446744073709551616) (ra:rung a < 9218868437227405312) (rb:rung b < 9218868437227405312) (N:NearW (val a+val b) s) (rs:rung s < 9218868437227405312) (hS:(val s).natAbs < ZZ) :
   ∃ c p x y d,floatBits .sub .f64 s a=some c∧floatBits .sub .f64 s c=some p∧floatBits .sub .f64 a p=some x∧floatBits .sub .f64 b c=some y∧floatBits .add .f64 x y=some d ∧
     c < 18446744073709551616∧d < 18446744073709551616∧rung d < 9218868437227405312∧val d=val a+val b - val s:=by
 have ls:=N.lt
 have hs:=N.fin rs
 have tb:=top_big
 have va:=val_in a ra
 have vb:=val_in b rb
 obtain⟨c,ec,Nc⟩:=sub_w s a ls ha rs ra
 by_cases hT:Rep (val a+val b)
 · have s1:=hs.exact hT
   have fc:=Nc.small (by rw [s1]; omega)
   have c1:val c=val b:=by
     have:=(Nc.fin fc).exact (by rw [s1,show val a+val b - val a=val b by omega]; exact rep_val b)
     omega
   obtain⟨p,ep,Np⟩:=sub_w s c ls Nc.lt rs fc
   have fp:=Np.small (by rw [s1,c1]; omega)
   have p1:val p=val a:=by
     have:=(Np.fin fp).exact (by rw [s1,c1,show val a+val b - val b=val a by omega]; exact rep_val a)
     omega
   obtain⟨x,ex,Nx⟩:=sub_w a p ha Np.lt ra fp
   have fx:=Nx.small (by rw [p1]; omega)
   have x1:val x=0:=by
     have:=(Nx.fin fx).exact (by rw [p1,Int.sub_self]; exact rep_zero)
     omega
   obtain⟨y,ey,Ny⟩:=sub_w b c hb Nc.lt rb fc
   have fy:=Ny.small (by rw [c1]; omega)
   have y1:val y=0:=by
     have:=(Ny.fin fy).exact (by rw [c1,Int.sub_self]; exact rep_zero)
     omega
   obtain⟨d,ed,Nd⟩:=add_w x y Nx.lt Ny.lt fx fy
   have fd:=Nd.small (by rw [x1,y1]; omega)
   have d1:val d=0:=by
     have:=(Nd.fin fd).exact (by rw [x1,y1]; exact rep_zero)
     omega
   exact ⟨c,p,x,y,d,ec,ep,ex,ey,ed,Nc.lt,Nd.lt,fd,by omega⟩
 · obtain⟨lA,lB⟩:=parts_small (rep_val a) (rep_val b) hs (by have:=rep_Z 1 (by decide); rw [Nat.one_mul] at this; exact this) hS hT
   have fc:=Nc.small (by omega)
   have bc:=(Nc.fin fc).le (rep_Z 4 (by decide)) (by rw [Int.natAbs_natCast]; omega)
   rw [Int.natAbs_natCast] at bc
   obtain⟨p,ep,Np⟩:=sub_w s c ls Nc.lt rs fc
   have fp:=Np.small (by omega)
   have bp:=(Np.fin fp).le (rep_Z 8 (by decide)) (by rw [Int.natAbs_natCast]; omega)
   rw [Int.natAbs_natCast] at bp
   obtain⟨x,ex,Nx⟩:=sub_w a p ha Np.lt ra fp
   have fx:=Nx.small (by omega)
   have bx:=(Nx.fin fx).le (rep_Z 16 (by decide)) (by rw [Int.natAbs_natCast]; omega)
   rw [Int.natAbs_natCast] at bx
   obtain⟨y,ey,Ny⟩:=sub_w b c hb Nc.lt rb fc
   have fy:=Ny.small (by omega)
   have byy:=(Ny.fin fy).le (rep_Z 8 (by decide)) (by rw [Int.natAbs_natCast]; omega)
   rw [Int.natAbs_natCast] at byy
   obtain⟨d,ed,Nd⟩:=add_w x y Nx.lt Ny.lt fx fy
   have fd:=Nd.small (by omega)
   exact ⟨c,p,x,y,d,ec,ep,ex,ey,ed,Nc.lt,Nd.lt,fd,two_sum (rep_val a) (rep_val b) hs (Nc.fin fc) (Np.fin fp) (Nx.fin fx) (Ny.fin fy) (Nd.fin fd)⟩
end
section
open Go.RowKit
abbrev RefR (x:Nat) (b:Bool):Prop:=∀ w:World,Calls Tryz.prog 99 #[.float .f64 x] w fun r w'=>r = .returned (.bool b)∧w=w'
abbrev RefS (c d:Nat) (up:Bool) (v:Nat) (e:Int):Prop:=∀ w:World,Calls Tryz.prog 134 #[.float .f64 c,.float .f64 d,.bool up] w fun r w'=>r = .returned (.tuple #[.float .f64 v,.int .i64 e])∧w=w'
theorem ldexp_1000 (w:World):Calls Tryz.prog 83 #[.float .f64 4607182418800017408,.int .i64 1000] w fun r w'=>r = .returned (.float .f64 9110782046170513408)∧w=w':=
 ldexp_at 4607182418800017408 0 9110782046170513408 9110782046170513408 9110782046170513408 1000 1023 1000 w (by decide +kernel) (by decide +kernel) (by decide +kernel) (by decide +kernel) (by decide +kernel) (by decide) (by decide) (by decide) (by decide +kernel) (by decide) (by decide) (by decide) (by decide) (by decide) (by decide +kernel) (by decide +kernel) (by decide +kernel) (by decide +kernel)
theorem refAdd_wrong (a b:Nat) (ra rb:Bool) (up:Bool) (w:World) (h:(ra&&rb)=false) (c1:Hid (RefR a ra)) (c2:Hid (RefR b rb)) :
   Calls Tryz.prog 101 #[.float .f64 a,.float .f64 b,.bool up] w fun r w'=>r = .returned (.tuple #[.float .f64 0,.int .i64 13])∧w=w':=by
 cases ra
 · go_enter Tryz.func101,Tryz.ntmps101
   go_wp2_with fail
   refine (c1.out _).mono ?_
   rintro r ww ⟨rfl,rfl⟩
   go_wp2
   go_ret2
   exact ⟨rfl,rfl⟩
 · obtain rfl:rb=false:=h
   go_enter Tryz.func101,Tryz.ntmps101
   go_wp2_with fail
   refine (c1.out _).mono ?_
   rintro r ww ⟨rfl,rfl⟩
   go_wp2_with fail
   refine (c2.out _).mono ?_
   rintro r ww ⟨rfl,rfl⟩
   go_wp2
   go_ret2
   exact ⟨rfl,rfl⟩
theorem refAdd_inf (a b s v:Nat) (e:Int) (up:Bool) (w:World) (c1:Hid (RefR a true)) (c2:Hid (RefR b true)) (es:floatBits .add .f64 a b=some s)
   (cI:Hid (∀ w,Calls Tryz.prog 129 #[.float .f64 s,.int .i64 0] w fun r w'=>r = .returned (.bool true)∧w=w')) (cS:Hid (RefS s 0 up v e)) :
   Calls Tryz.prog 101 #[.float .f64 a,.float .f64 b,.bool up] w fun r w'=>r = .returned (.tuple #[.float .f64 v,.int .i64 e])∧w=w':=by
 have h0:=fun t w=>run_float_arith (P:=Tryz.prog) (w:=w) .add t .f64 a b _ es
 clear es
 go_enter Tryz.func101,Tryz.ntmps101
 go_wp2_with fail
 refine (c1.out _).mono ?_
 rintro r ww ⟨rfl,rfl⟩
 go_wp2_with fail
 refine (c2.out _).mono ?_
 rintro r ww ⟨rfl,rfl⟩
 go_wp2_with fail
 refine (cI.out _).mono ?_
 rintro r ww ⟨rfl,rfl⟩
 go_wp2_with fail
 refine (cS.out _).mono ?_
 rintro r ww ⟨rfl,rfl⟩
 go_wp2
 go_ret2
 exact ⟨rfl,rfl⟩
theorem refAdd_walk (a b s t c p x y d v:Nat) (e:Int) (up:Bool) (w:World) (c1:Hid (RefR a true)) (c2:Hid (RefR b true)) (es:floatBits .add .f64 a b=some s)
   (cI:Hid (∀ w,Calls Tryz.prog 129 #[.float .f64 s,.int .i64 0] w fun r w'=>r = .returned (.bool false)∧w=w'))
   (cA:Hid (∀ w,Calls Tryz.prog 102 #[.float .f64 s] w fun r w'=>r = .returned (.float .f64 t)∧w=w'))
   (o:((FloatKind.f64.format.order t 9110782046170513408 == some Ordering.gt) || (FloatKind.f64.format.order t 9110782046170513408 == some Ordering.eq))=false)
   (ec:floatBits .sub .f64 s a=some c) (ep:floatBits .sub .f64 s c=some p) (ex:floatBits .sub .f64 a p=some x) (ey:floatBits .sub .f64 b c=some y) (ed:floatBits .add .f64 x y=some d) (cS:Hid (RefS s d up v e)) :
   Calls Tryz.prog 101 #[.float .f64 a,.float .f64 b,.bool up] w fun r w'=>r = .returned (.tuple #[.float .f64 v,.int .i64 e])∧w=w':=by
 have h0:=fun t w=>run_float_arith (P:=Tryz.prog) (w:=w) .add t .f64 a b _ es
 have h1:=fun t w=>run_float_arith (P:=Tryz.prog) (w:=w) .sub t .f64 s a _ ec
 have h2:=fun t w=>run_float_arith (P:=Tryz.prog) (w:=w) .sub t .f64 s c _ ep
 have h3:=fun t w=>run_float_arith (P:=Tryz.prog) (w:=w) .sub t .f64 a p _ ex
 have h4:=fun t w=>run_float_arith (P:=Tryz.prog) (w:=w) .sub t .f64 b c _ ey
 have h5:=fun t w=>run_float_arith (P:=Tryz.prog) (w:=w) .add t .f64 x y _ ed
 clear es ec ep ex ey ed
 go_enter Tryz.func101,Tryz.ntmps101
 go_wp2_with fail
 refine (c1.out _).mono ?_
 rintro r ww ⟨rfl,rfl⟩
 go_wp2_with fail
 refine (c2.out _).mono ?_
 rintro r ww ⟨rfl,rfl⟩
 go_wp2_with fail
 refine (cI.out _).mono ?_
 rintro r ww ⟨rfl,rfl⟩
 go_wp2_with fail
 refine (cA.out _).mono ?_
 rintro r ww ⟨rfl,rfl⟩
 go_wp2_with fail
 refine (ldexp_1000 _).mono ?_
 rintro r ww ⟨rfl,rfl⟩
 go_wp2_with fail
 refine (cS.out _).mono ?_
 rintro r ww ⟨rfl,rfl⟩
 go_wp2
 go_ret2
 exact ⟨rfl,rfl⟩
theorem refAdd_far (a b s t v:Nat) (e:Int) (up:Bool) (w:World) (c1:Hid (RefR a true)) (c2:Hid (RefR b true)) (es:floatBits .add .f64 a b=some s)
   (cI:Hid (∀ w,Calls Tryz.prog 129 #[.float .f64 s,.int .i64 0] w fun r w'=>r = .returned (.bool false)∧w=w'))
   (cA:Hid (∀ w,Calls Tryz.prog 102 #[.float .f64 s] w fun r w'=>r = .returned (.float .f64 t)∧w=w'))
   (o:((FloatKind.f64.format.order t 9110782046170513408 == some Ordering.gt) || (FloatKind.f64.format.order t 9110782046170513408 == some Ordering.eq))=true)
   (cF:Hid (∀ w,Calls Tryz.prog 147 #[.float .f64 a,.float .f64 b,.float .f64 s,.bool up] w fun r w'=>r = .returned (.tuple #[.float .f64 v,.int .i64 e])∧w=w')) :
   Calls Tryz.prog 101 #[.float .f64 a,.float .f64 b,.bool up] w fun r w'=>r = .returned (.tuple #[.float .f64 v,.int .i64 e])∧w=w':=by
 have h0:=fun t w=>run_float_arith (P:=Tryz.prog) (w:=w) .add t .f64 a b _ es
 clear es
 go_enter Tryz.func101,Tryz.ntmps101
 go_wp2_with fail
 refine (c1.out _).mono ?_
 rintro r ww ⟨rfl,rfl⟩
 go_wp2_with fail
 refine (c2.out _).mono ?_
 rintro r ww ⟨rfl,rfl⟩
 go_wp2_with fail
 refine (cI.out _).mono ?_
 rintro r ww ⟨rfl,rfl⟩
 go_wp2_with fail
 refine (cA.out _).mono ?_
 rintro r ww ⟨rfl,rfl⟩
 go_wp2_with fail
 refine (ldexp_1000 _).mono ?_
 rintro r ww ⟨rfl,rfl⟩
 go_wp2_with fail
 refine (cF.out _).mono ?_
 rintro r ww ⟨rfl,rfl⟩
 go_wp2
 go_ret2
 exact ⟨rfl,rfl⟩
theorem side_add {a b s:Nat} {gp gn:Bool} (ra:rightB a=true) (rb:rightB b=true) (N:NearW (val a+val b) s) (hp:rung s < 9218868437227405312→gp=decide (val s < val a+val b)) (hn:rung s < 9218868437227405312→gn=decide (val a+val b < val s)) (up:Bool) :
   (sideR s gp gn up).1=addW a b up∧(sideR s gp gn up).2=addE a b up:=by
 obtain⟨D,U⟩:=faith_dir N.faith (gp:=gp) (gn:=gn) (fun h=>by rw [hp h,show val s*((1:Nat):Int)=val s by omega]) (fun h=>by rw [hn h,show val s*((1:Nat):Int)=val s by omega])
 cases up
 · exact D.unique (add_down a b ra rb)
 · exact U.unique (add_up a b ra rb)
theorem sign_facts (d:Nat) (hd:d < 18446744073709551616) (rd:rung d < 9218868437227405312):(FloatKind.f64.format.order d 0 == some Ordering.gt)=decide (0 < val d)∧(FloatKind.f64.format.order d 0 == some Ordering.lt)=decide (val d < 0):=by
 rw [order_val d 0 hd (by decide) rd (by decide),val_0]
 rcases Int.lt_trichotomy (val d) 0 with g | g | g
 · rw [Int.compare_eq_lt.2 g,decide_eq_true g,decide_eq_false (by omega)]; exact ⟨rfl,rfl⟩
 · rw [Int.compare_eq_eq.2 g,decide_eq_false (by omega),decide_eq_false (by omega)]; exact ⟨rfl,rfl⟩
 · rw [Int.compare_eq_gt.2 g,decide_eq_true g,decide_eq_false (by omega)]; exact ⟨rfl,rfl⟩
theorem low_km (e t:Nat) (h:e*4503599627370496+4503599627370496=t):steps t=4503599627370496*2 ^ e:=by
 rw [←h]
 exact steps_km e 4503599627370496 (by decide) (Or.inr (by decide))
def exY:Nat:=2022
theorem exZY:exZ=exY+23:=rfl
theorem zz_steps:steps 9110782046170513408=ZZ:=by
 have h:ZZ=4503599627370496*2 ^ exY:=by
   unfold ZZ
   rw [exZY,Nat.pow_add,Nat.mul_comm (2 ^ exY),←Nat.mul_assoc]
 rw [h]
 exact low_km exY _ (by unfold exY; decide)
theorem refAdd_near (a b s:Nat) (up:Bool) (w:World) (la:a < 18446744073709551616) (lb:b < 18446744073709551616) (ra:rightB a=true) (rb:rightB b=true) (es:floatBits .add .f64 a b=some s) (N:NearW (val a+val b) s) (hS:rung s=9218868437227405312∨rung s < 9110782046170513408) :
   Calls Tryz.prog 101 #[.float .f64 a,.float .f64 b,.bool up] w fun r w'=>r = .returned (.tuple #[.float .f64 (addW a b up),.int .i64 (addE a b up)])∧w=w':=by
 have c1:=fun w=>refRight_any a w la
 have c2:=fun w=>refRight_any b w lb
 rw [ra] at c1
 rw [rb] at c2
 have hn:nanB s=false:=decide_eq_false (by have:=N.le; omega)
 have cI:=fun w=>isInf0_any s w N.lt hn
 rcases hS with hi | hS
 · rw [show infB s=true from decide_eq_true hi] at cI
   obtain⟨e1,e2⟩:=side_add (gp:=false) (gn:=false) ra rb N (fun h=>by omega) (fun h=>by omega) up
   have cS:=fun w=>refSide_any s 0 false false up w N.lt N.le (by decide +kernel) (by decide +kernel)
   rw [e1,e2] at cS
   exact refAdd_inf a b s _ _ up w (Lib.hid c1) (Lib.hid c2) es (Lib.hid cI) (Lib.hid cS)
 · have rs:rung s < 9218868437227405312:=by omega
   rw [show infB s=false from decide_eq_false (by omega)] at cI
   have hz:(val s).natAbs < ZZ:=by
     have h1:(val s).natAbs=steps (rung s):=by unfold val; split <;> omega
     have h2:=steps_lt hS
     have h3:steps 9110782046170513408=ZZ:=by
       exact zz_steps
     omega
   obtain⟨c,p,x,y,d,ec,ep,ex,ey,ed,lc,ld,rd,hd⟩:=two_sum_w a b s la lb (right_rung a ra) (right_rung b rb) N rs hz
   obtain⟨g1,g2⟩:=sign_facts d ld rd
   obtain⟨e1,e2⟩:=side_add (gp:=decide (0 < val d)) (gn:=decide (val d < 0)) ra rb N (fun _=>by rw [hd]; congr 1; exact propext ⟨fun h=>by omega,fun h=>by omega⟩) (fun _=>by rw [hd]; congr 1; exact propext ⟨fun h=>by omega,fun h=>by omega⟩) up
   have cS:=fun w=>refSide_any s d _ _ up w N.lt N.le g1 g2
   rw [e1,e2] at cS
   obtain⟨p1,p2,_,_,_⟩:=pos_facts (rung s) rs
   have o:((FloatKind.f64.format.order (rung s) 9110782046170513408 == some Ordering.gt) || (FloatKind.f64.format.order (rung s) 9110782046170513408 == some Ordering.eq))=false:=by
     rw [order_gt _ _ p1 (by decide) p2 (by decide),order_eq _ _ p1 (by decide) p2 (by decide)]
     have q1:=(pos_facts (rung s) rs).2.2.2.2
     have q2:=(pos_facts 9110782046170513408 (by decide)).2.2.2.2
     have q3:=steps_lt hS
     rw [q1,q2,decide_eq_false (by omega),decide_eq_false (by omega)]; rfl
   exact refAdd_walk a b s (rung s) c p x y d _ _ up w (Lib.hid c1) (Lib.hid c2) es (Lib.hid cI) (Lib.hid fun w=>abs_any s w N.lt) o ec ep ex ey ed (Lib.hid cS)
end
end Go.Proofs.YtnaomilkgfkegaaGreat
