/- What the claim stands on, part 12: QRefY. -/
import Derived.Test.YtnaomilkgfkegaaGreatTA10
import Derived.IntWalk
set_option maxRecDepth 100000
namespace Go.Proofs.YtnaomilkgfkegaaGreat
section
open Go.RowKit
theorem ldx_norm (F G A S X R:Nat) (e Q E x:Int) (w:World) (b0:bits .andNot .u64 (F:Int) 9223372036854775808=G)
   (o1:(FloatKind.f64.format.order F 0 == some Ordering.eq)=false) (o2:(FloatKind.f64.format.order G 9218868437227405311 == some Ordering.gt)=false)
   (o3:(FloatKind.f64.format.order F F != some Ordering.eq)=false) (o4:(FloatKind.f64.format.order G 4503599627370496 == some Ordering.lt)=false)
   (s1:(F:Int) / 4503599627370496=Q) (q0:0≤Q) (q1:Q≤4095) (e0:0≤E) (e1:E≤2047) (a1:bits .and .i64 Q 2047=E) (f0:-3000≤e) (f1:e≤3000) (r1:e+(E - 1023)=x) (r2:-1022≤x) (r3:x≤1023)
   (a2:bits .andNot .u64 (F:Int) 9218868437227405312=A) (sh:IntKind.u64.wrap ((x+1023)*4503599627370496)=S) (o5:bits .or .u64 (A:Int) (S:Int)=X)
   (hm:floatBits .mul .f64 4607182418800017408 X=some R) :
   Calls Tryz.prog 83 #[.float .f64 F,.int .i64 e] w fun r w'=>r = .returned (.float .f64 R)∧w=w':=by
 have h1:=run_bits
 have h2:=run_frombits
 have h3:=fun w=>run_float_arith (P:=Tryz.prog) w .mul 25 .f64 4607182418800017408 X R hm
 go_enter Tryz.func83,Tryz.ntmps83
 go_wp2
 go_ret
 exact ⟨rfl,rfl⟩
theorem ldx_zero (F:Nat) (e:Int) (w:World) (o1:(FloatKind.f64.format.order F 0 == some Ordering.eq)=true) :
   Calls Tryz.prog 83 #[.float .f64 F,.int .i64 e] w fun r w'=>r = .returned (.float .f64 F)∧w=w':=by
 go_enter Tryz.func83,Tryz.ntmps83
 go_wp2
 go_ret
 exact ⟨rfl,rfl⟩
theorem ldx_none (F G Z:Nat) (e Q E x s:Int) (w:World) (b0:bits .andNot .u64 (F:Int) 9223372036854775808=G)
   (o1:(FloatKind.f64.format.order F 0 == some Ordering.eq)=false) (o2:(FloatKind.f64.format.order G 9218868437227405311 == some Ordering.gt)=false)
   (o3:(FloatKind.f64.format.order F F != some Ordering.eq)=false) (o4:(FloatKind.f64.format.order G 4503599627370496 == some Ordering.lt)=false)
   (s1:(F:Int) / 4503599627370496=Q) (q0:0≤Q) (q1:Q≤4095) (e0:0≤E) (e1:E≤2047) (a1:bits .and .i64 Q 2047=E) (f0:-3000≤e) (f1:e≤3000) (r1:e+(E - 1023)=x) (r2:x < -1075)
   (g1:bits .and .u64 (F:Int) 9223372036854775808=s) (g2:bits .or .u64 0 s=(Z:Int)) :
   Calls Tryz.prog 83 #[.float .f64 F,.int .i64 e] w fun r w'=>r = .returned (.float .f64 Z)∧w=w':=by
 have h1:=run_bits
 have h2:=run_frombits
 have b1:bits .andNot .u64 0 9223372036854775808=0:=by decide +kernel
 go_enter Tryz.func83,Tryz.ntmps83
 go_wp2
 go_ret
 exact ⟨rfl,rfl⟩
theorem or_parts (s f k:Nat) (hf:f < 4503599627370496) (hk:k < 2048):(s*9223372036854775808+f) ||| (k*4503599627370496)=s*9223372036854775808+k*4503599627370496+f:=by
 have e1:s*9223372036854775808+f=2 ^ 52*(2 ^ 11*s) ||| f:=by
   have h:=Nat.two_pow_add_eq_or_of_lt (i:=52) (b:=f) hf (2 ^ 11*s)
   refine Eq.trans ?_ h
   omega
 have e2:2 ^ 52*(2 ^ 11*s) ||| 2 ^ 52*k=2 ^ 52*(2 ^ 11*s+k):=by
   rw [Nat.two_pow_add_eq_or_of_lt (show k < 2 ^ 11 from hk)]
   have:=Nat.shiftLeft_or_distrib (a:=2 ^ 11*s) (b:=k) (i:=52)
   simp only [Nat.shiftLeft_eq] at this
   rw [Nat.mul_comm (2 ^ 52),Nat.mul_comm (2 ^ 52),Nat.mul_comm (2 ^ 52)]
   exact this.symm
 have p52:(2:Nat) ^ 52=4503599627370496:=by decide
 have e3:k*4503599627370496=2 ^ 52*k:=by rw [p52,Nat.mul_comm]
 have e4:∀ A C A' C':Nat,A=A'→C=C'→A ||| C=A' ||| C':=fun _ _ _ _ h1 h2=>by rw [h1,h2]
 refine (e4 _ _ _ _ e1 e3).trans ?_
 have e5:∀ X Y Z:Nat,(X ||| Y) ||| Z=(X ||| Z) ||| Y:=fun X Y Z=>by rw [Nat.or_assoc,Nat.or_comm Y,←Nat.or_assoc]
 refine (e5 _ _ _).trans ((e4 _ _ _ _ e2 rfl).trans ?_)
 refine (Nat.two_pow_add_eq_or_of_lt (i:=52) hf _).symm.trans ?_
 omega
theorem and_parts (F:Nat) (hF:F < 18446744073709551616):bits .andNot .u64 (F:Int) 9218868437227405312=((F / 9223372036854775808*9223372036854775808+F % 4503599627370496:Nat):Int):=by
 have h:=bits_andNot_u64_nat F 9218868437227405312 hF (by decide)
 rw [show ((9218868437227405312:Nat):Int)=9218868437227405312 from rfl] at h
 rw [h]
 have e1:(18446744073709551615 - 9218868437227405312:Nat)=2 ^ 63 ||| (2 ^ 52 - 1):=by decide
 rw [e1,Nat.and_or_distrib_left,and_two_pow_eq,and_mask]
 have e2:F / 2 ^ 63 % 2=F / 9223372036854775808:=by omega
 rw [e2,show F / 9223372036854775808*2 ^ 63=2 ^ 63*(F / 9223372036854775808) by omega,←Nat.two_pow_add_eq_or_of_lt (show F % 2 ^ 52 < 2 ^ 63 by omega)]
theorem and2047 (q:Nat) (hq:q < 4096):bits .and .i64 (q:Int) 2047=((q % 2048:Nat):Int):=by
 have h1:(BitVec.ofInt 64 (q:Int)).toNat=q:=by
   rw [BitVec.ofInt_natCast,BitVec.toNat_ofNat]; exact Nat.mod_eq_of_lt (by omega)
 have h2:(BitVec.ofInt 64 2047).toNat=2 ^ 11 - 1:=by decide
 show IntKind.i64.wrap ((BitVec.ofInt 64 (q:Int) &&& BitVec.ofInt 64 2047).toNat:Int)=_
 rw [BitVec.toNat_and,h1,h2,and_mask]
 exact IntWalk.i64_in _ ⟨by omega,by omega⟩
theorem one_mul_w (X:Nat) (hX:X < 18446744073709551616) (rX:rightB X=true) (h0:val X≠0):floatBits .mul .f64 4607182418800017408 X=some X:=by
 obtain⟨r,e,B⟩:=mul_beside 4607182418800017408 X (by decide) hX (by decide) rX
 have v1:val 4607182418800017408=((2 ^ sq:Nat):Int):=by decide +kernel
 have hp:(0:Int) < ((2 ^ sq:Nat):Int):=by have:=Nat.two_pow_pos sq; omega
 rw [v1] at B
 obtain⟨l,g,hv⟩:=B X X (Or.inl ⟨rfl,hX,rX,by rw [Int.mul_comm]; exact Int.le_refl _,fun d _ _ h=>by rw [Int.mul_comm ((2 ^ sq:Nat):Int)] at h; exact Int.le_of_mul_le_mul_right h hp⟩)
   (Or.inl ⟨rfl,hX,rX,by rw [Int.mul_comm]; exact Int.le_refl _,fun d _ _ h=>by rw [Int.mul_comm ((2 ^ sq:Nat):Int)] at h; exact Int.le_of_mul_le_mul_right h hp⟩)
 have hv':val r=val X:=by rcases hv with h | h <;> exact h
 have rr:rightB r=true:=by
   unfold rightB
   unfold rung at g
   rw [decide_eq_true g]
   have:r≠9223372036854775808:=fun h=>by
     have hz:val 9223372036854775808=0:=by decide
     rw [h,hz] at hv'
     exact h0 hv'.symm
   rw [decide_eq_false this]; rfl
 rw [e,val_inj l hX rr rX hv']
theorem ldexp_exact (s E f k:Nat) (e:Int) (w:World) (hs:s≤1) (hE0:1≤E) (hE:E≤2046) (hf:f < 4503599627370496) (hk0:1≤k) (hk:k≤2046) (he:e+E=k) :
   Calls Tryz.prog 83 #[.float .f64 (s*9223372036854775808+E*4503599627370496+f),.int .i64 e] w fun r w'=>r = .returned (.float .f64 (s*9223372036854775808+k*4503599627370496+f))∧w=w':=by
 obtain⟨F,hF⟩:∃ F,F=s*9223372036854775808+E*4503599627370496+f:=⟨_,rfl⟩
 obtain⟨X,hX⟩:∃ X,X=s*9223372036854775808+k*4503599627370496+f:=⟨_,rfl⟩
 rw [←hF,←hX]
 have lF:F < 18446744073709551616:=by omega
 have lX:X < 18446744073709551616:=by omega
 have gF:rung F=E*4503599627370496+f:=by unfold rung; omega
 have gX:rung X=k*4503599627370496+f:=by unfold rung; omega
 have rF:rightB F=true:=by unfold rightB; rw [decide_eq_true (by omega),decide_eq_false (by omega)]; rfl
 have rX:rightB X=true:=by unfold rightB; rw [decide_eq_true (by omega),decide_eq_false (by omega)]; rfl
 have fin:rung F < 9218868437227405312:=by omega
 obtain⟨p1,p2,_,_,p5⟩:=pos_facts (rung F) fin
 have nz:∀ y,rung y≠0→val y≠0:=fun y h=>by
   have hz:steps (rung y)≠0:=fun hz=>h ((steps_zero (rung y)).1 hz)
   unfold val; split <;> omega
 have hn:nanB F=false:=decide_eq_false (by omega)
 have o1:(FloatKind.f64.format.order F 0 == some Ordering.eq)=false:=by
   rw [order_zero_any F lF fin]; exact decide_eq_false (by omega)
 have o2:(FloatKind.f64.format.order (rung F) 9218868437227405311 == some Ordering.gt)=false:=by
   rw [order_inf F lF hn]; exact decide_eq_false (by omega)
 have o3:(FloatKind.f64.format.order F F != some Ordering.eq)=false:=by rw [order_nan F lF]; exact hn
 have o4:(FloatKind.f64.format.order (rung F) 4503599627370496 == some Ordering.lt)=false:=by
   have q5:=(pos_facts 4503599627370496 (by decide)).2.2.2.2
   have h:=steps_le (show 4503599627370496≤rung F by omega)
   rw [order_val (rung F) _ p1 (by decide) (by rw [show rung (rung F)=rung F by unfold rung; omega]; exact fin) (by decide),p5,q5]
   rcases Int.lt_trichotomy (steps (rung F):Int) (steps 4503599627370496:Int) with g | g | g
   · omega
   · rw [Int.compare_eq_eq.2 g]; rfl
   · rw [Int.compare_eq_gt.2 g]; rfl
 have a1:=and2047 (F / 4503599627370496) (by omega)
 rw [show F / 4503599627370496 % 2048=E by omega] at a1
 have a2:=and_parts F lF
 have o5:bits .or .u64 ((F / 9223372036854775808*9223372036854775808+F % 4503599627370496:Nat):Int) ((k*4503599627370496:Nat):Int)=X:=by
   rw [bits_or_u64_nat _ _ (by omega) (by omega),show F / 9223372036854775808=s by omega,show F % 4503599627370496=f by omega,or_parts s f k hf (by omega)]
   omega
 exact ldx_norm F (rung F) _ (k*4503599627370496) X X e ((F / 4503599627370496:Nat):Int) E (k - 1023) w (andNot_sign F lF) o1 o2 o3 o4 (by omega) (by omega) (by omega) (by omega) (by omega) a1 (by omega) (by omega) (by omega) (by omega) (by omega) a2
   (by rw [IntKind.wrap_u64]; omega) o5 (one_mul_w X lX rX (nz X (by omega)))
theorem ldx_low (F G A S X R:Nat) (e Q E x:Int) (w:World) (b0:bits .andNot .u64 (F:Int) 9223372036854775808=G)
   (o1:(FloatKind.f64.format.order F 0 == some Ordering.eq)=false) (o2:(FloatKind.f64.format.order G 9218868437227405311 == some Ordering.gt)=false)
   (o3:(FloatKind.f64.format.order F F != some Ordering.eq)=false) (o4:(FloatKind.f64.format.order G 4503599627370496 == some Ordering.lt)=false)
   (s1:(F:Int) / 4503599627370496=Q) (q0:0≤Q) (q1:Q≤4095) (e0:0≤E) (e1:E≤2047) (a1:bits .and .i64 Q 2047=E) (f0:-3000≤e) (f1:e≤3000) (r1:e+(E - 1023)=x) (r2:-1075≤x) (r3:x < -1022)
   (a2:bits .andNot .u64 (F:Int) 9218868437227405312=A) (sh:IntKind.u64.wrap ((x+53+1023)*4503599627370496)=S) (o5:bits .or .u64 (A:Int) (S:Int)=X)
   (hm:floatBits .mul .f64 4368491638549381120 X=some R) :
   Calls Tryz.prog 83 #[.float .f64 F,.int .i64 e] w fun r w'=>r = .returned (.float .f64 R)∧w=w':=by
 have h1:=run_bits
 have h2:=run_frombits
 have h3:=fun w=>run_float_arith (P:=Tryz.prog) w .mul 25 .f64 4368491638549381120 X R hm
 go_enter Tryz.func83,Tryz.ntmps83
 go_wp2
 go_ret
 exact ⟨rfl,rfl⟩
theorem ldx_sub (F G F2 Z:Nat) (e Q E x s:Int) (w:World) (b0:bits .andNot .u64 (F:Int) 9223372036854775808=G)
   (o1:(FloatKind.f64.format.order F 0 == some Ordering.eq)=false) (o2:(FloatKind.f64.format.order G 9218868437227405311 == some Ordering.gt)=false)
   (o3:(FloatKind.f64.format.order F F != some Ordering.eq)=false) (o4:(FloatKind.f64.format.order G 4503599627370496 == some Ordering.lt)=true)
   (hq:floatBits .mul .f64 F 4841369599423283200=some F2)
   (s1:(F2:Int) / 4503599627370496=Q) (q0:0≤Q) (q1:Q≤4095) (e0:0≤E) (e1:E≤2047) (a1:bits .and .i64 Q 2047=E) (f0:-3000≤e) (f1:e≤3000) (r1:e - 52+(E - 1023)=x) (r2:x < -1075)
   (g1:bits .and .u64 (F2:Int) 9223372036854775808=s) (g2:bits .or .u64 0 s=(Z:Int)) :
   Calls Tryz.prog 83 #[.float .f64 F,.int .i64 e] w fun r w'=>r = .returned (.float .f64 Z)∧w=w':=by
 have h1:=run_bits
 have h2:=run_frombits
 have h3:=fun w=>run_float_arith (P:=Tryz.prog) w .mul 25 .f64 F 4841369599423283200 F2 hq
 have b1:bits .andNot .u64 0 9223372036854775808=0:=by decide +kernel
 have r0:e + -52+(E - 1023)=x:=by omega
 go_enter Tryz.func83,Tryz.ntmps83
 go_wp2
 go_ret
 exact ⟨rfl,rfl⟩
end
section
open Go.RowKit
theorem frx_norm (F G A X:Nat) (Q E x:Int) (w:World) (b0:bits .andNot .u64 (F:Int) 9223372036854775808=G)
   (o1:(FloatKind.f64.format.order F 0 == some Ordering.eq)=false) (o2:(FloatKind.f64.format.order G 9218868437227405311 == some Ordering.gt)=false)
   (o3:(FloatKind.f64.format.order F F != some Ordering.eq)=false) (o4:(FloatKind.f64.format.order G 4503599627370496 == some Ordering.lt)=false)
   (s1:(F:Int) / 4503599627370496=Q) (e0:0≤E) (e1:E≤2047) (a1:bits .and .i64 Q 2047=E) (a1':bits .and .u64 Q 2047=E) (r1:E - 1023+1=x)
   (a2:bits .andNot .u64 (F:Int) 9218868437227405312=A) (o5:bits .or .u64 (A:Int) 4602678819172646912=X) :
   Calls Tryz.prog 131 #[.float .f64 F] w fun r w'=>r = .returned (.tuple #[.float .f64 X,.int .i64 x])∧w=w':=by
 have h1:=run_bits
 have h2:=run_frombits
 go_enter Tryz.func131,Tryz.ntmps131
 go_wp2
 go_ret2
 exact ⟨rfl,rfl⟩
theorem run_fma (x y z r:Nat) (h:FloatKind.f64.format.fma x y z=some r) (w:World):(callFunc 135 #[.float .f64 x,.float .f64 y,.float .f64 z]).run Tryz.prog w = .ok (.value (.float .f64 r)) w:=by
 rw [run_callFunc_extern (e:=Extern.MathFMA.fma) Tryz.func135 (by kernel_rfl) (by kernel_rfl) (by kernel_rfl) (by kernel_rfl)]
 have e:Extern.MathFMA.fma #[.float .f64 x,.float .f64 y,.float .f64 z]=(match FloatKind.f64.format.fma x y z with
   | some r=>pure (.float .f64 r)
   | none=>do
     let (a,b):=if Extern.MathFMA.isNaN x then (x,y) else if Extern.MathFMA.isNaN y then (y,z) else (z,z)
     pure (.float .f64 (←choose (.nanBits .f64 a b)))):=rfl
 rw [e,h]
 rfl
end
section
open Go.RowKit
abbrev LdxR (F:Nat) (e:Int) (r:Nat):Prop:=∀ w:World,Calls Tryz.prog 83 #[.float .f64 F,.int .i64 e] w fun q w'=>q = .returned (.float .f64 r)∧w=w'
abbrev AbsR (F r:Nat):Prop:=∀ w:World,Calls Tryz.prog 102 #[.float .f64 F] w fun q w'=>q = .returned (.float .f64 r)∧w=w'
theorem far_x (a b s x y t gx v:Nat) (e:Int) (up:Bool) (w:World) (cx:Hid (LdxR a (-60) x)) (cy:Hid (LdxR b (-60) y)) (ct:Hid (LdxR s (-60) t)) (ax:Hid (AbsR x gx))
   (o:(FloatKind.f64.format.order gx 4607182418800017408 == some Ordering.lt)=true) (cS:Hid (RefS s a up v e)) :
   Calls Tryz.prog 147 #[.float .f64 a,.float .f64 b,.float .f64 s,.bool up] w fun r w'=>r = .returned (.tuple #[.float .f64 v,.int .i64 e])∧w=w':=by
 go_enter Tryz.func147,Tryz.ntmps147
 go_wp2_with fail
 refine (cx.out _).mono ?_
 rintro r ww ⟨rfl,rfl⟩
 go_wp2_with fail
 refine (cy.out _).mono ?_
 rintro r ww ⟨rfl,rfl⟩
 go_wp2_with fail
 refine (ct.out _).mono ?_
 rintro r ww ⟨rfl,rfl⟩
 go_wp2_with fail
 refine (ax.out _).mono ?_
 rintro r ww ⟨rfl,rfl⟩
 go_wp2_with fail
 refine (cS.out _).mono ?_
 rintro r ww ⟨rfl,rfl⟩
 go_wp2
 go_ret2
 exact ⟨rfl,rfl⟩
theorem far_y (a b s x y t gx gy v:Nat) (e:Int) (up:Bool) (w:World) (cx:Hid (LdxR a (-60) x)) (cy:Hid (LdxR b (-60) y)) (ct:Hid (LdxR s (-60) t)) (ax:Hid (AbsR x gx)) (ay:Hid (AbsR y gy))
   (o:(FloatKind.f64.format.order gx 4607182418800017408 == some Ordering.lt)=false) (o':(FloatKind.f64.format.order gy 4607182418800017408 == some Ordering.lt)=true) (cS:Hid (RefS s b up v e)) :
   Calls Tryz.prog 147 #[.float .f64 a,.float .f64 b,.float .f64 s,.bool up] w fun r w'=>r = .returned (.tuple #[.float .f64 v,.int .i64 e])∧w=w':=by
 go_enter Tryz.func147,Tryz.ntmps147
 go_wp2_with fail
 refine (cx.out _).mono ?_
 rintro r ww ⟨rfl,rfl⟩
 go_wp2_with fail
 refine (cy.out _).mono ?_
 rintro r ww ⟨rfl,rfl⟩
 go_wp2_with fail
 refine (ct.out _).mono ?_
 rintro r ww ⟨rfl,rfl⟩
 go_wp2_with fail
 refine (ax.out _).mono ?_
 rintro r ww ⟨rfl,rfl⟩
 go_wp2_with fail
 refine (ay.out _).mono ?_
 rintro r ww ⟨rfl,rfl⟩
 go_wp2_with fail
 refine (cS.out _).mono ?_
 rintro r ww ⟨rfl,rfl⟩
 go_wp2
 go_ret2
 exact ⟨rfl,rfl⟩
theorem far_z (a b s x y t gx gy c p q r0 d v:Nat) (e:Int) (up:Bool) (w:World) (cx:Hid (LdxR a (-60) x)) (cy:Hid (LdxR b (-60) y)) (ct:Hid (LdxR s (-60) t)) (ax:Hid (AbsR x gx)) (ay:Hid (AbsR y gy))
   (o:(FloatKind.f64.format.order gx 4607182418800017408 == some Ordering.lt)=false) (o':(FloatKind.f64.format.order gy 4607182418800017408 == some Ordering.lt)=false)
   (ec:floatBits .sub .f64 t x=some c) (ep:floatBits .sub .f64 t c=some p) (eq:floatBits .sub .f64 x p=some q) (er:floatBits .sub .f64 y c=some r0) (ed:floatBits .add .f64 q r0=some d) (cS:Hid (RefS s d up v e)) :
   Calls Tryz.prog 147 #[.float .f64 a,.float .f64 b,.float .f64 s,.bool up] w fun r w'=>r = .returned (.tuple #[.float .f64 v,.int .i64 e])∧w=w':=by
 have h1:=fun t w=>run_float_arith (P:=Tryz.prog) (w:=w) .sub t .f64 _ _ _ ec
 have h2:=fun t w=>run_float_arith (P:=Tryz.prog) (w:=w) .sub t .f64 _ _ _ ep
 have h3:=fun t w=>run_float_arith (P:=Tryz.prog) (w:=w) .sub t .f64 _ _ _ eq
 have h4:=fun t w=>run_float_arith (P:=Tryz.prog) (w:=w) .sub t .f64 _ _ _ er
 have h5:=fun t w=>run_float_arith (P:=Tryz.prog) (w:=w) .add t .f64 _ _ _ ed
 clear ec ep eq er ed
 go_enter Tryz.func147,Tryz.ntmps147
 go_wp2_with fail
 refine (cx.out _).mono ?_
 rintro r ww ⟨rfl,rfl⟩
 go_wp2_with fail
 refine (cy.out _).mono ?_
 rintro r ww ⟨rfl,rfl⟩
 go_wp2_with fail
 refine (ct.out _).mono ?_
 rintro r ww ⟨rfl,rfl⟩
 go_wp2_with fail
 refine (ax.out _).mono ?_
 rintro r ww ⟨rfl,rfl⟩
 go_wp2_with fail
 refine (ay.out _).mono ?_
 rintro r ww ⟨rfl,rfl⟩
 go_wp2_with fail
 refine (cS.out _).mono ?_
 rintro r ww ⟨rfl,rfl⟩
 go_wp2
 go_ret2
 exact ⟨rfl,rfl⟩
end
section
open Go.RowKit
theorem ldx_facts (F:Nat) (lF:F < 18446744073709551616) (fin:rung F < 9218868437227405312) (h0:rung F≠0) :
   (FloatKind.f64.format.order F 0 == some Ordering.eq)=false∧(FloatKind.f64.format.order (rung F) 9218868437227405311 == some Ordering.gt)=false ∧
   (FloatKind.f64.format.order F F != some Ordering.eq)=false∧(FloatKind.f64.format.order (rung F) 4503599627370496 == some Ordering.lt)=decide (rung F < 4503599627370496):=by
 obtain⟨p1,p2,_,p4,p5⟩:=pos_facts (rung F) fin
 have hn:nanB F=false:=decide_eq_false (by omega)
 refine ⟨?_,?_,?_,?_⟩
 · rw [order_zero_any F lF fin]; exact decide_eq_false h0
 · rw [order_inf F lF hn]; exact decide_eq_false (by omega)
 · rw [order_nan F lF]; exact hn
 · have q5:=(pos_facts 4503599627370496 (by decide)).2.2.2.2
   have hh:=steps_le_iff 4503599627370496 (rung F)
   rw [order_val (rung F) _ p1 (by decide) (by rw [p4]; exact fin) (by decide),p5,q5]
   generalize steps 4503599627370496=T at hh ⊢
   generalize steps (rung F)=V at hh ⊢
   rcases Int.lt_trichotomy (V:Int) (T:Int) with g | g | g
   · rw [Int.compare_eq_lt.2 g,decide_eq_true (by omega)]; rfl
   · rw [Int.compare_eq_eq.2 g,decide_eq_false (by omega)]; rfl
   · rw [Int.compare_eq_gt.2 g,decide_eq_false (by omega)]; rfl
theorem sign_or (F:Nat) (lF:F < 18446744073709551616):bits .and .u64 (F:Int) 9223372036854775808=((F / 9223372036854775808*9223372036854775808:Nat):Int)∧bits .or .u64 0 ((F / 9223372036854775808*9223372036854775808:Nat):Int)=((F / 9223372036854775808*9223372036854775808:Nat):Int):=by
 constructor
 · have h:=bits_and_u64_nat F 9223372036854775808 lF (by decide)
   have h2:=and_two_pow_eq F 63
   rw [show (2:Nat) ^ 63=9223372036854775808 by decide,show F / 9223372036854775808 % 2=F / 9223372036854775808 by omega] at h2
   rw [h2] at h
   exact h
 · have h:=bits_or_u64_nat 0 (F / 9223372036854775808*9223372036854775808) (by decide) (by omega)
   rw [Nat.zero_or] at h
   exact h
theorem mul_small (a b K:Nat) (la:a < 18446744073709551616) (lb:b < 18446744073709551616) (ra:rightB a=true) (rb:rightB b=true) (k0:0 < K) (hK:K < 9218868437227405312) (h:(val a).natAbs*(val b).natAbs≤steps K*2 ^ sq) :
   ∃ r,floatBits .mul .f64 a b=some r∧r < 18446744073709551616∧rung r≤K:=by
 obtain⟨r,er,hB⟩:=mul_beside a b la lb ra rb
 refine ⟨r,er,?_⟩
 rw [←Int.natAbs_mul] at h
 obtain⟨D,_⟩:=mul_dir a b ra rb false
 obtain⟨_,U⟩:=mul_dir a b ra rb true
 have D:=D rfl
 have U:=U rfl
 obtain⟨c1,c2,_,c4,c5⟩:=pos_facts K hK
 have n1:K+9223372036854775808 < 18446744073709551616:=by omega
 have nr:rung (K+9223372036854775808)=K:=by unfold rung; omega
 have n2:rightB (K+9223372036854775808)=true:=by
   unfold rightB; unfold rung at nr
   rw [nr,decide_eq_true hK,decide_eq_false (by omega)]; rfl
 have n5:val (K+9223372036854775808)=-(steps K:Int):=by
   rw [val_negs (decide_eq_true (by omega)),nr]
 have hp:0 < 2 ^ sq:=Nat.two_pow_pos _
 generalize 2 ^ sq=P at *
 generalize val a*val b=T at *
 have b1:T≤val K*(P:Int):=by rw [c5,←Int.natCast_mul]; omega
 have b2:val (K+9223372036854775808)*(P:Int)≤T:=by rw [n5,Int.neg_mul,←Int.natCast_mul]; omega
 have hP:(0:Int) < (P:Int):=Int.natCast_pos.2 hp
 rcases D with ⟨e1,x1,x2,x3,x4⟩ | ⟨_,_,g⟩
 · rcases U with ⟨f1,y1,y2,y3,y4⟩ | ⟨_,_,g⟩
   · obtain⟨l,f,hv⟩:=hB _ _ (Or.inl ⟨rfl,x1,x2,x3,x4⟩) (Or.inl ⟨rfl,y1,y2,y3,y4⟩)
     refine ⟨l,?_⟩
     have u1:=x4 _ n1 n2 b2
     have u2:=y4 _ c1 c2 b1
     have u3:=Int.le_of_mul_le_mul_right (Int.le_trans x3 b1) hP
     have u4:=Int.le_of_mul_le_mul_right (Int.le_trans b2 y3) hP
     have h1:(val r).natAbs=steps (rung r):=by unfold val; split <;> omega
     exact (steps_le_iff _ _).1 (by rcases hv with hv | hv <;> omega)
   · exact absurd b1 (Int.not_le.2 (g _ c1 c2))
 · exact absurd b2 (Int.not_le.2 (g _ n1 n2))
theorem ldx_any (F:Nat) (lF:F < 18446744073709551616) (rF:rightB F=true) (big:61*4503599627370496≤rung F→LdxR F (-60) (F - 60*4503599627370496)) :
   ∃ x,x < 18446744073709551616∧LdxR F (-60) x∧((rung F < 1083*4503599627370496∧rung x < 1023*4503599627370496)∨(1083*4503599627370496≤rung F∧x=F - 60*4503599627370496)):=by
 have fin:=right_rung F rF
 rcases Nat.lt_or_ge (rung F) (61*4503599627370496) with h | h
 · by_cases h0:rung F=0
   · exact ⟨F,lF,fun w=>ldx_zero F (-60) w (by rw [order_zero_any F lF fin]; exact decide_eq_true h0),Or.inl ⟨by omega,by omega⟩⟩
   obtain⟨o1,o2,o3,o4⟩:=ldx_facts F lF fin h0
   have b0:=andNot_sign F lF
   rcases Nat.lt_or_ge (rung F) 4503599627370496 with hs | hs
   · rw [decide_eq_true hs] at o4
     have v1:val 4841369599423283200=((4503599627370496*2 ^ sq:Nat):Int):=by
       rw [(pos_facts 4841369599423283200 (by decide)).2.2.2.2,low_km sq _ (by unfold sq; decide)]
     have v2:(val F).natAbs=rung F:=by
       have h1:(val F).natAbs=steps (rung F):=by unfold val; split <;> omega
       rw [h1]; unfold steps; rw [if_pos (by omega)]
     have v3:steps (53*4503599627370496)=4503599627370496*2 ^ 52:=low_km 52 _ (by decide)
     obtain⟨F2,e2,l2,r2⟩:=mul_small F 4841369599423283200 (53*4503599627370496) lF (by decide) rF (by decide) (by decide) (by decide) (by
       rw [v1,v2,v3,Int.natAbs_natCast,←Nat.mul_assoc]
       exact Nat.mul_le_mul_right _ (by omega))
     obtain⟨g1,g2⟩:=sign_or F2 l2
     have a1:=and2047 (F2 / 4503599627370496) (by omega)
     have r2':F2 % 9223372036854775808≤53*4503599627370496:=r2
     exact ⟨_,by omega,fun w=>ldx_sub F _ F2 (F2 / 9223372036854775808*9223372036854775808) (-60) ((F2 / 4503599627370496:Nat):Int) ((F2 / 4503599627370496 % 2048:Nat):Int) _ _ w b0 o1 o2 o3 o4 e2 (by omega) (by omega) (by omega) (by omega) (by omega) a1 (by omega) (by omega) rfl (by omega) g1 g2,Or.inl ⟨by omega,by unfold rung; omega⟩⟩
   rw [decide_eq_false (by omega)] at o4
   obtain⟨g1,g2⟩:=sign_or F lF
   have a1:=and2047 (F / 4503599627370496) (by omega)
   have hE:F / 4503599627370496 % 2048=rung F / 4503599627370496:=by unfold rung; omega
   rcases Nat.lt_or_ge (rung F) (8*4503599627370496) with h8 | h8
   · exact ⟨_,by omega,fun w=>ldx_none F _ (F / 9223372036854775808*9223372036854775808) (-60) ((F / 4503599627370496:Nat):Int) ((F / 4503599627370496 % 2048:Nat):Int) _ _ w b0 o1 o2 o3 o4 (by omega) (by omega) (by omega) (by omega) (by omega) a1 (by omega) (by omega) rfl (by omega) g1 g2,Or.inl ⟨by omega,by unfold rung; omega⟩⟩
   · obtain⟨E,eE⟩:∃ E,E=F / 4503599627370496 % 2048:=⟨_,rfl⟩
     rw [←eE] at a1 hE
     obtain⟨X,hX⟩:∃ X,X=F / 9223372036854775808*9223372036854775808+(E - 7)*4503599627370496+F % 4503599627370496:=⟨_,rfl⟩
     have o5:bits .or .u64 ((F / 9223372036854775808*9223372036854775808+F % 4503599627370496:Nat):Int) (((E - 7)*4503599627370496:Nat):Int)=X:=by
       rw [bits_or_u64_nat _ _ (by omega) (by omega),or_parts _ _ (E - 7) (by omega) (by omega),hX]
     have lX:X < 18446744073709551616:=by omega
     have gX:rung X=(E - 7)*4503599627370496+F % 4503599627370496:=by unfold rung; omega
     have rX:rightB X=true:=by unfold rightB; rw [decide_eq_true (by omega),decide_eq_false (by omega)]; rfl
     have vX:(val X).natAbs=steps (rung X):=by unfold val; split <;> omega
     have t1:=steps_le (show rung X≤54*4503599627370496 by omega)
     have v1:(val 4368491638549381120).natAbs≤2 ^ sq:=by
       have w1:val 4607182418800017408=((2 ^ sq:Nat):Int):=by decide +kernel
       have w2:=(pos_facts 4607182418800017408 (by decide)).2.2.2.2
       have w3:=(pos_facts 4368491638549381120 (by decide)).2.2.2.2
       have w4:=steps_le (show 4368491638549381120≤4607182418800017408 by decide)
       rw [w3,Int.natAbs_natCast]
       rw [w2] at w1
       have w5:=Int.ofNat_inj.1 w1
       rw [←w5]
       exact w4
     obtain⟨R,eR,lR,rR⟩:=mul_small 4368491638549381120 X (54*4503599627370496) (by decide) lX (by decide) rX (by decide) (by decide) (by
       rw [vX,Nat.mul_comm]
       exact Nat.mul_le_mul t1 v1)
     exact ⟨R,lR,fun w=>ldx_low F _ _ ((E - 7)*4503599627370496) X R (-60) ((F / 4503599627370496:Nat):Int) E (E - 1083) w b0 o1 o2 o3 o4 (by omega) (by omega) (by omega) (by omega) (by omega) a1 (by omega) (by omega) (by omega) (by omega) (by omega) (and_parts F lF)
       (by rw [IntKind.wrap_u64]; omega) o5 eR,Or.inl ⟨by omega,by omega⟩⟩
 · have hr:rung (F - 60*4503599627370496)=rung F - 60*4503599627370496:=by unfold rung at *; omega
   refine ⟨_,by omega,big h,?_⟩
   rcases Nat.lt_or_ge (rung F) (1083*4503599627370496) with g | g
   · exact Or.inl ⟨g,by omega⟩
   · exact Or.inr ⟨g,rfl⟩
end
section
open Go.RowKit
theorem steps_dn (R:Nat) (h:61*4503599627370496≤R):steps R=1152921504606846976*steps (R - 60*4503599627370496):=by
 unfold steps
 have h1:R / 4503599627370496≠0:=by omega
 have h2:(R - 60*4503599627370496) / 4503599627370496=R / 4503599627370496 - 60:=by omega
 have h3:(R - 60*4503599627370496) % 4503599627370496=R % 4503599627370496:=by omega
 rw [if_neg h1,h2,h3,if_neg (by omega)]
 obtain⟨k,hk⟩:∃ k,R / 4503599627370496=k+61:=⟨_,(Nat.sub_add_cancel (by omega)).symm⟩
 rw [hk,show k+61 - 1=k+60 by omega,show k+61 - 60 - 1=k by omega,Nat.pow_add,←Nat.mul_assoc,Nat.mul_comm]
theorem rung_dn (F:Nat) (h:61*4503599627370496≤rung F):rung (F - 60*4503599627370496)=rung F - 60*4503599627370496:=by
 unfold rung at *; omega
theorem val_dn (F:Nat) (h:61*4503599627370496≤rung F):val F=1152921504606846976*val (F - 60*4503599627370496):=by
 have hs:sgnB (F - 60*4503599627370496)=sgnB F:=by
   unfold sgnB; unfold rung at h
   exact decide_eq_decide.2 ⟨fun _=>by omega,fun _=>by omega⟩
 unfold val
 rw [hs,rung_dn F h,steps_dn _ h]
 split <;> omega
theorem rep_up {v:Int} (h:Rep v):Rep (1152921504606846976*v):=by
 obtain⟨m,K,e,hm,_⟩:=rep_parts h
 have:=rep_mk m (K+60) (by omega)
 rw [Nat.pow_add,Int.natCast_mul,←Int.mul_assoc,←e,Int.mul_comm] at this
 exact this
theorem best_dn {T S:Int} (h:Best (1152921504606846976*T) (1152921504606846976*S)) (hS:Rep S):Best T S:=
 ⟨hS,fun v hv=>by have:=h.best _ (rep_up hv); omega⟩
theorem near_dn (a b s:Nat) (ra:61*4503599627370496≤rung a) (rb:61*4503599627370496≤rung b) (rs:61*4503599627370496≤rung s) (fs:rung s < 9218868437227405312) (N:NearW (val a+val b) s) :
   NearW (val (a - 60*4503599627370496)+val (b - 60*4503599627370496)) (s - 60*4503599627370496) where
 lt:=by have:=N.lt; omega
 le:=by rw [rung_dn s rs]; omega
 fin:=fun _=>by
   have h:=N.fin fs
   rw [val_dn a ra,val_dn b rb,val_dn s rs,←Int.mul_add] at h
   exact best_dn h (rep_val _)
 big:=fun h=>by rw [rung_dn s rs] at h; omega
theorem ldx60 (F:Nat) (lF:F < 18446744073709551616) (h:61*4503599627370496≤rung F) (fin:rung F < 9218868437227405312):LdxR F (-60) (F - 60*4503599627370496):=by
 intro w
 have h1:=ldexp_exact (F / 9223372036854775808) (rung F / 4503599627370496) (rung F % 4503599627370496) (rung F / 4503599627370496 - 60) (-60) w (by omega) (by omega) (by omega) (by omega) (by omega) (by omega) (by omega)
 unfold rung at *
 rw [show F / 9223372036854775808*9223372036854775808+F % 9223372036854775808 / 4503599627370496*4503599627370496+F % 9223372036854775808 % 4503599627370496=F by omega,
   show F / 9223372036854775808*9223372036854775808+(F % 9223372036854775808 / 4503599627370496 - 60)*4503599627370496+F % 9223372036854775808 % 4503599627370496=F - 60*4503599627370496 by omega] at h1
 exact h1
theorem lt_one (R:Nat) (h:R < 9218868437227405312):(FloatKind.f64.format.order R 4607182418800017408 == some Ordering.lt)=decide (R < 4607182418800017408):=by
 obtain⟨p1,p2,_,p4,p5⟩:=pos_facts R h
 have q5:=(pos_facts 4607182418800017408 (by decide)).2.2.2.2
 rw [order_val R _ p1 (by decide) (by rw [p4]; exact h) (by decide),p5,q5]
 have hh:=steps_le_iff 4607182418800017408 R
 generalize steps 4607182418800017408=T at hh ⊢
 generalize steps R=V at hh ⊢
 rcases Int.lt_trichotomy (V:Int) (T:Int) with g | g | g
 · rw [Int.compare_eq_lt.2 g,decide_eq_true (by omega)]; rfl
 · rw [Int.compare_eq_eq.2 g,decide_eq_false (by omega)]; rfl
 · rw [Int.compare_eq_gt.2 g,decide_eq_false (by omega)]; rfl
def exL:Nat:=2020
def exA:Nat:=1082
def PL:Nat:=2 ^ exL
theorem ZZ_PL:ZZ=18014398509481984*PL:=by
 unfold ZZ PL
 rw [show exZ=exL+25 from rfl,Nat.pow_add,Nat.mul_comm (2 ^ exL),←Nat.mul_assoc]
theorem small_PL:4*steps (1083*4503599627370496)≤PL:=by
 rw [low_km exA _ (by unfold exA; decide)]
 have h1:2 ^ (exA+54)≤2 ^ exL:=Nat.pow_le_pow_right (by decide) (by decide)
 rw [Nat.pow_add] at h1
 unfold PL
 generalize 2 ^ exA=X at h1 ⊢
 generalize 2 ^ exL=Y at h1 ⊢
 omega
theorem coarse {v:Int} (h:Rep v) (hv:9007199254740992*PL≤v.natAbs):∃ j:Int,v=j*(PL:Int):=by
 obtain⟨m,K,e,hm,_⟩:=rep_parts h
 rcases Nat.lt_or_ge K exL with g | g
 · have h1:2 ^ K≤PL:=pow_le_of (by omega)
   have h2:v.natAbs=m.natAbs*2 ^ K:=by rw [e,abs_pow]
   have h3:m.natAbs*2 ^ K≤m.natAbs*PL:=Nat.mul_le_mul_left _ h1
   have h4:m.natAbs*PL < 9007199254740992*PL:=Nat.mul_lt_mul_of_pos_right hm (Nat.two_pow_pos _)
   omega
 · exact ⟨m*((2 ^ (K - exL):Nat):Int),by rw [e,down_pow m g]; rfl⟩
theorem swallowed {A B S:Int} (hB:Rep B) (h:Best (A+B) S) (hA:4*A.natAbs≤PL) (hS:ZZ≤S.natAbs):S=B:=by
 have h1:=h.best B hB
 have hp:0 < PL:=Nat.two_pow_pos _
 rw [ZZ_PL] at hS
 obtain⟨j,ej⟩:=coarse h.rep (by omega)
 obtain⟨n,en⟩:=coarse hB (by omega)
 have h2:(S - B).natAbs < PL:=by omega
 have h3:S - B=(j - n)*(PL:Int):=by rw [ej,en,←Int.sub_mul]
 rw [h3,Int.natAbs_mul,Int.natAbs_natCast] at h2
 have h4:(j - n).natAbs=0:=by
   rcases Nat.eq_zero_or_pos (j - n).natAbs with g | g
   · exact g
   · have:=Nat.mul_le_mul_right PL g
     omega
 have h5:j=n:=by omega
 rw [ej,en,h5]
theorem refFar_any (a b s:Nat) (up:Bool) (w:World) (la:a < 18446744073709551616) (lb:b < 18446744073709551616) (ra:rightB a=true) (rb:rightB b=true) (N:NearW (val a+val b) s) (f:rung s < 9218868437227405312) (hS:9110782046170513408≤rung s) :
   Calls Tryz.prog 147 #[.float .f64 a,.float .f64 b,.float .f64 s,.bool up] w fun r w'=>r = .returned (.tuple #[.float .f64 (addW a b up),.int .i64 (addE a b up)])∧w=w':=by
 have fa:=right_rung a ra
 have fb:=right_rung b rb
 obtain⟨x,lx,cx,hx⟩:=ldx_any a la ra (fun h=>ldx60 a la h fa)
 obtain⟨y,ly,cy,hy⟩:=ldx_any b lb rb (fun h=>ldx60 b lb h fb)
 have ct:=ldx60 s N.lt (by omega) f
 have ax:AbsR x (rung x):=fun w=>abs_any x w lx
 have ay:AbsR y (rung y):=fun w=>abs_any y w ly
 have nat_s:ZZ≤(val s).natAbs:=by
   have h1:(val s).natAbs=steps (rung s):=by unfold val; split <;> omega
   have h2:=steps_le hS
   have h3:=zz_steps
   omega
 have tiny:∀ c,rung c < 1083*4503599627370496→4*(val c).natAbs≤PL:=fun c h=>by
   have h1:(val c).natAbs=steps (rung c):=by unfold val; split <;> omega
   have h2:=steps_lt h
   have h3:=small_PL
   omega
 rcases hx with ⟨x1,x2⟩ | ⟨x1,x2⟩
 · have e:=swallowed (rep_val b) (N.fin f) (tiny a x1) nat_s
   obtain⟨g1,g2⟩:=sign_facts a la fa
   obtain⟨e1,e2⟩:=side_add (gp:=decide (0 < val a)) (gn:=decide (val a < 0)) ra rb N (fun _=>decide_eq_decide.2 ⟨fun _=>by omega,fun _=>by omega⟩) (fun _=>decide_eq_decide.2 ⟨fun _=>by omega,fun _=>by omega⟩) up
   have cS:=fun w=>refSide_any s a _ _ up w N.lt N.le g1 g2
   rw [e1,e2] at cS
   exact far_x a b s x y _ _ _ _ up w (Lib.hid cx) (Lib.hid cy) (Lib.hid ct) (Lib.hid ax) (by rw [lt_one _ (by omega)]; exact decide_eq_true (by omega)) (Lib.hid cS)
 rcases hy with ⟨y1,y2⟩ | ⟨y1,y2⟩
 · have e:=swallowed (rep_val a) (by rw [Int.add_comm]; exact N.fin f) (tiny b y1) nat_s
   obtain⟨g1,g2⟩:=sign_facts b lb fb
   obtain⟨e1,e2⟩:=side_add (gp:=decide (0 < val b)) (gn:=decide (val b < 0)) ra rb N (fun _=>decide_eq_decide.2 ⟨fun _=>by omega,fun _=>by omega⟩) (fun _=>decide_eq_decide.2 ⟨fun _=>by omega,fun _=>by omega⟩) up
   have cS:=fun w=>refSide_any s b _ _ up w N.lt N.le g1 g2
   rw [e1,e2] at cS
   have rx:=rung_dn a (by omega)
   rw [←x2] at rx
   exact far_y a b s x y _ _ _ _ _ up w (Lib.hid cx) (Lib.hid cy) (Lib.hid ct) (Lib.hid ax) (Lib.hid ay) (by rw [lt_one _ (by omega)]; exact decide_eq_false (by omega)) (by rw [lt_one _ (by omega)]; exact decide_eq_true (by omega)) (Lib.hid cS)
 have rx:=rung_dn a (by omega)
 have ry:=rung_dn b (by omega)
 have rs:=rung_dn s (by omega)
 have M:=near_dn a b s (by omega) (by omega) (by omega) f N
 have va:=val_dn a (by omega)
 have vb:=val_dn b (by omega)
 have vs:=val_dn s (by omega)
 rw [←x2] at rx M va
 rw [←y2] at ry M vb
 obtain⟨t,ht⟩:∃ t,t=s - 60*4503599627370496:=⟨_,rfl⟩
 rw [←ht] at rs M vs ct
 have hz:(val t).natAbs < ZZ:=by
   have h1:(val t).natAbs=steps (rung t):=by unfold val; split <;> omega
   have h2:=steps_lt (show rung t < 9110782046170513408 by omega)
   have h3:=zz_steps
   omega
 obtain⟨c,p,q,r0,d,ec,ep,ex,ey,ed,lc,ld,rd,hd⟩:=two_sum_w x y t lx ly (by omega) (by omega) M (by omega) hz
 obtain⟨g1,g2⟩:=sign_facts d ld rd
 obtain⟨e1,e2⟩:=side_add (gp:=decide (0 < val d)) (gn:=decide (val d < 0)) ra rb N (fun _=>decide_eq_decide.2 ⟨fun _=>by omega,fun _=>by omega⟩) (fun _=>decide_eq_decide.2 ⟨fun _=>by omega,fun _=>by omega⟩) up
 have cS:=fun w=>refSide_any s d _ _ up w N.lt N.le g1 g2
 rw [e1,e2] at cS
 exact far_z a b s x y t _ _ c p q r0 d _ _ up w (Lib.hid cx) (Lib.hid cy) (Lib.hid ct) (Lib.hid ax) (Lib.hid ay) (by rw [lt_one _ (by omega)]; exact decide_eq_false (by omega)) (by rw [lt_one _ (by omega)]; exact decide_eq_false (by omega)) ec ep ex ey ed (Lib.hid cS)
theorem refAdd_any (a b:Nat) (up:Bool) (w:World) (la:a < 18446744073709551616) (lb:b < 18446744073709551616) (ra:rightB a=true) (rb:rightB b=true) :
   Calls Tryz.prog 101 #[.float .f64 a,.float .f64 b,.bool up] w fun r w'=>r = .returned (.tuple #[.float .f64 (addW a b up),.int .i64 (addE a b up)])∧w=w':=by
 obtain⟨s,es,N⟩:=add_w a b la lb (right_rung a ra) (right_rung b rb)
 rcases Nat.lt_or_ge (rung s) 9110782046170513408 with h | h
 · exact refAdd_near a b s up w la lb ra rb es N (Or.inr h)
 have hl:=N.le
 rcases Nat.lt_or_ge (rung s) 9218868437227405312 with f | f
 · have c1:=fun w=>refRight_any a w la
   have c2:=fun w=>refRight_any b w lb
   rw [ra] at c1
   rw [rb] at c2
   have cI:=fun w=>isInf0_any s w N.lt (decide_eq_false (by omega))
   rw [show infB s=false from decide_eq_false (by omega)] at cI
   have cF:=fun w=>refFar_any a b s up w la lb ra rb N f h
   obtain⟨p1,p2,_,_,p5⟩:=pos_facts (rung s) f
   have q5:=(pos_facts 9110782046170513408 (by decide)).2.2.2.2
   have hh:=steps_le h
   have o:((FloatKind.f64.format.order (rung s) 9110782046170513408 == some Ordering.gt) || (FloatKind.f64.format.order (rung s) 9110782046170513408 == some Ordering.eq))=true:=by
     rw [order_gt _ _ p1 (by decide) p2 (by decide),order_eq _ _ p1 (by decide) p2 (by decide),p5,q5]
     generalize steps 9110782046170513408=T at hh ⊢
     generalize steps (rung s)=V at hh ⊢
     rcases Nat.lt_or_ge T V with g | g
     · rw [decide_eq_true (by omega)]; rfl
     · rw [decide_eq_true (show (V:Int)=T by omega),Bool.or_true]
   exact refAdd_far a b s (rung s) _ _ up w (Lib.hid c1) (Lib.hid c2) es (Lib.hid cI) (Lib.hid fun w=>abs_any s w N.lt) o (Lib.hid cF)
 · exact refAdd_near a b s up w la lb ra rb es N (Or.inl (by omega))
end
section
open Go.RowKit
theorem refAdd_all (a b:Nat) (up:Bool) (w:World) (la:a < 18446744073709551616) (lb:b < 18446744073709551616) :
   Calls Tryz.prog 101 #[.float .f64 a,.float .f64 b,.bool up] w fun r w'=>r = .returned (.tuple #[.float .f64 (addW a b up),.int .i64 (addE a b up)])∧w=w':=by
 by_cases h:(rightB a&&rightB b)=true
 · obtain⟨ra,rb⟩:=(Bool.and_eq_true _ _).mp h
   exact refAdd_any a b up w la lb ra rb
 · have e1:addW a b up=0:=if_neg h
   have e2:addE a b up=13:=if_neg h
   rw [e1,e2]
   exact refAdd_wrong a b (rightB a) (rightB b) up w (by simpa using h) (Lib.hid fun w=>refRight_any a w la) (Lib.hid fun w=>refRight_any b w lb)
theorem refSub_wrong (a b:Nat) (up:Bool) (w:World) (c2:Hid (RefR b false)) :
   Calls Tryz.prog 89 #[.float .f64 a,.float .f64 b,.bool up] w fun r w'=>r = .returned (.tuple #[.float .f64 0,.int .i64 13])∧w=w':=by
 go_enter Tryz.func89,Tryz.ntmps89
 go_wp2_with fail
 refine (c2.out _).mono ?_
 rintro r ww ⟨rfl,rfl⟩
 go_wp2
 go_ret2
 exact ⟨rfl,rfl⟩
theorem refSub_walk (a b p v:Nat) (e:Int) (up:Bool) (w:World) (lb:b < 18446744073709551616) (c2:Hid (RefR b true))
   (cP:Hid (∀ w,Calls Tryz.prog 130 #[.float .f64 (flipW b)] w fun r w'=>r = .returned (.float .f64 p)∧w=w'))
   (cA:Hid (∀ w,Calls Tryz.prog 101 #[.float .f64 a,.float .f64 p,.bool up] w fun r w'=>r = .returned (.tuple #[.float .f64 v,.int .i64 e])∧w=w')) :
   Calls Tryz.prog 89 #[.float .f64 a,.float .f64 b,.bool up] w fun r w'=>r = .returned (.tuple #[.float .f64 v,.int .i64 e])∧w=w':=by
 have g:=neg_any b lb
 go_enter Tryz.func89,Tryz.ntmps89
 go_wp2_with fail
 refine (c2.out _).mono ?_
 rintro r ww ⟨rfl,rfl⟩
 go_wp2_with fail
 refine (cP.out _).mono ?_
 rintro r ww ⟨rfl,rfl⟩
 go_wp2_with fail
 refine (cA.out _).mono ?_
 rintro r ww ⟨rfl,rfl⟩
 go_wp2
 go_ret2
 exact ⟨rfl,rfl⟩
theorem turned_facts (b:Nat) (lb:b < 18446744073709551616) (rb:rightB b=true):plainW (flipW b) < 18446744073709551616∧rightB (plainW (flipW b))=true∧val (plainW (flipW b))=-val b:=by
 obtain⟨f1,f2,f3,f4⟩:=flip_facts b lb
 have fb:=right_rung b rb
 unfold plainW
 split
 · rename_i h
   refine ⟨by decide,by decide,?_⟩
   have h1:steps (rung b)=0:=(steps_zero _).2 (by omega)
   have h2:(val b).natAbs=steps (rung b):=by unfold val; split <;> omega
   rw [val_0]; omega
 · rename_i h
   refine ⟨f1,?_,f4⟩
   unfold rightB
   unfold rung at f2 fb h
   rw [decide_eq_true (by omega),decide_eq_false (by omega)]; rfl
theorem refSub_all (a b:Nat) (up:Bool) (w:World) (la:a < 18446744073709551616) (lb:b < 18446744073709551616) :
   Calls Tryz.prog 89 #[.float .f64 a,.float .f64 b,.bool up] w fun r w'=>r = .returned (.tuple #[.float .f64 (subW a b up),.int .i64 (subE a b up)])∧w=w':=by
 have c2:=fun w=>refRight_any b w lb
 cases rb:rightB b
 · have hn:¬ (rightB a&&rightB b)=true:=by rw [rb,Bool.and_false]; exact Bool.false_ne_true
   have e1:subW a b up=0:=if_neg hn
   have e2:subE a b up=13:=if_neg hn
   rw [e1,e2]
   rw [rb] at c2
   exact refSub_wrong a b up w (Lib.hid c2)
 rw [rb] at c2
 obtain⟨f1,f2,_,_⟩:=flip_facts b lb
 obtain⟨t1,t2,t3⟩:=turned_facts b lb rb
 have cP:=fun w=>plain_any (flipW b) w f1 (by rw [f2]; exact right_rung b rb)
 have cA:=fun w=>refAdd_all a (plainW (flipW b)) up w la t1
 have e:addW a (plainW (flipW b)) up=subW a b up∧addE a (plainW (flipW b)) up=subE a b up:=by
   cases ra:rightB a
   · have hn:¬ (rightB a&&rightB b)=true:=by rw [ra]; exact Bool.false_ne_true
     have hm:¬ (rightB a&&rightB (plainW (flipW b)))=true:=by rw [ra]; exact Bool.false_ne_true
     exact ⟨(if_neg hm).trans (if_neg hn).symm,(if_neg hm).trans (if_neg hn).symm⟩
   · cases up
     · have h:=add_down a _ ra t2
       rw [t3,←Int.sub_eq_add_neg] at h
       exact h.unique (sub_down a b ra rb)
     · have h:=add_up a _ ra t2
       rw [t3,←Int.sub_eq_add_neg] at h
       exact h.unique (sub_up a b ra rb)
 rw [e.1,e.2] at cA
 exact refSub_walk a b _ _ _ up w lb (Lib.hid c2) (Lib.hid cP) (Lib.hid cA)
end
section
open Go.RowKit
theorem frx_sub (F G F2 A X:Nat) (Q E x:Int) (w:World) (b0:bits .andNot .u64 (F:Int) 9223372036854775808=G)
   (o1:(FloatKind.f64.format.order F 0 == some Ordering.eq)=false) (o2:(FloatKind.f64.format.order G 9218868437227405311 == some Ordering.gt)=false)
   (o3:(FloatKind.f64.format.order F F != some Ordering.eq)=false) (o4:(FloatKind.f64.format.order G 4503599627370496 == some Ordering.lt)=true)
   (hq:floatBits .mul .f64 F 4841369599423283200=some F2)
   (s1:(F2:Int) / 4503599627370496=Q) (e0:0≤E) (e1:E≤2047) (a1:bits .and .i64 Q 2047=E) (a1':bits .and .u64 Q 2047=E) (r1:-52+(E - 1023+1)=x)
   (a2:bits .andNot .u64 (F2:Int) 9218868437227405312=A) (o5:bits .or .u64 (A:Int) 4602678819172646912=X) :
   Calls Tryz.prog 131 #[.float .f64 F] w fun r w'=>r = .returned (.tuple #[.float .f64 X,.int .i64 x])∧w=w':=by
 have h1:=run_bits
 have h2:=run_frombits
 have h3:=fun w=>run_float_arith (P:=Tryz.prog) w .mul 25 .f64 F 4841369599423283200 F2 hq
 go_enter Tryz.func131,Tryz.ntmps131
 go_wp2
 go_ret2
 exact ⟨rfl,rfl⟩
theorem mul_exact_any (a b c:Nat) (ha:a < 18446744073709551616) (hb:b < 18446744073709551616) (ra:rightB a=true) (rb:rightB b=true) (hc:c < 18446744073709551616) (rc:rightB c=true) (h0:val c≠0) (h:val c*((2 ^ sq:Nat):Int)=val a*val b):floatBits .mul .f64 a b=some c:=by
 obtain⟨r,hr,hB⟩:=mul_beside a b ha hb ra rb
 have hp:(0:Int) < ((2 ^ sq:Nat):Int):=Int.natCast_pos.2 (Nat.two_pow_pos _)
 obtain⟨b1,b2,b3⟩:=hB c c (Or.inl ⟨rfl,hc,rc,by omega,fun d _ _ hd=>Int.le_of_mul_le_mul_right (by omega:val d*((2 ^ sq:Nat):Int)≤val c*((2 ^ sq:Nat):Int)) hp⟩)
   (Or.inl ⟨rfl,hc,rc,by omega,fun d _ _ hd=>Int.le_of_mul_le_mul_right (by omega:val c*((2 ^ sq:Nat):Int)≤val d*((2 ^ sq:Nat):Int)) hp⟩)
 have hv:val r=val c:=by rcases b3 with h | h <;> exact h
 have rr:rightB r=true:=by
   unfold rightB
   rw [decide_eq_true (show r % 9223372036854775808 < 9218868437227405312 from b2),decide_eq_false]
   · rfl
   · intro h
     subst h
     have:val 9223372036854775808=0:=by decide
     exact h0 (hv.symm.trans this)
 rw [hr,val_inj b1 hc rr rc hv]
def exF:Nat:=1100
def exQ:Nat:=1021
structure FrxOf (F X:Nat) (x:Int):Prop where
 lt:X < 18446744073709551616
 lo:1022*4503599627370496≤rung X
 hi:rung X < 1023*4503599627370496
 sgn:sgnB X=sgnB F
 xlo:-1073≤x
 xhi:x≤1024
 is:steps (rung F)*2 ^ exF=steps (rung X)*2 ^ (x+exF).toNat
theorem and2047u (q:Nat) (hq:q < 4096):bits .and .u64 (q:Int) 2047=((q % 2048:Nat):Int):=by
 have h:=bits_and_u64_nat q 2047 (by omega) (by decide)
 rw [show (2047:Nat)=2 ^ 11 - 1 by decide,and_mask] at h
 exact h
theorem frx_word (F:Nat) (lF:F < 18446744073709551616) (h:4503599627370496≤rung F) (fin:rung F < 9218868437227405312) :
   ∃ X:Nat,bits .or .u64 ((F / 9223372036854775808*9223372036854775808+F % 4503599627370496:Nat):Int) 4602678819172646912=X∧X < 18446744073709551616∧rung X=1022*4503599627370496+F % 4503599627370496∧sgnB X=sgnB F ∧
     steps (rung F)*2 ^ exF=steps (rung X)*2 ^ (((rung F / 4503599627370496:Nat):Int) - 1022+exF).toNat:=by
 have rF:rung F=F % 9223372036854775808:=rfl
 refine ⟨F / 9223372036854775808*9223372036854775808+1022*4503599627370496+F % 4503599627370496,?_,by omega,by unfold rung; omega,?_,?_⟩
 · have h1:=bits_or_u64_nat (F / 9223372036854775808*9223372036854775808+F % 4503599627370496) (1022*4503599627370496) (by omega) (by decide)
   rw [or_parts _ _ 1022 (by omega) (by decide)] at h1
   exact h1
 · unfold sgnB
   exact decide_eq_decide.2 ⟨fun _=>by omega,fun _=>by omega⟩
 · have e1:rung (F / 9223372036854775808*9223372036854775808+1022*4503599627370496+F % 4503599627370496)=exQ*4503599627370496+(4503599627370496+F % 4503599627370496):=by unfold rung exQ; omega
   obtain⟨E,eE⟩:∃ E,rung F / 4503599627370496=E+1:=⟨_,(Nat.sub_add_cancel (by omega)).symm⟩
   have e2:rung F=E*4503599627370496+(4503599627370496+F % 4503599627370496):=by omega
   have x1:(((rung F / 4503599627370496:Nat):Int) - 1022+exF).toNat=E+79:=by
     rw [eE,show exF=1100 from rfl]; omega
   rw [x1,e1,e2,steps_km exQ _ (by omega) (Or.inr (by omega)),steps_km E _ (by omega) (Or.inr (by omega)),Nat.mul_assoc,Nat.mul_assoc,←Nat.pow_add,←Nat.pow_add,show E+exF=exQ+(E+79) by unfold exF exQ; omega]
theorem frx_any (F:Nat) (lF:F < 18446744073709551616) (rF:rightB F=true) (h0:rung F≠0) :
   ∃ X x,FrxOf F X x∧∀ w:World,Calls Tryz.prog 131 #[.float .f64 F] w fun r w'=>r = .returned (.tuple #[.float .f64 X,.int .i64 x])∧w=w':=by
 have fin:=right_rung F rF
 obtain⟨o1,o2,o3,o4⟩:=ldx_facts F lF fin h0
 have b0:=andNot_sign F lF
 have hrF:rung F=F % 9223372036854775808:=rfl
 rcases Nat.lt_or_ge (rung F) 4503599627370496 with hs | hs
 · rw [decide_eq_true hs] at o4
   have v2:steps (rung F)=rung F:=by unfold steps; rw [if_pos (by omega)]
   obtain⟨R,hR⟩:=rep_nat 52 (rung F) (by omega)
   have r1:4503599627370496≤R:=by
     refine (steps_le_iff _ _).1 ?_
     rw [←hR,show steps 4503599627370496=4503599627370496 by decide]
     omega
   have r2:R≤53*4503599627370496:=by
     refine (steps_le_iff _ _).1 ?_
     rw [←hR,show steps (53*4503599627370496)=4503599627370496*2 ^ 52 from low_km 52 _ (by decide)]
     exact Nat.mul_le_mul_right _ (by omega)
   obtain⟨F2,e2⟩:∃ F2,F2=F / 9223372036854775808*9223372036854775808+R:=⟨_,rfl⟩
   have l2:F2 < 18446744073709551616:=by omega
   have g2:rung F2=R:=by unfold rung; omega
   have s2:sgnB F2=sgnB F:=by
     unfold sgnB
     exact decide_eq_decide.2 ⟨fun _=>by omega,fun _=>by omega⟩
   have c2:rightB F2=true:=by unfold rightB; rw [decide_eq_true (by omega),decide_eq_false (by omega)]; rfl
   have st:steps (rung F2)=rung F*2 ^ 52:=by rw [g2,hR]
   have v1:val 4841369599423283200=((4503599627370496*2 ^ sq:Nat):Int):=by
     rw [(pos_facts 4841369599423283200 (by decide)).2.2.2.2,low_km sq _ (by unfold sq; decide)]
   have hv:val F2=val F*4503599627370496:=by
     unfold val
     rw [s2,st,v2]
     split <;> omega
   have n2:val F2≠0:=by
     have h1:(val F2).natAbs=steps (rung F2):=by unfold val; split <;> omega
     omega
   have hq:=mul_exact_any F 4841369599423283200 F2 lF (by decide) rF (by decide) l2 c2 n2 (by rw [v1,hv,Int.natCast_mul,Int.mul_assoc]; rfl)
   obtain⟨X,o5,lX,gX,sX,is⟩:=frx_word F2 l2 (by omega) (by omega)
   have a1:=and2047 (F2 / 4503599627370496) (by omega)
   have a1':=and2047u (F2 / 4503599627370496) (by omega)
   have hE:F2 / 4503599627370496 % 2048=rung F2 / 4503599627370496:=by unfold rung; omega
   rw [hE] at a1 a1'
   refine ⟨X,-52+(((rung F2 / 4503599627370496:Nat):Int) - 1023+1),⟨lX,by omega,by omega,by rw [sX,s2],by omega,by omega,?_⟩,fun w=>frx_sub F _ F2 _ X ((F2 / 4503599627370496:Nat):Int) ((rung F2 / 4503599627370496:Nat):Int) _ w b0 o1 o2 o3 o4 hq (by omega) (by omega) (by omega) a1 a1' rfl (and_parts F2 l2) o5⟩
   obtain⟨E,eE⟩:∃ E,E=rung F2 / 4503599627370496:=⟨_,rfl⟩
   rw [←eE] at is ⊢
   have x1:(-52+((E:Int) - 1023+1)+exF).toNat=E+26:=by rw [show exF=1100 from rfl]; omega
   have x2:((E:Int) - 1022+exF).toNat=E+26+52:=by rw [show exF=1100 from rfl]; omega
   rw [x2,st,Nat.pow_add,←Nat.mul_assoc,Nat.mul_right_comm] at is
   rw [x1,v2]
   exact Nat.eq_of_mul_eq_mul_right (Nat.two_pow_pos 52) is
 · rw [decide_eq_false (by omega)] at o4
   obtain⟨X,o5,lX,gX,sX,is⟩:=frx_word F lF hs fin
   have a1:=and2047 (F / 4503599627370496) (by omega)
   have a1':=and2047u (F / 4503599627370496) (by omega)
   have hE:F / 4503599627370496 % 2048=rung F / 4503599627370496:=by unfold rung; omega
   rw [hE] at a1 a1'
   exact ⟨X,((rung F / 4503599627370496:Nat):Int) - 1022,⟨lX,by omega,by omega,sX,by omega,by omega,is⟩,fun w=>frx_norm F _ _ X ((F / 4503599627370496:Nat):Int) ((rung F / 4503599627370496:Nat):Int) _ w b0 o1 o2 o3 o4 (by omega) (by omega) (by omega) a1 a1' (by omega) (and_parts F lF) o5⟩
end
section
open Go.RowKit
abbrev FrxR (F X:Nat) (x:Int):Prop:=∀ w:World,Calls Tryz.prog 131 #[.float .f64 F] w fun r w'=>r = .returned (.tuple #[.float .f64 X,.int .i64 x])∧w=w'
abbrev InfR (c:Nat) (i:Bool):Prop:=∀ w:World,Calls Tryz.prog 129 #[.float .f64 c,.int .i64 0] w fun r w'=>r = .returned (.bool i)∧w=w'
abbrev NearR (f:Nat) (e:Int) (c back:Nat):Prop:=∀ w:World,Calls Tryz.prog 132 #[.float .f64 f,.int .i64 e] w fun r w'=>r = .returned (.tuple #[.float .f64 c,.float .f64 back])∧w=w'
theorem near_inf (f c:Nat) (e:Int) (w:World) (cL:Hid (LdxR f e c)) (cI:Hid (InfR c true)) :
   Calls Tryz.prog 132 #[.float .f64 f,.int .i64 e] w fun r w'=>r = .returned (.tuple #[.float .f64 c,.float .f64 0])∧w=w':=by
 go_enter Tryz.func132,Tryz.ntmps132
 go_wp2_with fail
 refine (cL.out _).mono ?_
 rintro r ww ⟨rfl,rfl⟩
 go_wp2_with fail
 refine (cI.out _).mono ?_
 rintro r ww ⟨rfl,rfl⟩
 go_wp2
 go_ret2
 exact ⟨rfl,rfl⟩
theorem near_fin (f c back:Nat) (e n:Int) (w:World) (e0:-3000≤e) (e1:e≤3000) (hn:-e=n) (cL:Hid (LdxR f e c)) (cI:Hid (InfR c false)) (cB:Hid (LdxR c n back)) :
   Calls Tryz.prog 132 #[.float .f64 f,.int .i64 e] w fun r w'=>r = .returned (.tuple #[.float .f64 c,.float .f64 back])∧w=w':=by
 go_enter Tryz.func132,Tryz.ntmps132
 go_wp2_with fail
 refine (cL.out _).mono ?_
 rintro r ww ⟨rfl,rfl⟩
 go_wp2_with fail
 refine (cI.out _).mono ?_
 rintro r ww ⟨rfl,rfl⟩
 go_wp2_with fail
 refine (cB.out _).mono ?_
 rintro r ww ⟨rfl,rfl⟩
 go_wp2
 go_ret2
 exact ⟨rfl,rfl⟩
theorem refMul_wrong (a b:Nat) (ra rb:Bool) (up:Bool) (w:World) (h:(ra&&rb)=false) (c1:Hid (RefR a ra)) (c2:Hid (RefR b rb)) :
   Calls Tryz.prog 100 #[.float .f64 a,.float .f64 b,.bool up] w fun r w'=>r = .returned (.tuple #[.float .f64 0,.int .i64 13])∧w=w':=by
 cases ra
 · go_enter Tryz.func100,Tryz.ntmps100
   go_wp2_with fail
   refine (c1.out _).mono ?_
   rintro r ww ⟨rfl,rfl⟩
   go_wp2
   go_ret2
   exact ⟨rfl,rfl⟩
 · obtain rfl:rb=false:=h
   go_enter Tryz.func100,Tryz.ntmps100
   go_wp2_with fail
   refine (c1.out _).mono ?_
   rintro r ww ⟨rfl,rfl⟩
   go_wp2_with fail
   refine (c2.out _).mono ?_
   rintro r ww ⟨rfl,rfl⟩
   go_wp2
   go_ret2
   exact ⟨rfl,rfl⟩
theorem refMul_nil (a b:Nat) (up:Bool) (w:World) (c1:Hid (RefR a true)) (c2:Hid (RefR b true))
   (o:(FloatKind.f64.format.order a 0 == some Ordering.eq)=true∨((FloatKind.f64.format.order a 0 == some Ordering.eq)=false∧(FloatKind.f64.format.order b 0 == some Ordering.eq)=true)) :
   Calls Tryz.prog 100 #[.float .f64 a,.float .f64 b,.bool up] w fun r w'=>r = .returned (.tuple #[.float .f64 0,.int .i64 0])∧w=w':=by
 rcases o with o | ⟨o,o'⟩
 · go_enter Tryz.func100,Tryz.ntmps100
   go_wp2_with fail
   refine (c1.out _).mono ?_
   rintro r ww ⟨rfl,rfl⟩
   go_wp2_with fail
   refine (c2.out _).mono ?_
   rintro r ww ⟨rfl,rfl⟩
   go_wp2
   go_ret2
   exact ⟨rfl,rfl⟩
 · go_enter Tryz.func100,Tryz.ntmps100
   go_wp2_with fail
   refine (c1.out _).mono ?_
   rintro r ww ⟨rfl,rfl⟩
   go_wp2_with fail
   refine (c2.out _).mono ?_
   rintro r ww ⟨rfl,rfl⟩
   go_wp2
   go_ret2
   exact ⟨rfl,rfl⟩
theorem refMul_walk (a b f g m c back d v:Nat) (i k n e:Int) (up:Bool) (w:World) (c1:Hid (RefR a true)) (c2:Hid (RefR b true))
   (o:(FloatKind.f64.format.order a 0 == some Ordering.eq)=false) (o':(FloatKind.f64.format.order b 0 == some Ordering.eq)=false)
   (cF:Hid (FrxR a f i)) (cG:Hid (FrxR b g k)) (em:floatBits .mul .f64 f g=some m) (i0:-3000≤i) (i1:i≤3000) (k0:-3000≤k) (k1:k≤3000) (hn:i+k=n)
   (cN:Hid (NearR m n c back)) (lb:back < 18446744073709551616) (hf:FloatKind.f64.format.fma f g (flipW back)=some d) (cS:Hid (RefS c d up v e)) :
   Calls Tryz.prog 100 #[.float .f64 a,.float .f64 b,.bool up] w fun r w'=>r = .returned (.tuple #[.float .f64 v,.int .i64 e])∧w=w':=by
 have h1:=fun t w=>run_float_arith (P:=Tryz.prog) (w:=w) .mul t .f64 _ _ _ em
 have h2:=neg_any back lb
 have h3:=fun w=>run_fma f g (flipW back) d hf w
 clear em hf
 go_enter Tryz.func100,Tryz.ntmps100
 go_wp2_with fail
 refine (c1.out _).mono ?_
 rintro r ww ⟨rfl,rfl⟩
 go_wp2_with fail
 refine (c2.out _).mono ?_
 rintro r ww ⟨rfl,rfl⟩
 go_wp2_with fail
 refine (cF.out _).mono ?_
 rintro r ww ⟨rfl,rfl⟩
 go_wp2_with fail
 refine (cG.out _).mono ?_
 rintro r ww ⟨rfl,rfl⟩
 go_wp2_with fail
 refine (cN.out _).mono ?_
 rintro r ww ⟨rfl,rfl⟩
 go_wp2_with fail
 refine (cS.out _).mono ?_
 rintro r ww ⟨rfl,rfl⟩
 go_wp2
 go_ret2
 exact ⟨rfl,rfl⟩
end
section
open Go.RowKit
theorem refDiv_wrong (a b:Nat) (ra rb:Bool) (up:Bool) (w:World) (h:(ra&&rb)=false) (c1:Hid (RefR a ra)) (c2:Hid (RefR b rb)) :
   Calls Tryz.prog 136 #[.float .f64 a,.float .f64 b,.bool up] w fun r w'=>r = .returned (.tuple #[.float .f64 0,.int .i64 13])∧w=w':=by
 cases ra
 · go_enter Tryz.func136,Tryz.ntmps136
   go_wp2_with fail
   refine (c1.out _).mono ?_
   rintro r ww ⟨rfl,rfl⟩
   go_wp2
   go_ret2
   exact ⟨rfl,rfl⟩
 · obtain rfl:rb=false:=h
   go_enter Tryz.func136,Tryz.ntmps136
   go_wp2_with fail
   refine (c1.out _).mono ?_
   rintro r ww ⟨rfl,rfl⟩
   go_wp2_with fail
   refine (c2.out _).mono ?_
   rintro r ww ⟨rfl,rfl⟩
   go_wp2
   go_ret2
   exact ⟨rfl,rfl⟩
theorem refDiv_nil (a b:Nat) (up:Bool) (w:World) (c1:Hid (RefR a true)) (c2:Hid (RefR b true)) (o:((FloatKind.f64.format.order b 0 == some Ordering.eq)=true)) :
   Calls Tryz.prog 136 #[.float .f64 a,.float .f64 b,.bool up] w fun r w'=>r = .returned (.tuple #[.float .f64 0,.int .i64 11])∧w=w':=by
 go_enter Tryz.func136,Tryz.ntmps136
 go_wp2_with fail
 refine (c1.out _).mono ?_
 rintro r ww ⟨rfl,rfl⟩
 go_wp2_with fail
 refine (c2.out _).mono ?_
 rintro r ww ⟨rfl,rfl⟩
 go_wp2
 go_ret2
 exact ⟨rfl,rfl⟩
theorem refDiv_zero (a b:Nat) (up:Bool) (w:World) (c1:Hid (RefR a true)) (c2:Hid (RefR b true)) (o:((FloatKind.f64.format.order b 0 == some Ordering.eq)=false)) (o':((FloatKind.f64.format.order a 0 == some Ordering.eq)=true)) :
   Calls Tryz.prog 136 #[.float .f64 a,.float .f64 b,.bool up] w fun r w'=>r = .returned (.tuple #[.float .f64 0,.int .i64 0])∧w=w':=by
 go_enter Tryz.func136,Tryz.ntmps136
 go_wp2_with fail
 refine (c1.out _).mono ?_
 rintro r ww ⟨rfl,rfl⟩
 go_wp2_with fail
 refine (c2.out _).mono ?_
 rintro r ww ⟨rfl,rfl⟩
 go_wp2
 go_ret2
 exact ⟨rfl,rfl⟩
theorem refDiv_pos (a b f g m c back d v:Nat) (i k n e:Int) (up:Bool) (w:World) (c1:Hid (RefR a true)) (c2:Hid (RefR b true)) (o:((FloatKind.f64.format.order b 0 == some Ordering.eq)=false)) (o':((FloatKind.f64.format.order a 0 == some Ordering.eq)=false))
   (cF:Hid (FrxR a f i)) (cG:Hid (FrxR b g k)) (em:floatBits .quo .f64 f g=some m) (i0:-3000≤i) (i1:i≤3000) (k0:-3000≤k) (k1:k≤3000) (hn:i - k=n)
   (cN:Hid (NearR m n c back)) (lb:back < 18446744073709551616) (hf:FloatKind.f64.format.fma (flipW back) g f=some d) (og:(FloatKind.f64.format.order g 0 == some Ordering.lt)=false) (cS:Hid (RefS c d up v e)) :
   Calls Tryz.prog 136 #[.float .f64 a,.float .f64 b,.bool up] w fun r w'=>r = .returned (.tuple #[.float .f64 v,.int .i64 e])∧w=w':=by
 have h1:=fun t w=>run_float_arith (P:=Tryz.prog) (w:=w) .quo t .f64 _ _ _ em
 have h2:=neg_any back lb
 have h3:=fun w=>run_fma (flipW back) g f d hf w
 clear em hf
 go_enter Tryz.func136,Tryz.ntmps136
 go_wp2_with fail
 refine (c1.out _).mono ?_
 rintro r ww ⟨rfl,rfl⟩
 go_wp2_with fail
 refine (c2.out _).mono ?_
 rintro r ww ⟨rfl,rfl⟩
 go_wp2_with fail
 refine (cF.out _).mono ?_
 rintro r ww ⟨rfl,rfl⟩
 go_wp2_with fail
 refine (cG.out _).mono ?_
 rintro r ww ⟨rfl,rfl⟩
 go_wp2_with fail
 refine (cN.out _).mono ?_
 rintro r ww ⟨rfl,rfl⟩
 go_wp2_with fail
 refine (cS.out _).mono ?_
 rintro r ww ⟨rfl,rfl⟩
 go_wp2
 go_ret2
 exact ⟨rfl,rfl⟩
theorem refDiv_neg (a b f g m c back d v:Nat) (i k n e:Int) (up:Bool) (w:World) (c1:Hid (RefR a true)) (c2:Hid (RefR b true)) (o:((FloatKind.f64.format.order b 0 == some Ordering.eq)=false)) (o':((FloatKind.f64.format.order a 0 == some Ordering.eq)=false))
   (cF:Hid (FrxR a f i)) (cG:Hid (FrxR b g k)) (em:floatBits .quo .f64 f g=some m) (i0:-3000≤i) (i1:i≤3000) (k0:-3000≤k) (k1:k≤3000) (hn:i - k=n)
   (cN:Hid (NearR m n c back)) (lb:back < 18446744073709551616) (hf:FloatKind.f64.format.fma (flipW back) g f=some d) (og:(FloatKind.f64.format.order g 0 == some Ordering.lt)=true) (ld:d < 18446744073709551616) (cS:Hid (RefS c (flipW d) up v e)) :
   Calls Tryz.prog 136 #[.float .f64 a,.float .f64 b,.bool up] w fun r w'=>r = .returned (.tuple #[.float .f64 v,.int .i64 e])∧w=w':=by
 have h1:=fun t w=>run_float_arith (P:=Tryz.prog) (w:=w) .quo t .f64 _ _ _ em
 have h2:=neg_any back lb
 have h4:=neg_any d ld
 have h3:=fun w=>run_fma (flipW back) g f d hf w
 clear em hf
 go_enter Tryz.func136,Tryz.ntmps136
 go_wp2_with fail
 refine (c1.out _).mono ?_
 rintro r ww ⟨rfl,rfl⟩
 go_wp2_with fail
 refine (c2.out _).mono ?_
 rintro r ww ⟨rfl,rfl⟩
 go_wp2_with fail
 refine (cF.out _).mono ?_
 rintro r ww ⟨rfl,rfl⟩
 go_wp2_with fail
 refine (cG.out _).mono ?_
 rintro r ww ⟨rfl,rfl⟩
 go_wp2_with fail
 refine (cN.out _).mono ?_
 rintro r ww ⟨rfl,rfl⟩
 go_wp2_with fail
 refine (cS.out _).mono ?_
 rintro r ww ⟨rfl,rfl⟩
 go_wp2
 go_ret2
 exact ⟨rfl,rfl⟩
theorem refSqrt_wrong (a:Nat) (up:Bool) (w:World) (c1:Hid (RefR a false)) :
   Calls Tryz.prog 86 #[.float .f64 a,.bool up] w fun r w'=>r = .returned (.tuple #[.float .f64 0,.int .i64 13])∧w=w':=by
 go_enter Tryz.func86,Tryz.ntmps86
 go_wp2_with fail
 refine (c1.out _).mono ?_
 rintro r ww ⟨rfl,rfl⟩
 go_wp2
 go_ret2
 exact ⟨rfl,rfl⟩
theorem refSqrt_neg (a:Nat) (up:Bool) (w:World) (c1:Hid (RefR a true)) (o:((FloatKind.f64.format.order a 0 == some Ordering.lt)=true)) :
   Calls Tryz.prog 86 #[.float .f64 a,.bool up] w fun r w'=>r = .returned (.tuple #[.float .f64 0,.int .i64 12])∧w=w':=by
 go_enter Tryz.func86,Tryz.ntmps86
 go_wp2_with fail
 refine (c1.out _).mono ?_
 rintro r ww ⟨rfl,rfl⟩
 go_wp2
 go_ret2
 exact ⟨rfl,rfl⟩
theorem refSqrt_zero (a:Nat) (up:Bool) (w:World) (c1:Hid (RefR a true)) (o:((FloatKind.f64.format.order a 0 == some Ordering.lt)=false)) (o':((FloatKind.f64.format.order a 0 == some Ordering.eq)=true)) :
   Calls Tryz.prog 86 #[.float .f64 a,.bool up] w fun r w'=>r = .returned (.tuple #[.float .f64 0,.int .i64 0])∧w=w':=by
 go_enter Tryz.func86,Tryz.ntmps86
 go_wp2_with fail
 refine (c1.out _).mono ?_
 rintro r ww ⟨rfl,rfl⟩
 go_wp2
 go_ret2
 exact ⟨rfl,rfl⟩
theorem refSqrt_even (a f m c back d v:Nat) (i n e:Int) (up:Bool) (w:World) (c1:Hid (RefR a true)) (o:((FloatKind.f64.format.order a 0 == some Ordering.lt)=false)) (o':((FloatKind.f64.format.order a 0 == some Ordering.eq)=false))
   (cF:Hid (FrxR a f i)) (hi:i.tmod 2=0) (hn:i.tdiv 2=n) (n0:-3000≤n) (n1:n≤3000)
   (cM:Hid (∀ w,Calls Tryz.prog 133 #[.float .f64 f] w fun r w'=>r = .returned (.float .f64 m)∧w=w')) (cN:Hid (NearR m n c back)) (lb:back < 18446744073709551616) (hf:FloatKind.f64.format.fma (flipW back) back f=some d) (cS:Hid (RefS c d up v e)) :
   Calls Tryz.prog 86 #[.float .f64 a,.bool up] w fun r w'=>r = .returned (.tuple #[.float .f64 v,.int .i64 e])∧w=w':=by
 have h2:=neg_any back lb
 have h3:=fun w=>run_fma (flipW back) back f d hf w
 clear hf
 go_enter Tryz.func86,Tryz.ntmps86
 go_wp2_with fail
 refine (c1.out _).mono ?_
 rintro r ww ⟨rfl,rfl⟩
 go_wp2_with fail
 refine (cF.out _).mono ?_
 rintro r ww ⟨rfl,rfl⟩
 go_wp2_with fail
 refine (cM.out _).mono ?_
 rintro r ww ⟨rfl,rfl⟩
 go_wp2_with fail
 refine (cN.out _).mono ?_
 rintro r ww ⟨rfl,rfl⟩
 go_wp2_with fail
 refine (cS.out _).mono ?_
 rintro r ww ⟨rfl,rfl⟩
 go_wp2
 go_ret2
 exact ⟨rfl,rfl⟩
theorem refSqrt_odd (a f h m c back d v:Nat) (i n e:Int) (up:Bool) (w:World) (c1:Hid (RefR a true)) (o:((FloatKind.f64.format.order a 0 == some Ordering.lt)=false)) (o':((FloatKind.f64.format.order a 0 == some Ordering.eq)=false))
   (cF:Hid (FrxR a f i)) (i0:-3000≤i) (i1:i≤3000) (hi:i.tmod 2≠0) (eh:floatBits .quo .f64 f 4611686018427387904=some h) (hn:(i+1).tdiv 2=n) (n0:-3000≤n) (n1:n≤3000)
   (cM:Hid (∀ w,Calls Tryz.prog 133 #[.float .f64 h] w fun r w'=>r = .returned (.float .f64 m)∧w=w')) (cN:Hid (NearR m n c back)) (lb:back < 18446744073709551616) (hf:FloatKind.f64.format.fma (flipW back) back h=some d) (cS:Hid (RefS c d up v e)) :
   Calls Tryz.prog 86 #[.float .f64 a,.bool up] w fun r w'=>r = .returned (.tuple #[.float .f64 v,.int .i64 e])∧w=w':=by
 have h1:=fun t w=>run_float_arith (P:=Tryz.prog) (w:=w) .quo t .f64 _ _ _ eh
 have h2:=neg_any back lb
 have h3:=fun w=>run_fma (flipW back) back h d hf w
 clear hf
 go_enter Tryz.func86,Tryz.ntmps86
 go_wp2_with fail
 refine (c1.out _).mono ?_
 rintro r ww ⟨rfl,rfl⟩
 go_wp2_with fail
 refine (cF.out _).mono ?_
 rintro r ww ⟨rfl,rfl⟩
 go_wp2_with fail
 refine (cM.out _).mono ?_
 rintro r ww ⟨rfl,rfl⟩
 go_wp2_with fail
 refine (cN.out _).mono ?_
 rintro r ww ⟨rfl,rfl⟩
 go_wp2_with fail
 refine (cS.out _).mono ?_
 rintro r ww ⟨rfl,rfl⟩
 go_wp2
 go_ret2
 exact ⟨rfl,rfl⟩
end
section
open Go.RowKit
theorem ldx_inf (F G:Nat) (e Q E x:Int) (sg:Bool) (w:World) (b0:bits .andNot .u64 (F:Int) 9223372036854775808=G)
   (o1:(FloatKind.f64.format.order F 0 == some Ordering.eq)=false) (o2:(FloatKind.f64.format.order G 9218868437227405311 == some Ordering.gt)=false)
   (o3:(FloatKind.f64.format.order F F != some Ordering.eq)=false) (o4:(FloatKind.f64.format.order G 4503599627370496 == some Ordering.lt)=false)
   (s1:(F:Int) / 4503599627370496=Q) (q0:0≤Q) (q1:Q≤4095) (e0:0≤E) (e1:E≤2047) (a1:bits .and .i64 Q 2047=E) (f0:-3000≤e) (f1:e≤3000) (r1:e+(E - 1023)=x) (r2:1023 < x)
   (o5:(FloatKind.f64.format.order F 0 == some Ordering.lt)=sg) :
   Calls Tryz.prog 83 #[.float .f64 F,.int .i64 e] w fun r w'=>r = .returned (.float .f64 (if sg then 18442240474082181120 else 9218868437227405312))∧w=w':=by
 have h1:=run_bits
 have h2:=run_frombits
 cases sg
 · go_enter Tryz.func83,Tryz.ntmps83
   go_wp2
   go_ret
   exact ⟨rfl,rfl⟩
 · go_enter Tryz.func83,Tryz.ntmps83
   go_wp2
   go_ret
   exact ⟨rfl,rfl⟩
theorem ldexp_inf (F:Nat) (e:Int) (w:World) (lF:F < 18446744073709551616) (h:4503599627370496≤rung F) (fin:rung F < 9218868437227405312) (f0:-3000≤e) (f1:e≤3000) (r2:2046 < e+(rung F / 4503599627370496:Nat)) :
   Calls Tryz.prog 83 #[.float .f64 F,.int .i64 e] w fun r w'=>r = .returned (.float .f64 (if sgnB F then 18442240474082181120 else 9218868437227405312))∧w=w':=by
 obtain⟨o1,o2,o3,o4⟩:=ldx_facts F lF fin (by omega)
 rw [decide_eq_false (by omega)] at o4
 have a1:=and2047 (F / 4503599627370496) (by omega)
 have hE:F / 4503599627370496 % 2048=rung F / 4503599627370496:=by unfold rung; omega
 rw [hE] at a1
 have o5:(FloatKind.f64.format.order F 0 == some Ordering.lt)=sgnB F:=by
   rw [(sign_facts F lF fin).2]
   have hz:steps (rung F)≠0:=fun hz=>by have:=(steps_zero (rung F)).1 hz; omega
   unfold val
   cases sgnB F
   · exact decide_eq_false (by rw [if_neg Bool.false_ne_true]; omega)
   · exact decide_eq_true (by rw [if_pos rfl]; omega)
 exact ldx_inf F _ e ((F / 4503599627370496:Nat):Int) ((rung F / 4503599627370496:Nat):Int) _ _ w (andNot_sign F lF) o1 o2 o3 o4 (by omega) (by omega) (by omega) (by omega) (by omega) a1 f0 f1 rfl (by omega) o5
theorem ldexp_tiny (F:Nat) (e:Int) (w:World) (lF:F < 18446744073709551616) (h:4503599627370496≤rung F) (fin:rung F < 9218868437227405312) (f0:-3000≤e) (f1:e≤3000) (r2:e+(rung F / 4503599627370496:Nat) < -52) :
   Calls Tryz.prog 83 #[.float .f64 F,.int .i64 e] w fun r w'=>r = .returned (.float .f64 (F / 9223372036854775808*9223372036854775808))∧w=w':=by
 obtain⟨o1,o2,o3,o4⟩:=ldx_facts F lF fin (by omega)
 rw [decide_eq_false (by omega)] at o4
 obtain⟨g1,g2⟩:=sign_or F lF
 have a1:=and2047 (F / 4503599627370496) (by omega)
 have hE:F / 4503599627370496 % 2048=rung F / 4503599627370496:=by unfold rung; omega
 rw [hE] at a1
 exact ldx_none F _ _ e ((F / 4503599627370496:Nat):Int) ((rung F / 4503599627370496:Nat):Int) _ _ w (andNot_sign F lF) o1 o2 o3 o4 (by omega) (by omega) (by omega) (by omega) (by omega) a1 f0 f1 rfl (by omega) g1 g2
theorem ldexp_under (F X R k:Nat) (e:Int) (w:World) (lF:F < 18446744073709551616) (h:4503599627370496≤rung F) (fin:rung F < 9218868437227405312) (f0:-3000≤e) (f1:e≤3000) (k0:1≤k) (k1:k < 54) (hk:e+(rung F / 4503599627370496:Nat)+53=k)
   (hX:F / 9223372036854775808*9223372036854775808+k*4503599627370496+F % 4503599627370496=X) (hm:floatBits .mul .f64 4368491638549381120 X=some R) :
   Calls Tryz.prog 83 #[.float .f64 F,.int .i64 e] w fun r w'=>r = .returned (.float .f64 R)∧w=w':=by
 obtain⟨o1,o2,o3,o4⟩:=ldx_facts F lF fin (by omega)
 rw [decide_eq_false (by omega)] at o4
 have a1:=and2047 (F / 4503599627370496) (by omega)
 have hE:F / 4503599627370496 % 2048=rung F / 4503599627370496:=by unfold rung; omega
 rw [hE] at a1
 have o5:bits .or .u64 ((F / 9223372036854775808*9223372036854775808+F % 4503599627370496:Nat):Int) ((k*4503599627370496:Nat):Int)=X:=by
   rw [bits_or_u64_nat _ _ (by omega) (by omega),or_parts _ _ k (by omega) (by omega),hX]
 exact ldx_low F _ _ (k*4503599627370496) X R e ((F / 4503599627370496:Nat):Int) ((rung F / 4503599627370496:Nat):Int) (k - 1076) w (andNot_sign F lF) o1 o2 o3 o4 (by omega) (by omega) (by omega) (by omega) (by omega) a1 f0 f1 (by omega) (by omega) (by omega) (and_parts F lF)
   (by rw [IntKind.wrap_u64]; omega) o5 hm
end
end Go.Proofs.YtnaomilkgfkegaaGreat
