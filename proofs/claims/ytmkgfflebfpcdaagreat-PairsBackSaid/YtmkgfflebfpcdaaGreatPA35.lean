/- What the claim stands on, part 36: PaI. -/
import Derived.Test.YtmkgfflebfpcdaaGreatPA33
import Derived.Test.YtmkgfflebfpcdaaGreatPA34
namespace Go.Proofs.YtmkgfflebfpcdaaGreat
section
open Go.RowKit
def w16:Nat:=4625196817309499392
def w32:Nat:=4629700416936869888
theorem between16_any (lo hi n:Nat) (hl:lo < 18446744073709551616) (hh:hi < 18446744073709551616) (rl:rightB lo=true) (rh:rightB hi=true) (h0:0≤val lo) (hle:val lo≤val hi) (hs:val hi≤val w16) (hn:n < 4294967296) :
   ∃ x,Amid lo hi x∧∀ w,Calls Tryz.prog 23 #[lo,hi,.int .u32 n] w fun r w'=>r = .returned (.float .f64 x)∧w=w':=by
 have v2:val w32=val w16+val w16:=by decide +kernel
 obtain⟨f,f1,f2,f3,f4,f5⟩:=frac_word n hn
 obtain⟨d,d1,d2,d3,d4,d5⟩:=sub_all hh hl rh rl hle (y0:=w16) (by decide) (by decide) (by omega)
 have eU:val u1=((2 ^ sq:Nat):Int):=by decide +kernel
 obtain⟨m,m1',m2,m3,m4,m5⟩:=mul_near d2 f2 d3 f3 d4 f4 d2 d3 (by rw [←eU]; exact Int.mul_le_mul_of_nonneg_left f5 d4)
 obtain⟨x,x1,x2,x3,x4,x5⟩:=add_all hl m2 rl m3 m4 (y0:=w32) (by decide) (by decide) (by rw [v2]; omega)
 have o1:(FloatKind.f64.format.order x lo == some Ordering.lt)=false:=by
   rw [order_lt x lo x2 hl x3 rl]; exact decide_eq_false (by omega)
 have cw:=fun w=>between6_walk lo hi n f d m x _ w (Lib.hid fun w=>frac_walk n f w (fun w=>run_float_arith w .quo 25 .f64 _ _ _ f1)) (fun w=>run_float_arith w .sub 25 .f64 _ _ _ d1) (fun w=>run_float_arith w .mul 25 .f64 _ _ _ m1') (fun w=>run_float_arith w .add 25 .f64 _ _ _ x1) o1 rfl
 refine ⟨_,?_,cw⟩
 rw [order_gt x hi x2 hh x3 rh]
 by_cases g:val hi < val x
 · rw [decide_eq_true g,if_pos rfl]; exact ⟨hh,rh,hle,Int.le_refl _⟩
 · rw [decide_eq_false g,if_neg Bool.false_ne_true]; exact ⟨x2,x3,x4,by omega⟩
theorem amid_in {A:Res} (fA:Fit A) (h0:0≤val A.lo) (h1:val A.hi≤val w16) (n:Nat) (hn:n < 4294967296):∃ x,In (oneR x) A∧∀ w,Calls Tryz.prog 23 #[A.lo,A.hi,.int .u32 n] w fun r w'=>r = .returned (.float .f64 x)∧w=w':=by
 obtain⟨x,h,c⟩:=between16_any A.lo A.hi n fA.lo fA.hi fA.rlo fA.rhi h0 fA.le h1 hn
 exact ⟨x,⟨one_fit h.lt h.right,h.lo,h.hi⟩,c⟩
theorem amid_below {lo hi n x:Nat} (c:∀ w,Calls Tryz.prog 23 #[lo,hi,.int .u32 n] w fun r w'=>r = .returned (.float .f64 x)∧w=w') (w:World) :
   Calls Tryz.prog 23 #[lo,hi,.int .u32 n] w (Rt (.float .f64 x) w):=
 (c w).mono fun _ _ ⟨h,e⟩=>⟨h,e ▸ Below.refl _ _⟩
theorem lim_fits:(Fit ouI∧0≤val ouI.lo∧val ouI.hi≤val w16)∧(Fit aI∧0≤val aI.lo∧val aI.hi≤val w16)∧(Fit bigN∧0≤val bigN.lo∧val bigN.hi≤val w16)∧(Fit bigM∧0≤val bigM.lo∧val bigM.hi≤val w16):=
 ⟨⟨.of (by decide +kernel),by decide +kernel,by decide +kernel⟩,⟨.of (by decide +kernel),by decide +kernel,by decide +kernel⟩,⟨.of (by decide +kernel),by decide +kernel,by decide +kernel⟩,⟨.of (by decide +kernel),by decide +kernel,by decide +kernel⟩⟩
abbrev LeafC (u0 u1' u2 u3 u4 u5 u6 u7:Nat) (n:Value):Prop:=∀ w,Calls Tryz.prog 6 #[.agg #[.int .u32 u0,.int .u32 u1',.int .u32 u2,.int .u32 u3,.int .u32 u4,.int .u32 u5,.int .u32 u6,.int .u32 u7]] w fun r w'=>r = .returned n∧Below w.heap.size w w'
section
variable (u0 u1' u2 u3 u4 u5 u6 u7:Nat) (g0:u0 < 4294967296) (g1:u1' < 4294967296) (g2:u2 < 4294967296) (g3:u3 < 4294967296) (g4:u4 < 4294967296) (g5:u5 < 4294967296) (g6:u6 < 4294967296) (g7:u7 < 4294967296)
include g1 g2 g3 in
theorem leafL_any (h:(u0:Int).tmod 4=0):∃ a b c,In (oneR a) ouI∧In (oneR b) ouI∧In (oneR c) ouI∧LeafC u0 u1' u2 u3 u4 u5 u6 u7 (ndL a b c):=by
 obtain⟨⟨fo,l,k⟩,_⟩:=lim_fits
 obtain⟨a,ia,ca⟩:=amid_in fo l k u1' g1
 obtain⟨b,ib,cb⟩:=amid_in fo l k u2 g2
 obtain⟨c,ic,cc⟩:=amid_in fo l k u3 g3
 exact ⟨a,b,c,ia,ib,ic,fun w=>leafL_walk w h (Lib.hid fun q w hq=>three1_walk w q (Lib.hid hq) (Lib.hid (amid_below ca)) (Lib.hid (amid_below cb)) (Lib.hid (amid_below cc)))⟩
include g1 g2 g3 g4 in
theorem leafO_any (h:(u0:Int).tmod 4=1):∃ a b c s,In (oneR a) ouI∧In (oneR b) ouI∧In (oneR c) ouI∧In (oneR s) ouI∧LeafC u0 u1' u2 u3 u4 u5 u6 u7 (ndO a b c s):=by
 obtain⟨⟨fo,l,k⟩,_⟩:=lim_fits
 obtain⟨a,ia,ca⟩:=amid_in fo l k u1' g1
 obtain⟨b,ib,cb⟩:=amid_in fo l k u2 g2
 obtain⟨c,ic,cc⟩:=amid_in fo l k u3 g3
 obtain⟨s,is,cs⟩:=amid_in fo l k u4 g4
 exact ⟨a,b,c,s,ia,ib,ic,is,fun w=>leafO_walk w h (Lib.hid fun q w hq=>three1_walk w q (Lib.hid hq) (Lib.hid (amid_below ca)) (Lib.hid (amid_below cb)) (Lib.hid (amid_below cc))) (Lib.hid cs)⟩
include g1 g2 in
theorem leafP_any (h:(u0:Int).tmod 4=2):∃ a n,In (oneR a) aI∧In (oneR n) bigN∧LeafC u0 u1' u2 u3 u4 u5 u6 u7 (ndP a n):=by
 obtain⟨_,⟨fa,l,k⟩,⟨fn,ln,kn⟩,_⟩:=lim_fits
 obtain⟨a,ia,ca⟩:=amid_in fa l k u1' g1
 obtain⟨n,jn,cn⟩:=amid_in fn ln kn u2 g2
 exact ⟨a,n,ia,jn,fun w=>leafP_walk w h (Lib.hid ca) (Lib.hid cn)⟩
include g1 g2 g3 g4 g5 g6 g7 in
theorem leafM_any (h:(u0:Int).tmod 4=3):∃ a p q r s t u,In (oneR a) aI∧In (oneR p) bigM∧In (oneR q) bigM∧In (oneR r) bigM∧In (oneR s) bigM∧In (oneR t) bigM∧In (oneR u) bigM∧LeafC u0 u1' u2 u3 u4 u5 u6 u7 (ndM a p q r s t u):=by
 obtain⟨_,⟨fa,l,k⟩,_,⟨fm,lm,km⟩⟩:=lim_fits
 obtain⟨a,ia,ca⟩:=amid_in fa l k u1' g1
 obtain⟨p,ip,cp⟩:=amid_in fm lm km u2 g2
 obtain⟨q,iq,cq⟩:=amid_in fm lm km u3 g3
 obtain⟨r,ir,cr⟩:=amid_in fm lm km u4 g4
 obtain⟨s,is,cs⟩:=amid_in fm lm km u5 g5
 obtain⟨t,it,ct⟩:=amid_in fm lm km u6 g6
 obtain⟨u,iu,cu⟩:=amid_in fm lm km u7 g7
 exact ⟨a,p,q,r,s,t,u,ia,ip,iq,ir,is,it,iu,fun w=>leafM_walk w h (Lib.hid ca)
   (Lib.hid fun x w hx=>three2_walk w x (Lib.hid hx) (Lib.hid (amid_below cp)) (Lib.hid (amid_below cq)) (Lib.hid (amid_below cr)))
   (Lib.hid fun x w hx=>three5_walk w x (Lib.hid hx) (Lib.hid (amid_below cs)) (Lib.hid (amid_below ct)) (Lib.hid (amid_below cu)))⟩
end
theorem four_ways (u:Nat):(u:Int).tmod 4=0∨(u:Int).tmod 4=1∨(u:Int).tmod 4=2∨(u:Int).tmod 4=3:=by
 have e:(u:Int).tmod 4=((u % 4:Nat):Int):=rfl
 omega
theorem chan_of (c:Nat):∃ k:Nat,k < 3∧(c:Int).tmod 3=(k:Int)∧IntKind.i64.wrap (k:Int)=(k:Int):=by
 have e:(c:Int).tmod 3=((c % 3:Nat):Int):=rfl
 refine ⟨c % 3,by omega,e,?_⟩
 have h:c % 3=0∨c % 3=1∨c % 3=2:=by omega
 rcases h with h | h | h <;> rw [h] <;> decide
end
end Go.Proofs.YtmkgfflebfpcdaaGreat
