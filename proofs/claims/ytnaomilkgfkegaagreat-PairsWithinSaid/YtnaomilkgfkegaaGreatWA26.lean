/- What the claim stands on, part 27: Btw, OrV, GgM, GgH, MiL. -/
import Derived.Test.YtnaomilkgfkegaaGreatWA25
import Derived.Test.YtnaomilkgfkegaaGreatWA16
import Derived.Deep.RegionHeld3
import Derived.Test.YtnaomilkgfkegaaGreatWA15
import Derived.Test.YtnaomilkgfkegaaGreatWA23
import Derived.Test.YtnaomilkgfkegaaGreatWA24
set_option maxHeartbeats 16000000
set_option maxRecDepth 100000
namespace Go.Proofs.YtnaomilkgfkegaaGreat
section
open Go.RowKit
theorem kc2 {f:FuncId} {al ah bl bh rl rh pb:Nat} (h:Calc2 f pb al ah bl bh rl rh):∀ v,Has1 v (pb,#[true])→Calls Tryz.prog f #[.pointer (some ⟨pb,0,none⟩),.agg #[al,ah],.agg #[bl,bh]] v (Rt (.agg #[rl,rh]) v):=
 fun v hv=>kb_of hv (h v hv)
theorem kcn {x pb:Nat} (h:CalcN pb x):∀ v,Has1 v (pb,#[true])→Calls Tryz.prog 35 #[.pointer (some ⟨pb,0,none⟩),x] v (Rt (.agg #[x,x]) v):=
 fun v hv=>kb_of hv (h v hv)
theorem pos_lo (r:Res):(posR r).lo=maxW r.lo 0:=rfl
theorem pos_hi (r:Res):(posR r).hi=r.hi:=rfl
theorem geq_0 {x:Nat} (lx:x < 18446744073709551616) (rx:rightB x=true):((FloatKind.f64.format.order x 0 == some Ordering.gt) || (FloatKind.f64.format.order x 0 == some Ordering.eq))=decide (0≤val x):=by
 rw [order_gt x 0 lx (by decide) rx (by decide),order_eq x 0 lx (by decide) rx (by decide),Or.v0]
 by_cases h:0 < val x
 ·rw [decide_eq_true h,decide_eq_true (by omega:0≤val x)]; rfl
 ·by_cases g:val x=0
  ·rw [decide_eq_true g,Bool.or_true,decide_eq_true (by omega:0≤val x)]
  ·rw [decide_eq_false h,decide_eq_false g,decide_eq_false (by omega:¬ 0≤val x)]; rfl
theorem quo_zero {a b:Res} (h:(divR a b).e≠0):(divR a b).lo=0∧(divR a b).hi=0:=by
 have k:(divI a.lo a.hi b.lo b.hi).e≠0:=h
 show (divI a.lo a.hi b.lo b.hi).lo=0∧(divI a.lo a.hi b.lo b.hi).hi=0
 unfold divI at k ⊢
 cases hb:hasB b.lo b.hi 0
 ·rw [hb,if_neg Bool.false_ne_true] at k
  rw [if_neg Bool.false_ne_true];unfold div1 at k ⊢;unfold tightR at k ⊢
  split at k
  ·rename_i h1
   rw [if_pos h1]
   split at k
   ·exact absurd rfl k
   ·rename_i h2
    rw [if_neg h2]; exact ⟨rfl,rfl⟩
  ·rename_i h1
   rw [if_neg h1]; exact ⟨rfl,rfl⟩
 ·rw [if_pos rfl]; exact ⟨rfl,rfl⟩
theorem edge_0:edgeW 0=0:=by decide +kernel
theorem slope_nil {i o d:Res} (he:(Or.st i o d).e≠0) (h:Dirs i o d):(Or.st i o d).lo=0∧(Or.st i o d).hi=0:=by
 have k:=slope_fits h
 by_cases g:0 < val (Or.s i o d).hi
 ·by_cases e:(Or.r i o d).e=0
  ·exfalso
   apply he
   unfold Or.st;rw [if_pos g,if_pos e]
   split
   ·exact e
   ·rfl
  ·have est:Or.st i o d=Or.r i o d:=by
    unfold Or.st;rw [if_pos g,if_neg e]
   rw [est];exact quo_zero e
 ·exfalso
  apply he
  unfold Or.st
  rw [if_neg g]; exact k.s.fit.e
theorem slope_words {i o d:Res} (h:Dirs i o d):(Or.st i o d).lo < 18446744073709551616∧(Or.st i o d).hi < 18446744073709551616∧rightB (Or.st i o d).lo=true∧rightB (Or.st i o d).hi=true:=by
 by_cases he:(Or.st i o d).e=0
 ·have f:=st_fit h he
  exact ⟨f.lo,f.hi,f.rlo,f.rhi⟩
 ·obtain⟨h1,h2⟩:=slope_nil he h
  rw [h1,h2]; decide
theorem slope_unit {i o d:Res} (h:Dirs i o d) (he:(Or.st i o d).e=0):In (Or.slope i o d) oeI:=edge_unit (st_fit h he)
theorem mul_bad {e:Int} (he:(e == 0)=false) (al ah bl bh:Nat) (la:al < 18446744073709551616) (ha:ah < 18446744073709551616) (lb:bl < 18446744073709551616) (hb:bh < 18446744073709551616) (pb:Nat) (v:World) (hv:Has1 v (pb,#[.int .i64 e])) :
  Calls Tryz.prog 32 #[.pointer (some ⟨pb,0,none⟩),.agg #[al,ah],.agg #[bl,bh]] v fun r w'=>r = .returned (.agg #[(),()])∧Put ⟨pb,0,none⟩ (.int .i64 e) v w':=by
 have c:=cMul_any e al ah bl bh pb 0 v la ha lb hb hv.pc hv.pf;rw [stepI_err _ _ _ he] at c;exact c
theorem add_bad {e:Int} (he:(e == 0)=false) (al ah bl bh:Nat) (la:al < 18446744073709551616) (ha:ah < 18446744073709551616) (lb:bl < 18446744073709551616) (hb:bh < 18446744073709551616) (pb:Nat) (v:World) (hv:Has1 v (pb,#[.int .i64 e])) :
  Calls Tryz.prog 103 #[.pointer (some ⟨pb,0,none⟩),.agg #[al,ah],.agg #[bl,bh]] v fun r w'=>r = .returned (.agg #[(),()])∧Put ⟨pb,0,none⟩ (.int .i64 e) v w':=by
 have c:=cAdd_any e al ah bl bh pb 0 v la ha lb hb hv.pc hv.pf;rw [stepI_err _ _ _ he] at c;exact c
theorem slope_zero {i o d:Res} (he:(Or.st i o d).e≠0) (h:Dirs i o d):(Or.slope i o d).lo=0∧(Or.slope i o d).hi=0:=by
 obtain⟨h1,h2⟩:=slope_nil he h;unfold Or.slope
 rw [edgeR_lo,edgeR_hi,h1,h2,edge_0]; exact ⟨rfl,rfl⟩
end
section
open Go.RowKit
attribute [local go_sem] run_store_float
end
section
open Go.RowKit
attribute [local go_sem] run_store_float
end
section
open Go.RowKit
attribute [local go_sem] run_store_float
theorem word_neg {r:Nat} (h:val r≠0) (hr:rung r < 9218868437227405312):rightB r=true:=by
 have hn:r≠9223372036854775808:=by
  intro e;subst e;exact h (by decide +kernel)
 unfold rightB;unfold rung at hr
 rw [decide_eq_true hr,decide_eq_false hn]; rfl
theorem sub_all {a b y0:Nat} (ha:a < 18446744073709551616) (hb:b < 18446744073709551616) (ra:rightB a=true) (rb:rightB b=true) (hab:val b≤val a) (ly:y0 < 18446744073709551616) (ry:rightB y0=true) (hy:val a - val b≤val y0) :
  ∃ r,floatBits .sub .f64 a b=some r∧r < 18446744073709551616∧rightB r=true∧0≤val r∧val r≤val y0:=by
 have hst:(sgnB a&&!sgnB b)=false:=by
  cases sa:sgnB a
  ·rfl
  ·have n:=(val_neg a ha ra).2 sa
   have m:=(val_neg b hb rb).1 (by omega)
   rw [m]; rfl
 obtain⟨r,h1,h2⟩:=sub_beside a b ha hb ra rb;obtain⟨n1,n2,n3,n4⟩:=near_between (x0:=0) (y0:=y0) (by decide) (sub_down a b ra rb) (sub_up a b ra rb) h2 (by decide) (by decide) (by rw [show val 0=0 from by decide +kernel]; omega) ly ry (by omega);rw [show val 0=0 from by decide +kernel] at n3;have h3:((Ieee.double.read a).sum (Ieee.double.read b).opposite).map Ieee.double.write=some r:=h1;rw [read_num a ha (right_rung a ra),read_num b hb (right_rung b rb)] at h3;exact ⟨r,h1,n1,word_right (sum_plain (sgnB a) (!sgnB b) a b (expo_in a ra).1 (expo_in b rb).1 hst (by rw [neg_sg,←val_sg,←val_sg]; omega) r h3) n2,n3,n4⟩
theorem add_all {a b y0:Nat} (ha:a < 18446744073709551616) (hb:b < 18446744073709551616) (ra:rightB a=true) (rb:rightB b=true) (pb:0≤val b) (ly:y0 < 18446744073709551616) (ry:rightB y0=true) (hy:val a+val b≤val y0) :
  ∃ r,floatBits .add .f64 a b=some r∧r < 18446744073709551616∧rightB r=true∧val a≤val r∧val r≤val y0:=by
 have sb:=plain_sgn hb rb pb;obtain⟨r,h1,h2⟩:=add_beside a b ha hb ra rb;obtain⟨n1,n2,n3,n4⟩:=near_between (x0:=a) (y0:=y0) (by decide) (add_down a b ra rb) (add_up a b ra rb) h2 ha ra (by omega) ly ry (by omega)
 by_cases g:0≤val a+val b
 ·have h3:((Ieee.double.read a).sum (Ieee.double.read b)).map Ieee.double.write=some r:=h1
  rw [read_num a ha (right_rung a ra),read_num b hb (right_rung b rb)] at h3;exact ⟨r,h1,n1,word_right (sum_plain _ _ a b (expo_in a ra).1 (expo_in b rb).1 (by rw [sb,Bool.and_false]) (by rw [←val_sg,←val_sg]; omega) r h3) n2,n3,n4⟩
 ·have e1:val 9223372036854775809=-1:=by decide +kernel
  obtain⟨_,_,_,k4⟩:=near_between (x0:=a) (y0:=9223372036854775809) (by decide) (add_down a b ra rb) (add_up a b ra rb) h2 ha ra (by omega) (by decide) (by decide) (by rw [e1]; omega);exact ⟨r,h1,n1,word_neg (by rw [e1] at k4; omega) n2,n3,n4⟩
theorem add_self0 {x:Nat} (lx:x < 18446744073709551616) (rx:rightB x=true):floatBits .add .f64 x 0=some x:=by
 have z0:val 0=0:=by decide +kernel
 obtain⟨r,h1,h2,h3,h4,h5⟩:=add_all lx (by decide:(0:Nat) < 18446744073709551616) rx (by decide) (by rw [z0]; exact Int.le_refl _) (y0:=x) lx rx (by rw [z0]; omega);rw [h1,val_inj h2 lx h3 rx (Int.le_antisymm h5 h4)]
theorem between8_any (lo hi n:Nat) (hl:lo < 18446744073709551616) (hh:hi < 18446744073709551616) (rl:rightB lo=true) (rh:rightB hi=true) (h0:-SS≤val lo) (hle:val lo≤val hi) (hs:val hi≤SS) (hn:n < 4294967296) :
  ∃ x,Amid lo hi x∧∀ w,Calls Tryz.prog 19 #[lo,hi,.int .u32 n] w fun r w'=>r = .returned (x:Value)∧w=w':=by
 have v2:val w2=2*SS:=by decide +kernel
 have v3:val w3=3*SS:=by decide +kernel
 obtain⟨f,f1,f2,f3,f4,f5⟩:=frac_word n hn;obtain⟨d,d1,d2,d3,d4,d5⟩:=sub_all hh hl rh rl hle (y0:=w2) (by decide) (by decide) (by rw [v2]; omega)
 have eU:val u1=((2 ^ sq:Nat):Int):=by decide +kernel
 obtain⟨m,m1',m2,m3,m4,m5⟩:=mul_near d2 f2 d3 f3 d4 f4 d2 d3 (by rw [←eU]; exact Int.mul_le_mul_of_nonneg_left f5 d4);obtain⟨x,x1,x2,x3,x4,x5⟩:=add_all hl m2 rl m3 m4 (y0:=w3) (by decide) (by decide) (by rw [v3]; rw [v2] at d5; omega)
 have o1:(FloatKind.f64.format.order x lo == some Ordering.lt)=false:=by
  rw [order_lt x lo x2 hl x3 rl]; exact decide_eq_false (by omega)
 have cw:=fun w=>between6_walk lo hi n f d m x _ w (Hd fun w=>frac_walk n f w (fun w=>run_float_arith w .quo 25 .f64 _ _ _ f1)) (fun w=>run_float_arith w .sub 25 .f64 _ _ _ d1) (fun w=>run_float_arith w .mul 25 .f64 _ _ _ m1') (fun w=>run_float_arith w .add 25 .f64 _ _ _ x1) o1 rfl
 refine ⟨_,?_,cw⟩;rw [order_gt x hi x2 hh x3 rh]
 by_cases g:val hi < val x
 ·rw [decide_eq_true g,if_pos rfl]; exact ⟨hh,rh,hle,Int.le_refl _⟩
 ·rw [decide_eq_false g,if_neg Bool.false_ne_true]; exact ⟨x2,x3,x4,by omega⟩
theorem span8_any (lo hi p q:Nat) (hl:lo < 18446744073709551616) (hh:hi < 18446744073709551616) (rl:rightB lo=true) (rh:rightB hi=true) (h0:-SS≤val lo) (hle:val lo≤val hi) (hs:val hi≤SS) (hp:p < 4294967296) (hq:q < 4294967296) :
  ∃ a:Res,In a ⟨0,lo,hi⟩∧∀ w,Calls Tryz.prog 23 #[lo,hi,.int .u32 p,.int .u32 q] w (Rt (.agg #[a.lo,a.hi]) w):=by
 obtain⟨a,a1,a2⟩:=between8_any lo hi p hl hh rl rh h0 hle hs hp;obtain⟨b,b1,b2⟩:=between8_any lo hi q hl hh rl rh h0 hle hs hq;refine ⟨⟨0,if (FloatKind.f64.format.order a b == some Ordering.gt)=true then b else a,if (FloatKind.f64.format.order a b == some Ordering.gt)=true then a else b⟩,?_,fun w=>span_walk lo hi p q a b _ w (Hd a2) (Hd b2) rfl⟩
 have key:∀ x y,Amid lo hi x→Amid lo hi y→val x≤val y→In ⟨0,x,y⟩ ⟨0,lo,hi⟩:=fun x y hx hy hxy =>
  ⟨⟨rfl,hx.lt,hy.lt,by show ivR x y=true; unfold ivR leB; rw [hx.right,hy.right,decide_eq_true hxy]; rfl⟩,hx.lo,hy.hi⟩
 rw [order_gt a b a1.lt b1.lt a1.right b1.right]
 by_cases g:val b < val a
 ·rw [decide_eq_true g,if_pos rfl,if_pos rfl]; exact key b a b1 a1 (by omega)
 ·rw [decide_eq_false g,if_neg Bool.false_ne_true,if_neg Bool.false_ne_true]; exact key a b a1 b1 (by omega)
theorem unit_ends:val u1=SS∧val m1=-SS∧0 < SS:=⟨by decide +kernel,by decide +kernel,SS0⟩
theorem span_in {A:Res} (fA:Fit A) (h1:val m1≤val A.lo) (h2:val A.hi≤val u1) (p q:Nat) (hp:p < 4294967296) (hq:q < 4294967296) :
  ∃ a:Res,In a A∧∀ w,Calls Tryz.prog 23 #[A.lo,A.hi,.int .u32 p,.int .u32 q] w (Rt (.agg #[a.lo,a.hi]) w):=by
 obtain⟨e1,e2,_⟩:=unit_ends;obtain⟨a,i,c⟩:=span8_any A.lo A.hi p q fA.lo fA.hi fA.rlo fA.rhi (by omega) fA.le (by omega) hp hq;exact ⟨a,⟨i.fit,i.lo,i.hi⟩,c⟩
theorem lIn8_any (al ah bl bh:Nat) (w:World) (o1:((FloatKind.f64.format.order bl al == some Ordering.lt) || (FloatKind.f64.format.order bl al == some Ordering.eq))=true) (o2:((FloatKind.f64.format.order ah bh == some Ordering.lt) || (FloatKind.f64.format.order ah bh == some Ordering.eq))=true) :
  Calls Tryz.prog 11 #[.agg #[al,ah],.agg #[bl,bh]] w fun r w'=>r = .returned (.bool true)∧Below w.heap.size w w':=by
 have M:=Hd (((Own.nil w).made #[al,ah] 31).made #[bl,bh] 31);simp only [World.size_alloc] at M;obtain⟨k1,k2⟩:=(M.o.nth 1 rfl).two;obtain⟨k3,k4⟩:=(M.o.nth 0 rfl).two;go_enter Tryz.func11,Tryz.ntmps11;go_wp2;go_ret;exact ⟨by rw [←o2]; rfl,M.o.base⟩
theorem in8 {a A:Res} (i:In a A) (fA:Fit A) (w:World):Calls Tryz.prog 11 #[.agg #[a.lo,a.hi],.agg #[A.lo,A.hi]] w (Rt (.bool true) w):=
 lIn8_any a.lo a.hi A.lo A.hi w ((order_le A.lo a.lo fA.lo i.fit.lo fA.rlo i.fit.rlo).trans (decide_eq_true i.lo)) ((order_le a.hi A.hi i.fit.hi fA.hi i.fit.rhi fA.rhi).trans (decide_eq_true i.hi))
end
section
open Go.RowKit
theorem moved_any (l g x:Nat) (w:World) (ll:l < 18446744073709551616) (lg:g < 18446744073709551616) (lx:x < 18446744073709551616) (rl:rightB l=true) (rg:rightB g=true) (rx:rightB x=true) :
  Calls Tryz.prog 214 #[.agg #[l,g],x] w (Rt (.float .f64 (minW (maxW x l) g)) w):=by
 obtain⟨m1',m2',_⟩:=max_facts x l lx ll rx rl;exact moved_walk w (fun ts t w=>(run_less x l lx ll rx rl ts t w).2) (fun ts t w=>(run_less (maxW x l) g m1' lg m2' rg ts t w).1)
theorem unit_call {a:Res} (f:Fit a) (w:World) :
  Calls Tryz.prog 200 #[.agg #[(),(4607182418800017408:Nat)],.agg #[a.lo,a.hi]] w (Rt (.agg #[.float .f64 (clampR a).lo,.float .f64 (clampR a).hi]) w):=
 oclamped_walk w (Hd fun w=>moved_any 0 u1 a.lo w (by decide) (by decide) f.lo (by decide) (by decide) f.rlo) (Hd fun w=>moved_any 0 u1 a.hi w (by decide) (by decide) f.hi (by decide) (by decide) f.rhi)
theorem ocheck_ok {r s i o d:Res} (hr:In r ouI) (hs:In s ouI) (hi:In i ouI) (ho:In o ouI) (hd:In d oeI) (w:World) :
  Calls Tryz.prog 197 #[.agg #[r.lo,r.hi,s.lo,s.hi,i.lo,i.hi,o.lo,o.hi,d.lo,d.hi]] w (Rt (.int .i64 0) w):=
 ocheck_walk r.lo r.hi s.lo s.hi i.lo i.hi o.lo o.hi d.lo d.hi true true true true true false false false false false false false false false false w
  (Hd (right_in hr.fit)) (Hd (right_in hs.fit)) (Hd (right_in hi.fit)) (Hd (right_in ho.fit)) (Hd (right_in hd.fit))
  (lt_in hr ou_fit) (gt_in hr ou_fit) (lt_in hs ou_fit) (gt_in hs ou_fit) (lt_in hi ou_fit) (gt_in hi ou_fit) (lt_in ho ou_fit) (gt_in ho ou_fit) (lt_in hd oe_fit) (gt_in hd oe_fit) (Hd olimits_walk)
theorem pair_call {s:Res} (hs:In s ouI) (pb:Nat) (v:World) (hv:Has1 v (pb,#[true])) :
  Calls Tryz.prog 198 #[.pointer (some ⟨pb,0,none⟩),.agg #[s.lo,s.hi]] v (Rt (.tuple #[.agg #[.float .f64 (Or.a s).lo,.float .f64 (Or.a s).hi],.agg #[.float .f64 (Or.b s).lo,.float .f64 (Or.b s).hi]]) v):=by
 obtain⟨c1,c2,c3⟩:=Or.consts;have P:=pair_in hs
 exact opair_walk v (Hd hv) (Hd (kcn (calc_num w2_fit pb))) (Hd pi_any) (Hd (kc2 (calc_div big_fit.1 w2_fit c1 pb))) (Hd (kcn (calc_num w3_fit pb))) (Hd (kc2 (calc_div w2_fit w3_fit c2 pb)))
  (Hd (kc2 (calc_sub c1 c2 c3 pb))) (Hd (kcn (calc_num u1_fit pb))) (Hd (kc2 (calc_mul c3 hs.fit P.m.fit pb))) (Hd (kc2 (calc_add big_fit.1 P.m.fit P.q.fit pb))) (Hd (kc2 (calc_div u1_fit P.q.fit P.a.fit pb)))
  (Hd (kc2 (calc_mul hs.fit P.a.fit P.b.fit pb)))
theorem steep_call {i o d:Res} (h:Dirs i o d) (g:0 < val (Or.s i o d).hi) (pb:Nat) (v:World) (hv:Has1 v (pb,#[true])) :
  Calls Tryz.prog 213 #[.pointer (some ⟨pb,0,none⟩),.agg #[.float .f64 (Or.s i o d).lo,.float .f64 (Or.s i o d).hi],.agg #[.float .f64 (Or.top i o).lo,.float .f64 (Or.top i o).hi]] v fun r w' =>
   r = .returned (.agg #[.float .f64 (Or.st i o d).lo,.float .f64 (Or.st i o d).hi])∧Put ⟨pb,0,none⟩ (.int .i64 (Or.st i o d).e) v w':=by
 have k:=slope_fits h;have P:=pos_fit k.s.fit g;have hd:=div_told P k.top.fit pb
 have hm:=fun ts t w=>(run_less (Or.s i o d).lo 0 k.s.fit.lo (by decide) k.s.fit.rlo (by decide) ts t w).2
 have hg:=geq_0 k.s.fit.lo k.s.fit.rlo;have er:divR (posR (Or.s i o d)) (Or.top i o)=Or.r i o d:=rfl;rw [er,pos_lo,pos_hi] at hd
 by_cases l:0≤val (Or.s i o d).lo
 ·rw [decide_eq_true l] at hg
  have est:Or.st i o d=Or.r i o d:=by
   unfold Or.st;rw [if_pos g,if_pos l]
   split <;> rfl
  rw [est];exact steep_pos v (Hd hv) hm (Hd hd) hg
 ·rw [decide_eq_false l] at hg
  by_cases e:(Or.r i o d).e=0
  ·have est:Or.st i o d=midR (Or.s i o d) (Or.r i o d):=by
    unfold Or.st;rw [if_pos g,if_pos e,if_neg l]
   have fr:Fit (Or.r i o d):=quo_fit P k.top.fit e;rw [est];rw [e] at hd;have c:=steep_mid v (Hd hv) hm (Hd fun v hv=>kb_of hv (hd v hv)) hg (Hd fun w=>hull_any (Or.s i o d).lo 0 (Or.r i o d).lo (Or.r i o d).hi w k.s.fit.lo (by decide) fr.lo fr.hi k.s.fit.rlo (by decide) fr.rlo fr.rhi)
   exact c.mono fun _ _ ⟨h1,h2⟩=>⟨h1,Put.of_below hv.pc h2⟩
  ·have est:Or.st i o d=Or.r i o d:=by
    unfold Or.st;rw [if_pos g,if_neg e]
   rw [est];exact steep_err v (Hd hv) hm (Hd hd) hg (by simpa using e)
theorem edge_call2 {i o d:Res} (h:Dirs i o d) (w:World) :
  Calls Tryz.prog 200 #[.agg #[(13830554455654793216:Nat),(4607182418800017408:Nat)],.agg #[.float .f64 (Or.st i o d).lo,.float .f64 (Or.st i o d).hi]] w (Rt (.agg #[.float .f64 (Or.slope i o d).lo,.float .f64 (Or.slope i o d).hi]) w):=by
 obtain⟨h1,h2,h3,h4⟩:=slope_words h
 show Calls _ _ _ _ (Rt (.agg #[.float .f64 (edgeR (Or.st i o d)).lo,.float .f64 (edgeR (Or.st i o d)).hi]) w)
 rw [edgeR_lo,edgeR_hi];exact oclamped_walk w (Hd fun w=>moved_any m1 u1 _ w (by decide) (by decide) h1 (by decide) (by decide) h3) (Hd fun w=>moved_any m1 u1 _ w (by decide) (by decide) h2 (by decide) (by decide) h4)
theorem slope_call {i o d:Res} (h:Dirs i o d) (pb:Nat) (v:World) (hv:Has1 v (pb,#[true])) :
  Calls Tryz.prog 199 #[.pointer (some ⟨pb,0,none⟩),.agg #[i.lo,i.hi],.agg #[o.lo,o.hi],.agg #[d.lo,d.hi]] v fun r w' =>
   r = .returned (.agg #[.float .f64 (Or.slope i o d).lo,.float .f64 (Or.slope i o d).hi])∧Put ⟨pb,0,none⟩ (.int .i64 (Or.st i o d).e) v w':=by
 have k:=slope_fits h;have gt:=order_gt (Or.s i o d).hi 0 k.s.fit.hi (by decide) k.s.fit.rhi (by decide);rw [Or.v0] at gt;have d1:=kc2 (calc_mul h.i.fit h.o.fit k.p.fit pb);have d2:=kc2 (calc_sub h.d.fit k.p.fit k.s.fit pb)
 by_cases g:0 < val (Or.s i o d).hi
 ·rw [decide_eq_true g] at gt
  exact oslope_high v (Hd hv) (Hd d1) (Hd d2) gt (Hd (kc2 (calc_max h.i.fit h.o.fit k.top.fit pb))) (Hd fun v hv=>steep_call h g pb v hv) (Hd fun w=>edge_call2 h w)
 ·rw [decide_eq_false g] at gt
  have est:Or.st i o d=Or.s i o d:=by
   unfold Or.st;rw [if_neg g]
  have ee:(Or.st i o d).e=0:=by rw [est]; exact k.s.fit.e
  have c3:=fun w=>edge_call2 h w
  rw [est] at c3;rw [ee]
  exact (oslope_low v (Hd hv) (Hd d1) (Hd d2) gt (Hd c3)).mono fun _ _ ⟨h1,h2⟩=>⟨h1,Put.of_below hv.pc h2⟩
theorem value8 {r s i o d:Res} (hr:In r ouI) (hs:In s ouI) (h:Dirs i o d) (he:(Or.st i o d).e=0) (w:World) :
  Calls Tryz.prog 185 #[.agg #[r.lo,r.hi],.agg #[s.lo,s.hi],.agg #[i.lo,i.hi],.agg #[o.lo,o.hi],.agg #[d.lo,d.hi]] w fun x w' =>
  x = .returned (.tuple #[.agg #[.float .f64 (Or.val r s (Or.slope i o d)).lo,.float .f64 (Or.val r s (Or.slope i o d)).hi],true])∧Below w.heap.size w w':=by
 have t:=slope_unit h he;have V:=val_fits hr hs t;have P:=pair_in hs
 have c:=fun pb v hv=>slope_call h pb v hv
 rw [he] at c
 exact oValue_ok w (Hd fun w=>ocheck_ok hr hs h.i h.o h.d w) (Hd fun pb v hv=>pair_call hs pb v hv) (Hd c)
  (Hd fun pb=>calc_mul P.b.fit t.fit V.n.fit pb) (Hd fun pb=>calc_add P.a.fit V.n.fit V.k.fit pb) (Hd fun pb=>calc_mul hr.fit V.k.fit V.l.fit pb) (Hd fun w=>unit_call V.l.fit w)
theorem value8_bad {r s i o d:Res} (hr:In r ouI) (hs:In s ouI) (h:Dirs i o d) (he:(Or.st i o d).e≠0) (w:World) :
  Calls Tryz.prog 185 #[.agg #[r.lo,r.hi],.agg #[s.lo,s.hi],.agg #[i.lo,i.hi],.agg #[o.lo,o.hi],.agg #[d.lo,d.hi]] w fun x w' =>
  x = .returned (.tuple #[.agg #[(),()],.int .i64 (Or.st i o d).e])∧Below w.heap.size w w':=by
 have P:=pair_in hs
 have he':((Or.st i o d).e == 0)=false:=by simpa using he
 have c:=fun pb v hv=>slope_call h pb v hv
 obtain⟨z1,z2⟩:=slope_zero he h;rw [z1,z2] at c
 have u:=fun w=>unit_call Or.z_fit w
 have e1:(clampR (oneR 0)).lo=0:=by decide +kernel
 have e2:(clampR (oneR 0)).hi=0:=by decide +kernel
 rw [e1,e2] at u
 exact oValue_ok w (Hd fun w=>ocheck_ok hr hs h.i h.o h.d w) (Hd fun pb v hv=>pair_call hs pb v hv) (Hd c)
  (Hd fun pb=>mul_bad he' _ _ _ _ P.b.fit.lo P.b.fit.hi (by decide) (by decide) pb) (Hd fun pb=>add_bad he' _ _ _ _ P.a.fit.lo P.a.fit.hi (by decide) (by decide) pb) (Hd fun pb=>mul_bad he' _ _ _ _ hr.fit.lo hr.fit.hi (by decide) (by decide) pb) (Hd u)
end
section
open Go.RowKit
def uh:Nat:=4602678819172646912
theorem uh_fit:Fit (oneR uh):=one_fit (by decide) (by decide)
def aI:Res:=⟨0,4584664420663164928,u1⟩
def cI8:Res:=⟨0,4571153621781053440,u1⟩
theorem aI_fit:Fit aI:=.of (by decide +kernel)
theorem cI8_fit:Fit cI8:=.of (by decide +kernel)
def nnR (r:Res):Res:=⟨r.e,maxW r.lo 0,maxW r.hi 0⟩
theorem nn_fit {a:Res} (h:Fit a):Fit (nnR a):=by
 obtain⟨l1,l2,l3⟩:=max_facts a.lo 0 h.lo (by decide) h.rlo (by decide);obtain⟨k1,k2,k3⟩:=max_facts a.hi 0 h.hi (by decide) h.rhi (by decide);have hle:=h.le;refine ⟨h.e,l1,k1,?_⟩
 show ivR (maxW a.lo 0) (maxW a.hi 0)=true
 unfold ivR leB
 rw [l2,k2,decide_eq_true (show val (maxW a.lo 0)≤val (maxW a.hi 0) by rw [l3,k3]; omega)]; rfl
theorem nn_in {a A:Res} (h:In a A) (fA:Fit A):In (nnR a) (nnR A):=by
 obtain⟨_,_,l3⟩:=max_facts a.lo 0 h.fit.lo (by decide) h.fit.rlo (by decide);obtain⟨_,_,k3⟩:=max_facts a.hi 0 h.fit.hi (by decide) h.fit.rhi (by decide);obtain⟨_,_,m3⟩:=max_facts A.lo 0 fA.lo (by decide) fA.rlo (by decide);obtain⟨_,_,n3⟩:=max_facts A.hi 0 fA.hi (by decide) fA.rhi (by decide);have h1:=h.lo;have h2:=h.hi;refine ⟨nn_fit h.fit,?_,?_⟩
 ·show val (maxW A.lo 0)≤val (maxW a.lo 0)
  rw [l3,m3]; omega
 ·show val (maxW a.hi 0)≤val (maxW A.hi 0)
  rw [k3,n3]; omega
def Gx.a2 (a:Res):Res:=sqrR a
def Gx.s1 (a:Res):Res:=subR (Gx.a2 a) (oneR u1)
def Gx.c2 (c:Res):Res:=sqrR c
def Gx.pm (c a:Res):Res:=mulR (Gx.s1 a) (Gx.c2 c)
def Gx.sp (c a:Res):Res:=addR (Gx.pm c a) (oneR u1)
def Gx.sq (c a:Res):Res:=sqrR (Gx.sp c a)
def Gx.pq (c a:Res):Res:=mulR piR (Gx.sq c a)
def Gx.D (c a:Res):Res:=divR (Gx.a2 a) (Gx.pq c a)
def Gx.n (c:Res):Res:=subR (oneR u1) (Gx.c2 c)
def Gx.F (c a:Res):Res:=divR (Gx.n c) (Gx.sp c a)
def Gx.t (c:Res):Res:=divR (Gx.n c) (Gx.c2 c)
def Gx.m (c a:Res):Res:=mulR (Gx.a2 a) (Gx.t c)
def Gx.p (c a:Res):Res:=addR (oneR u1) (Gx.m c a)
def Gx.r (c a:Res):Res:=sqrtR (Gx.p c a)
def Gx.d (c a:Res):Res:=subR (Gx.r c a) (oneR u1)
def Gx.h (c a:Res):Res:=mulR (oneR uh) (Gx.d c a)
def Gx.l (c a:Res):Res:=nnR (Gx.h c a)
def Gx.q (c a:Res):Res:=addR (oneR u1) (Gx.l c a)
def Gx.v (c a:Res):Res:=divR (oneR u1) (Gx.q c a)
def Gx.q2 (i o a:Res):Res:=addR (Gx.q i a) (Gx.l o a)
def Gx.w (i o a:Res):Res:=divR (oneR u1) (Gx.q2 i o a)
structure GF (c a:Res):Prop where
 a2:Fit (Gx.a2 a)
 s1:Fit (Gx.s1 a)
 c2:Fit (Gx.c2 c)
 pm:Fit (Gx.pm c a)
 sp:Fit (Gx.sp c a)
 sq:Fit (Gx.sq c a)
 pq:Fit (Gx.pq c a)
 D:Fit (Gx.D c a)
 n:Fit (Gx.n c)
 F:Fit (Gx.F c a)
structure LF (c a:Res):Prop where
 t:Fit (Gx.t c)
 m:Fit (Gx.m c a)
 p:Fit (Gx.p c a)
 r:Fit (Gx.r c a)
 d:Fit (Gx.d c a)
 h:Fit (Gx.h c a)
 l:Fit (Gx.l c a)
 q:Fit (Gx.q c a)
 v:Fit (Gx.v c a)
structure GI (c a C A:Res):Prop where
 a2:In (Gx.a2 a) (Gx.a2 A)
 s1:In (Gx.s1 a) (Gx.s1 A)
 c2:In (Gx.c2 c) (Gx.c2 C)
 pm:In (Gx.pm c a) (Gx.pm C A)
 sp:In (Gx.sp c a) (Gx.sp C A)
 sq:In (Gx.sq c a) (Gx.sq C A)
 pq:In (Gx.pq c a) (Gx.pq C A)
 D:In (Gx.D c a) (Gx.D C A)
 n:In (Gx.n c) (Gx.n C)
 F:In (Gx.F c a) (Gx.F C A)
structure LI (c a C A:Res):Prop where
 t:In (Gx.t c) (Gx.t C)
 m:In (Gx.m c a) (Gx.m C A)
 p:In (Gx.p c a) (Gx.p C A)
 r:In (Gx.r c a) (Gx.r C A)
 d:In (Gx.d c a) (Gx.d C A)
 h:In (Gx.h c a) (Gx.h C A)
 l:In (Gx.l c a) (Gx.l C A)
 q:In (Gx.q c a) (Gx.q C A)
 v:In (Gx.v c a) (Gx.v C A)
section
variable {c a C A:Res}
theorem gi_of (K:GF C A) (fc:Fit C) (fa:Fit A) (hc:In c C) (ha:In a A):GI c a C A:=by
 have i_a2:In (Gx.a2 a) (Gx.a2 A):=sqr_in ha fa K.a2.e;have i_s1:In (Gx.s1 a) (Gx.s1 A):=sub_in i_a2 K.a2 (.refl u1_fit) u1_fit K.s1.e;have i_c2:In (Gx.c2 c) (Gx.c2 C):=sqr_in hc fc K.c2.e;have i_pm:In (Gx.pm c a) (Gx.pm C A):=mul_in i_s1 K.s1 i_c2 K.c2 K.pm.e;have i_sp:In (Gx.sp c a) (Gx.sp C A):=add_in i_pm K.pm (.refl u1_fit) u1_fit K.sp.e;have i_sq:In (Gx.sq c a) (Gx.sq C A):=sqr_in i_sp K.sp K.sq.e;have i_pq:In (Gx.pq c a) (Gx.pq C A):=mul_in (.refl big_fit.1) big_fit.1 i_sq K.sq K.pq.e;have i_D:In (Gx.D c a) (Gx.D C A):=div_in i_a2 K.a2 i_pq K.pq K.D.e;have i_n:In (Gx.n c) (Gx.n C):=sub_in (.refl u1_fit) u1_fit i_c2 K.c2 K.n.e;have i_F:In (Gx.F c a) (Gx.F C A):=div_in i_n K.n i_sp K.sp K.F.e;exact ⟨i_a2,i_s1,i_c2,i_pm,i_sp,i_sq,i_pq,i_D,i_n,i_F⟩
theorem li_of (K:GF C A) (L:LF C A) (fc:Fit C) (fa:Fit A) (hc:In c C) (ha:In a A):LI c a C A:=by
 have I:=gi_of K fc fa hc ha;have i_t:In (Gx.t c) (Gx.t C):=div_in I.n K.n I.c2 K.c2 L.t.e;have i_m:In (Gx.m c a) (Gx.m C A):=mul_in I.a2 K.a2 i_t L.t L.m.e;have i_p:In (Gx.p c a) (Gx.p C A):=add_in (.refl u1_fit) u1_fit i_m L.m L.p.e;have i_r:In (Gx.r c a) (Gx.r C A):=sqrt_in i_p L.p L.r.e;have i_d:In (Gx.d c a) (Gx.d C A):=sub_in i_r L.r (.refl u1_fit) u1_fit L.d.e;have i_h:In (Gx.h c a) (Gx.h C A):=mul_in (.refl uh_fit) uh_fit i_d L.d L.h.e;have i_l:In (Gx.l c a) (Gx.l C A):=nn_in i_h L.h;have i_q:In (Gx.q c a) (Gx.q C A):=add_in (.refl u1_fit) u1_fit i_l L.l L.q.e;have i_v:In (Gx.v c a) (Gx.v C A):=div_in (.refl u1_fit) u1_fit i_q L.q L.v.e;exact ⟨i_t,i_m,i_p,i_r,i_d,i_h,i_l,i_q,i_v⟩
theorem GI.fits (h:GI c a C A):GF c a:=⟨h.a2.fit,h.s1.fit,h.c2.fit,h.pm.fit,h.sp.fit,h.sq.fit,h.pq.fit,h.D.fit,h.n.fit,h.F.fit⟩
theorem LI.fits (h:LI c a C A):LF c a:=⟨h.t.fit,h.m.fit,h.p.fit,h.r.fit,h.d.fit,h.h.fit,h.l.fit,h.q.fit,h.v.fit⟩
def okG (C A:Res):Bool:=fitB (Gx.a2 A)&&fitB (Gx.s1 A)&&fitB (Gx.c2 C)&&fitB (Gx.pm C A)&&fitB (Gx.sp C A)&&fitB (Gx.sq C A)&&fitB (Gx.pq C A)&&fitB (Gx.D C A)&&fitB (Gx.n C)&&fitB (Gx.F C A)
def okL (C A:Res):Bool:=fitB (Gx.t C)&&fitB (Gx.m C A)&&fitB (Gx.p C A)&&fitB (Gx.r C A)&&fitB (Gx.d C A)&&fitB (Gx.h C A)&&fitB (Gx.l C A)&&fitB (Gx.q C A)&&fitB (Gx.v C A)
theorem gf_of (h:okG C A=true):GF C A:=by
 unfold okG at h;simp only [Bool.and_eq_true] at h;obtain⟨⟨⟨⟨⟨⟨⟨⟨⟨h_a2,h_s1⟩,h_c2⟩,h_pm⟩,h_sp⟩,h_sq⟩,h_pq⟩,h_D⟩,h_n⟩,h_F⟩:=h;exact ⟨.of h_a2,.of h_s1,.of h_c2,.of h_pm,.of h_sp,.of h_sq,.of h_pq,.of h_D,.of h_n,.of h_F⟩
theorem lf_of (h:okL C A=true):LF C A:=by
 unfold okL at h;simp only [Bool.and_eq_true] at h;obtain⟨⟨⟨⟨⟨⟨⟨⟨h_t,h_m⟩,h_p⟩,h_r⟩,h_d⟩,h_h⟩,h_l⟩,h_q⟩,h_v⟩:=h;exact ⟨.of h_t,.of h_m,.of h_p,.of h_r,.of h_d,.of h_h,.of h_l,.of h_q,.of h_v⟩
end
theorem gf_box:GF ouI aI:=gf_of (by decide +kernel)
theorem lf_box:LF cI8 aI:=lf_of (by decide +kernel)
theorem gf_box8:GF cI8 aI:=gf_of (by decide +kernel)
theorem gx_lows:0 < val (Gx.sp ouI aI).lo∧0 < val (Gx.pq ouI aI).lo∧0 < val (Gx.c2 cI8).lo∧0≤val (Gx.h cI8 aI).lo∧0 < val (Gx.q cI8 aI).lo:=by decide +kernel
theorem nil_in:In (oneR 0) ouI:=⟨Or.z_fit,by decide +kernel,by decide +kernel⟩
section
variable {c a:Res}
theorem g_in (hc:In c ouI) (ha:In a aI):GI c a ouI aI:=gi_of gf_box ou_fit aI_fit hc ha
theorem g8_in (hc:In c cI8) (ha:In a aI):GI c a cI8 aI:=gi_of gf_box8 cI8_fit aI_fit hc ha
theorem l8_in (hc:In c cI8) (ha:In a aI):LI c a cI8 aI:=li_of gf_box8 lf_box cI8_fit aI_fit hc ha
theorem one_has:HasQ (oneR u1) 1:=by have h:=rv_has u1; rw [rv_1] at h; exact h
section
variable {x y:Rat}
end
end
end
section
open Go.RowKit
theorem w_boxes:Fit (Gx.q2 cI8 cI8 aI)∧Fit (Gx.w cI8 cI8 aI):=⟨.of (by decide +kernel),.of (by decide +kernel)⟩
theorem w_ends:0 < val (Gx.q2 cI8 cI8 aI).lo∧0 < val (Gx.w cI8 cI8 aI).lo∧0 < val (Gx.v cI8 aI).lo∧val (Gx.v cI8 aI).hi=val u1∧0≤val (Gx.l cI8 aI).lo:=by decide +kernel
section
variable {i o a:Res} (hi:In i cI8) (ho:In o cI8) (ha:In a aI)
include hi ho ha
theorem q2_in:In (Gx.q2 i o a) (Gx.q2 cI8 cI8 aI):=add_in (l8_in hi ha).q lf_box.q (l8_in ho ha).l lf_box.l w_boxes.1.e
theorem w_in:In (Gx.w i o a) (Gx.w cI8 cI8 aI):=div_in (.refl u1_fit) u1_fit (q2_in hi ho ha) w_boxes.1 w_boxes.2.e
end
def lq (c a:Res):Rat:=((val (Gx.l c a).lo:Int):Rat) / ((SS:Int):Rat)
section
variable {i o a:Res} (hi:In i cI8) (ha:In a aI)
include hi ha
theorem lq_has:HasQ (Gx.l i a) (lq i a):=HasQ.fst (l8_in hi ha).l.fit
theorem q_has:HasQ (Gx.q i a) (1+lq i a):=HasQ.add u1_fit (l8_in hi ha).l.fit one_has (lq_has hi ha) (l8_in hi ha).q.fit.e
theorem v_has:HasQ (Gx.v i a) (1 / (1+lq i a)):=
 HasQ.div u1_fit (l8_in hi ha).q.fit one_has (q_has hi ha) (by have:=(l8_in hi ha).q.lo; have:=gx_lows.2.2.2.2; omega) (l8_in hi ha).v.fit.e
theorem w_has (ho:In o cI8):HasQ (Gx.w i o a) (1 / (1+lq i a+lq o a)):=
 HasQ.div u1_fit (q2_in hi ho ha).fit one_has (HasQ.add (l8_in hi ha).q.fit (l8_in ho ha).l.fit (q_has hi ha) (lq_has ho ha) (q2_in hi ho ha).fit.e) (by have:=(q2_in hi ho ha).lo; have:=w_ends.1; omega) (w_in hi ho ha).fit.e
end
def wc (i:Nat):Nat:=4571153621781053440+i*4503599627370496
def cb (i:Nat):Res:=⟨0,wc i,wc (i+1)⟩
end
section
open Go.RowKit
attribute [local go_sem] run_store_float
theorem dir_walk {u0 u1 u2 x y z:Nat} (w:World)
  (c1:Hid (∀ w,Calls Tryz.prog 19 #[(13830554455654793216:Nat),(4607182418800017408:Nat),.int .u32 u0] w fun r w'=>r = .returned (x:Value)∧w=w'))
  (c2:Hid (∀ w,Calls Tryz.prog 19 #[(13830554455654793216:Nat),(4607182418800017408:Nat),.int .u32 u1] w fun r w'=>r = .returned (y:Value)∧w=w'))
  (c3:Hid (∀ w,Calls Tryz.prog 19 #[(4580160821035794432:Nat),(4607182418800017408:Nat),.int .u32 u2] w fun r w'=>r = .returned (z:Value)∧w=w')) :
  Calls Tryz.prog 21 #[.int .u32 u0,.int .u32 u1,.int .u32 u2] w (Rt (.agg #[x,y,z]) w):=by
 have M:=Hd ((Own.nil w).made #[x,y,z] 49);have eqF:=eq_floats;go_enter Tryz.func21,Tryz.ntmps21;go_wp2_with fail;refine (c1.out _).mono ?_;rintro r w1_ ⟨rfl,rfl⟩;go_wp2_with fail;refine (c2.out _).mono ?_;rintro r w2_ ⟨rfl,rfl⟩;go_wp2_with fail;refine (c3.out _).mono ?_;rintro r w3_ ⟨rfl,rfl⟩;go_wp2;exact bodyPost_ret (v:=.agg #[.float .f64 x,.float .f64 y,.float .f64 z]) (by simp [results,Tryz.results21,go_sem]) rfl ⟨rfl,M.o.base⟩
theorem two10_walk {u0 u1 u2 u3 u4 u5 x y z a0 a1 a2 a3 a4 a5 p q s b0 b1 b2 b3 b4 b5:Nat} (w:World)
  (c1:CH 21 #[.int .u32 u0,.int .u32 u1,.int .u32 u2] (.agg #[x,y,z]))
  (c2:CH 20 #[.agg #[x,y,z]] (.tuple #[.agg #[a0,a1,a2,a3,a4,a5],true]))
  (c3:CH 21 #[.int .u32 u3,.int .u32 u4,.int .u32 u5] (.agg #[p,q,s]))
  (c4:CH 20 #[.agg #[p,q,s]] (.tuple #[.agg #[b0,b1,b2,b3,b4,b5],true]))
  (o_gtra4_0:((FloatKind.f64.format.order a4 0 == some Ordering.gt)=true))
  (o_gtrb4_0:((FloatKind.f64.format.order b4 0 == some Ordering.gt)=true)) :
  Calls Tryz.prog 6 #[.agg #[.int .u32 u0,.int .u32 u1,.int .u32 u2,.int .u32 u3,.int .u32 u4,.int .u32 u5]] w (Rt (.tuple #[.agg #[a0,a1,a2,a3,a4,a5],.agg #[b0,b1,b2,b3,b4,b5],.bool true]) w):=by
 have M:=Hd ((((Own.nil w).made #[.int .u32 u0,.int .u32 u1,.int .u32 u2,.int .u32 u3,.int .u32 u4,.int .u32 u5] 24).made #[(),(),(),(),(),()] 33).made #[(),(),(),(),(),()] 33);simp only [World.size_alloc] at M;have eqF:=eq_floats;go_enter Tryz.func6,Tryz.ntmps6;obtain⟨k1,k2,k3,k4,k5,k6⟩:=(M.o.nth 2 rfl).six;go_wp2_with fail;refine (c1.out _).mono ?_;rintro r w1_ ⟨rfl,hb⟩;replace M:=Hd (M.o.below hb);clear hb;clear k1 k2 k3 k4 k5 k6;go_wp2_with fail;refine (c2.out _).mono ?_;rintro r w2_ ⟨rfl,hb⟩;replace M:=Hd (M.o.below hb);clear hb;replace M:=Hd (M.o.made #[a0,a1,a2,a3,a4,a5] 33);obtain⟨k1,k2,k3,k4,k5,k6⟩:=(M.o.nth 3 rfl).six;go_wp2_with fail;refine (c3.out _).mono ?_;rintro r w3_ ⟨rfl,hb⟩;replace M:=Hd (M.o.below hb);clear hb;clear k1 k2 k3 k4 k5 k6;go_wp2_with fail;refine (c4.out _).mono ?_;rintro r w4_ ⟨rfl,hb⟩;replace M:=Hd (M.o.below hb);clear hb;replace M:=Hd (M.o.made #[b0,b1,b2,b3,b4,b5] 33)
 go_upto_region 3 with fail;replace M:=Hd M.o.drew;revert M;generalize (w4_.alloc (.cells #[b0,b1,b2,b3,b4,b5] 33))=W5_;intro M;refine wp_region_noPanic ?_;refine tails_region (S:=fun w'=>(Cf w' w2_.heap.size 0 a0∧Cf w' w2_.heap.size 1 a1∧Cf w' w2_.heap.size 2 a2∧Cf w' w2_.heap.size 3 a3∧Cf w' w2_.heap.size 4 a4∧Cf w' w2_.heap.size 5 a5)∧(Cf w' w4_.heap.size 0 b0∧Cf w' w4_.heap.size 1 b1∧Cf w' w4_.heap.size 2 b2∧Cf w' w4_.heap.size 3 b3∧Cf w' w4_.heap.size 4 b4∧Cf w' w4_.heap.size 5 b5)) [] (by kernel_rfl) ?_ (fun hS=>?_)
 ·exact ⟨(M.o.nth 1 rfl).six,(M.o.nth 0 rfl).six⟩
 revert hS M;generalize W5_.drew=V_;intro M hS;refine tq 0 hS ?_;refine tq 1 hS ?_
 conv=>arg 9; simp only [Act.put,go_sem]
 refine tq 2 hS ?_;refine tq 3 hS ?_
 conv=>arg 9; simp only [Act.put,go_sem]
 refine tq 4 hS ?_;refine tq 5 hS ?_
 conv=>arg 9; simp only [Act.put,go_sem]
 refine tq 6 hS ?_;refine tq 7 hS ?_
 conv=>arg 9; simp only [Act.put,go_sem]
 refine tq 8 hS ?_;refine tq 9 hS ?_
 conv=>arg 9; simp only [Act.put,go_sem]
 refine tq 10 hS ?_;refine tq 11 hS ?_
 conv=>arg 9; simp only [Act.put,go_sem]
 refine tq 12 hS ?_;refine tq 13 hS ?_
 conv=>arg 9; simp only [Act.put,go_sem]
 refine tq 14 hS ?_;refine tq 15 hS ?_
 conv=>arg 9; simp only [Act.put,go_sem]
 refine tq 16 hS ?_;refine tq 17 hS ?_
 conv=>arg 9; simp only [Act.put,go_sem]
 refine tq 18 hS ?_;refine tq 19 hS ?_
 conv=>arg 9; simp only [Act.put,go_sem]
 refine tn [] 20 fun K hK=>?_
 have kc:=(M.o.nth 3 rfl).2.1;have kf:=(M.o.nth 3 rfl).2.2;replace M:=Hd (M.o.set6 3 rfl a0 a1 a2 a3 a4 a5);dsimp only [List.set] at M;go_simp;refine hK.out _ _ (Or.inr ⟨(M.o.nth 1 rfl).six,(M.o.nth 0 rfl).six⟩) (fun hHeld=>?_);clear hK K hHeld kc kf
 refine tn [] 21 fun K hK=>?_
 have kc:=(M.o.nth 2 rfl).2.1;have kf:=(M.o.nth 2 rfl).2.2;replace M:=Hd (M.o.set6 2 rfl b0 b1 b2 b3 b4 b5);dsimp only [List.set] at M;go_simp;refine hK.out _ _ (Or.inr ⟨(M.o.nth 1 rfl).six,(M.o.nth 0 rfl).six⟩) (fun hHeld=>?_);clear hK K hHeld kc kf
 refine tn [] 22 fun K hK=>?_
 go_simp;refine hK.out _ _ (Or.inr ⟨(M.o.nth 1 rfl).six,(M.o.nth 0 rfl).six⟩) (fun hHeld=>?_);clear hK K hHeld;refine tails_done (by kernel_rfl) ?_ _;refine NoPanic.normal ?_;clear hS;revert M;generalize ((((((((((((V_.setCell ⟨(w.heap.size+1),0,none⟩ (a0:Value)).setCell ⟨(w.heap.size+1),1,none⟩ (a1:Value)).setCell ⟨(w.heap.size+1),2,none⟩ (a2:Value)).setCell ⟨(w.heap.size+1),3,none⟩ (a3:Value)).setCell ⟨(w.heap.size+1),4,none⟩ (a4:Value)).setCell ⟨(w.heap.size+1),5,none⟩ (a5:Value)).setCell ⟨(w.heap.size+1+1),0,none⟩ (b0:Value)).setCell ⟨(w.heap.size+1+1),1,none⟩ (b1:Value)).setCell ⟨(w.heap.size+1+1),2,none⟩ (b2:Value)).setCell ⟨(w.heap.size+1+1),3,none⟩ (b3:Value)).setCell ⟨(w.heap.size+1+1),4,none⟩ (b4:Value)).setCell ⟨(w.heap.size+1+1),5,none⟩ (b5:Value))=W6_;intro M;go_wp2;obtain⟨f1,f2,f3,f4,f5,f6⟩:=(M.o.nth 3 rfl).six;obtain⟨f7,f8,f9,f10,f11,f12⟩:=(M.o.nth 2 rfl).six;exact bodyPost_ret (v:=.tuple #[.agg #[.float .f64 a0,.float .f64 a1,.float .f64 a2,.float .f64 a3,.float .f64 a4,.float .f64 a5],.agg #[.float .f64 b0,.float .f64 b1,.float .f64 b2,.float .f64 b3,.float .f64 b4,.float .f64 b5],.bool true]) (by simp [results,Tryz.results6,go_sem,f1,f2,f3,f4,f5,f6,f7,f8,f9,f10,f11,f12]) rfl ⟨rfl,M.o.base⟩
end
end Go.Proofs.YtnaomilkgfkegaaGreat
