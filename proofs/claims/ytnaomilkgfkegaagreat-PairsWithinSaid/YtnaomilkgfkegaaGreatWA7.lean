/- What the claim stands on, part 8: DirF, RootW, DirG, Rnd. -/
import Derived.Test.YtnaomilkgfkegaaGreatWA5
import Derived.Test.YtnaomilkgfkegaaGreatWA6
import Derived.Test.YtnaomilkgfkegaaGreatWA1
set_option maxHeartbeats 2000000
set_option maxRecDepth 100000
namespace Go.Proofs.YtnaomilkgfkegaaGreat
section
open Go.RowKit
theorem bset4 {B:Nat} {w w':World} (h:Below B w w') (g:Nat) (hg:B≤g) (a b c d:Value):Below B w ((((w'.setCell ⟨g,0,none⟩ a).setCell ⟨g,1,none⟩ b).setCell ⟨g,2,none⟩ c).setCell ⟨g,3,none⟩ d):=
 (((h.setCell hg a).setCell hg b).setCell hg c).setCell hg d
theorem quotient_walk (s t:Bool) (m n la lb M N q r:Nat) (e f:Int) (w:World) (he0:-3000≤e) (he1:e≤3000) (hf0:-3000≤f) (hf1:f≤3000)
  (cA:Hid (∀ w,Calls Tryz.prog 178 #[.int .u64 m] w fun e w'=>e = .returned (.int .i64 la)∧w=w'))
  (cB:Hid (∀ w,Calls Tryz.prog 178 #[.int .u64 n] w fun e w'=>e = .returned (.int .i64 lb)∧w=w'))
  (cD:Hid (∀ w,Calls Tryz.prog 195 #[.int .u64 M,.int .u64 0,.int .u64 N] w fun e w'=>e = .returned (.tuple #[.int .u64 q,.int .u64 r])∧∃ k,w'=w.drewN k))
  (hla:(la:Int)≤64) (hla1:1≤(la:Int)) (hlb:(lb:Int)≤64)
  (hM:IntKind.u64.wrap ((m:Int)*2 ^ (la - 1))=M) (hN:IntKind.u64.wrap ((n:Int)*2 ^ lb)=N) :
  Calls Tryz.prog 180 #[.agg #[.bool s,.int .u64 m,.int .i64 e],.agg #[.bool t,.int .u64 n,.int .i64 f]] w fun r' w'=>r' = .returned (.agg #[.bool (!(s == t)),.int .u64 q,.int .u64 r,.int .i64 ((e - ((la:Int) - 1)) - (f - lb) - 128)])∧Below w.heap.size w w':=by
 go_enter Tryz.func180,Tryz.ntmps180;go_wp2_with fail;refine (cA.out _).mono ?_;rintro e1 w1 ⟨rfl,rfl⟩;go_wp2_with fail;refine (cB.out _).mono ?_;rintro e1 w1 ⟨rfl,rfl⟩;go_wp2_with fail
 go_quiet ((exact Calls.quiet_of (cD.out _)))
 go_wp2;exact bodyPost_ret (v:=.agg #[.bool (!(s == t)),.int .u64 q,.int .u64 r,.int .i64 ((e - ((la:Int) - 1)) - (f - lb) - 128)]) (by simp [results,Tryz.results180,go_sem]) rfl ⟨rfl,bset4 (Below.drewN (bel3 _ _ _ _) _) (w.heap.size+1+1) (by omega) _ _ _ _⟩
def quoW (m n:Nat):Nat:=m*2 ^ (lz64 m - 1)*18446744073709551616 / (n*2 ^ lz64 n)*18446744073709551616+m*2 ^ (lz64 m - 1)*18446744073709551616 % (n*2 ^ lz64 n)
def quoX (m n:Nat) (e f:Int):Int:=(e - ((lz64 m:Int) - 1)) - (f - (lz64 n:Int)) - 128
theorem lz_ge (m:Nat) (hm:m < 9007199254740992):11≤lz64 m:=by
 unfold lz64
 split
 ·omega
 ·rename_i h
  have:m.log2 < 53:=(Nat.log2_lt h).2 hm
  omega
theorem lz_le64 (m:Nat):lz64 m≤64:=by unfold lz64; split <;> omega
theorem num_lt (m:Nat) (hm:m < 9007199254740992):m*2 ^ (lz64 m - 1) < 9223372036854775808:=by
 by_cases h:m=0
 ·rw [h,Nat.zero_mul]; decide
 ·have h1:=lz_ge m hm
  have h2:=(lz_shift m h (by omega)).2
  have e:2 ^ lz64 m=2 ^ (lz64 m - 1)*2:=by rw [←Nat.pow_succ]; congr 1; omega
  rw [e,←Nat.mul_assoc] at h2;omega
theorem quo_hi (m n:Nat) (hm:m < 9007199254740992) (hn:n < 9007199254740992) (h0:n≠0) :
  quoW m n < 340282366920938463463374607431768211456∧hiW (quoW m n)=m*2 ^ (lz64 m - 1)*18446744073709551616 / (n*2 ^ lz64 n)∧loW (quoW m n)=m*2 ^ (lz64 m - 1)*18446744073709551616 % (n*2 ^ lz64 n):=by
 have h1:=num_lt m hm;obtain⟨h2,h3⟩:=lz_shift n h0 (by omega);unfold quoW;revert h1 h2 h3;generalize m*2 ^ (lz64 m - 1)=M;generalize n*2 ^ lz64 n=N;intro h1 h2 h3
 have h4:M*18446744073709551616 % N < 18446744073709551616:=Nat.lt_trans (Nat.mod_lt _ (by omega)) h3
 have h5:M*18446744073709551616 / N < 18446744073709551616:=by
  rw [Nat.div_lt_iff_lt_mul (by omega)];omega
 refine ⟨?_,hi_mk _ _ h4,lo_mk _ _ h4⟩;have:=Nat.mul_le_mul_right 18446744073709551616 (Nat.le_sub_one_of_lt h5);omega
theorem quotient_any (s t:Bool) (m n:Nat) (e f:Int) (w:World) (hm:m < 9007199254740992) (hn:n < 9007199254740992) (h0:n≠0) (he0:-3000≤e) (he1:e≤3000) (hf0:-3000≤f) (hf1:f≤3000) :
  Calls Tryz.prog 180 #[.agg #[.bool s,.int .u64 m,.int .i64 e],.agg #[.bool t,.int .u64 n,.int .i64 f]] w fun r' w'=>r' = .returned (.agg #[.bool (!(s == t)),.int .u64 (hiW (quoW m n)),.int .u64 (loW (quoW m n)),.int .i64 (quoX m n e f)])∧Below w.heap.size w w':=by
 obtain⟨_,q2,q3⟩:=quo_hi m n hm hn h0;have h1:=num_lt m hm;obtain⟨h2,h3⟩:=lz_shift n h0 (by omega);have l1:=lz_ge m hm;have l2:=lz_le64 m;have l3:=lz_le64 n
 have c:=quotient_walk s t m n (lz64 m) (lz64 n) (m*2 ^ (lz64 m - 1)) (n*2 ^ lz64 n) _ _ e f w he0 he1 hf0 hf1 (Hd (fun w=>lz_any m w (by omega))) (Hd (fun w=>lz_any n w (by omega)))
  (Hd (fun w=>div64_any (m*2 ^ (lz64 m - 1)) 0 (n*2 ^ lz64 n) w (by omega) (by decide) h3)) (by omega) (by omega) (by omega) (shl_word m _ (by omega)) (shl_word n _ h3)
 rw [Nat.add_zero,←q2,←q3] at c;exact c
theorem quoX_in (m n:Nat) (e f:Int) (he0:-1074≤e) (he1:e≤971) (hf0:-1074≤f) (hf1:f≤971):-2300≤quoX m n e f∧quoX m n e f≤2100:=by
 have:=lz_le64 m;have:=lz_le64 n
 unfold quoX; omega
end
section
open Go.RowKit
def SomeRoot (W:Nat) (w:World) (e:Ending) (w':World):Prop:=∃ r:Nat,e = .returned (.int .u64 r)∧Above W r∧r*r≤W∧Below w.heap.size w w'
theorem wholeRoot_any (x:Nat) (w:World) (h1:1152921504606846976≤x) (h2:x < 4611686018427387904) :
  Calls Tryz.prog 192 #[.agg #[.int .u64 x,.int .u64 0]] w (SomeRoot (x*18446744073709551616) w):=by
 have cD:=Hd (fun (r:Nat) (w:World) (h:x < r) (hr:r < 18446744073709551616)=>div64_some x 0 r w (by omega) h (by decide) hr);have hA:=Above.start (x*18446744073709551616) (by omega) (by omega);have HA:=Hd hA;clear h1 hA;go_enter Tryz.func192,Tryz.ntmps192;go_wp2_with fail
 go_loop [3] (fun a=>∃ r:Nat,a = .int .u64 r∧Above (x*18446744073709551616) r) (fun a=>(intOf a).toNat)
 case atStart=>exact ⟨9223372036854775808,rfl,HA.out⟩
 case round =>
  obtain⟨r,rfl,g⟩:=hrel;have hs:=g.sum;have hlo:=g.lo;have hhi:=g.hi;have G:=Hd g;clear g;go_wp2_with fail;refine (cD.out r _ (by omega) (by omega)).mono ?_;rintro e w1 ⟨rfl,rfl⟩;rw [Nat.add_zero];obtain⟨Q,hQ⟩:∃ Q,Q=x*18446744073709551616 / r:=⟨_,rfl⟩;obtain⟨P,hP⟩:∃ P,P=x*18446744073709551616 % r:=⟨_,rfl⟩;rw [←hQ,←hP];rw [←hQ] at hs;have HQ:=Hd hQ;clear hQ hP
  by_cases c:r≤(r+Q) / 2
  ·have c1:decide ((r:Int)≤((r:Int)+(Q:Int)) / 2)=true:=by simp; omega
   have c2:decide (r≤(r+Q) / 2)=true:=by simp; omega
   have HS:=Hd (G.out.stop (by rw [←HQ.out]; exact c));go_wp2;go_ret;exact ⟨r,rfl,G.out,HS.out,bel1 _ _⟩
  ·have c1:decide ((r:Int)≤((r:Int)+(Q:Int)) / 2)=false:=by simp; omega
   have c2:decide (r≤(r+Q) / 2)=false:=by simp; omega
   have HS:=Hd (G.out.next (by rw [←HQ.out]; omega));rw [←HQ.out] at HS;go_wp2_with fail;exact ⟨⟨(r+Q) / 2,by go_num,HS.out⟩,by simp [intOf]; omega⟩
def restR (W:Nat):Nat:=if Nat.sqrt W*Nat.sqrt W=W then 0 else 1
theorem root_is {x r:Nat} (h:Above (x*18446744073709551616) r) (hsq:r*r≤x*18446744073709551616) :
  r=Nat.sqrt (x*18446744073709551616)∧((hiW (r*r):Int) == (x:Int)&&(loW (r*r):Int) == 0)=decide (restR (x*18446744073709551616)=0)∧r < 18446744073709551616:=by
 have e1:=Nat.sqrt_le (x*18446744073709551616);have e2:=Nat.lt_succ_sqrt (x*18446744073709551616);have e3:=h.above;have h3:=h.hi
 have a1:r < Nat.sqrt (x*18446744073709551616)+1:=sq_lt (Nat.lt_of_le_of_lt hsq e2)
 have a2:Nat.sqrt (x*18446744073709551616) < r+1:=sq_lt (Nat.lt_of_le_of_lt e1 e3)
 have hr:r=Nat.sqrt (x*18446744073709551616):=by omega
 refine ⟨hr,?_,by omega⟩;unfold restR;rw [←hr];have hl:=hi_lo (r*r);have hlt:=lo_lt (r*r)
 by_cases c:r*r=x*18446744073709551616
 ·rw [if_pos c]
  have:hiW (r*r)=x∧loW (r*r)=0:=by omega
  simp [this.1,this.2]
 ·rw [if_neg c]
  rw [show decide (1=0)=false from rfl,Bool.and_eq_false_iff,beq_eq_false_iff_ne,beq_eq_false_iff_ne];omega
theorem root_even (s:Bool) (m la x:Nat) (e X:Int) (w:World) (he0:-3000≤e) (he1:e≤3000) (hm:((m:Int) == 0)=false) (hla:(la:Int)≤63) (hla1:4≤(la:Int))
  (cA:Hid (∀ w,Calls Tryz.prog 178 #[.int .u64 m] w fun e w'=>e = .returned (.int .i64 la)∧w=w'))
  (hp:((e - ((la:Int) - 2)).tmod 2 != 0)=false) (hx:IntKind.u64.wrap ((m:Int)*2 ^ (la - 2))=x) (h1:1152921504606846976≤x) (h2:x < 4611686018427387904)
  (hX:(e - ((la:Int) - 2) - 64).tdiv 2=X) (hX0:-3000≤X) (hX1:X≤3000) :
  Calls Tryz.prog 165 #[.agg #[.bool s,.int .u64 m,.int .i64 e]] w fun r' w'=>r' = .returned (.agg #[.bool false,.int .u64 (Nat.sqrt (x*18446744073709551616)),.int .u64 (restR (x*18446744073709551616)),.int .i64 (X - 64)])∧Below w.heap.size w w':=by
 have cW:=Hd (fun w=>wholeRoot_any x w h1 h2);have hq:=run_eq_words;clear h1 h2;go_enter Tryz.func165,Tryz.ntmps165;go_wp2_with fail;refine (cA.out _).mono ?_;rintro e1 w1 ⟨rfl,rfl⟩;go_wp2_with fail;refine (cW.out _).mono ?_;rintro e1 w1 ⟨r,rfl,hab,hsq,hb⟩;obtain⟨hr1,hr2,hr3⟩:=root_is hab hsq;have Hr1:=Hd hr1;have Hr2:=Hd hr2;have cT:=Hd (fun w=>times_any r r w hr3 hr3);obtain⟨g1,g2,g3,HB⟩:=holds3 hb;have HH:=Hd (And.intro g1 (And.intro g2 (And.intro g3 HB)));have s1:=g3.2.1 0;have s2:=g3.2.1 1;clear g1 g2 g3 HB hb hab hsq hr1 hr2 hr3;go_upto_region 9 with fail
 go_region_held3 (fun w'=>w'.cell? ⟨w.heap.size+1+1,0,none⟩=some (.int .u64 x)∧w'.cell? ⟨w.heap.size+1+1,1,none⟩=some (.int .u64 0)) (go_keep)
  (first | (refine (cT.out _).mono ?_; rintro r w2 ⟨rfl,hb0⟩; have hb:=undrew hb0; clear hb0; have t1:=(HH.out.2.2.1.below hb).2.1 0; have t2:=(HH.out.2.2.1.below hb).2.1 1; have Hb:=Hd hb; clear hb))
 obtain⟨z1,c1,f1⟩:=HH.out.1.below Hb.out;obtain⟨z2,c2,f2⟩:=HH.out.2.1.below Hb.out
 have ne1:¬ w.heap.size+1=w.heap.size:=by omega
 clear s1 s2 t1 t2
 by_cases hz:restR (x*18446744073709551616)=0
 ·have hc:(!((hiW (r*r):Int) == (x:Int)) || !((loW (r*r):Int) == 0))=false:=by
   have:=Hr2.out;rw [decide_eq_true hz] at this
   rw [←Bool.not_and,this]; rfl
  have HZ:=Hd hz; clear hz
  have HC:=Hd hc; clear hc
  go_upto_if 34 with fail
  rw [HC.out];go_wp2;refine bodyPost_ret (v:=.agg #[.bool false,.int .u64 r,.int .u64 0,.int .i64 (X - 64)]) (by simp [results,Tryz.results165,go_sem,c2]) rfl ⟨by rw [HZ.out,Hr1.out]; rfl,?_⟩;exact bset4 (HH.out.2.2.2.trans (Hb.out.mono (Nat.le_of_lt HH.out.1.1))) (w.heap.size+1) (by omega) _ _ _ _
 ·have hz1:restR (x*18446744073709551616)=1:=by unfold restR at hz ⊢; split <;> simp_all
  have hc:(!((hiW (r*r):Int) == (x:Int)) || !((loW (r*r):Int) == 0))=true:=by
   have:=Hr2.out;rw [decide_eq_false hz] at this
   rw [←Bool.not_and,this]; rfl
  have HZ:=Hd hz1; clear hz hz1
  have HC:=Hd hc; clear hc
  go_upto_if 34 with fail
  rw [HC.out];go_wp2;refine bodyPost_ret (v:=.agg #[.bool false,.int .u64 r,.int .u64 1,.int .i64 (X - 64)]) (by simp [results,Tryz.results165,go_sem,c2]) rfl ⟨by rw [HZ.out,Hr1.out]; rfl,?_⟩;exact bset4 (HH.out.2.2.2.trans (Hb.out.mono (Nat.le_of_lt HH.out.1.1))) (w.heap.size+1) (by omega) _ _ _ _
theorem root_odd (s:Bool) (m la x:Nat) (e X:Int) (w:World) (he0:-3000≤e) (he1:e≤3000) (hm:((m:Int) == 0)=false) (hla:(la:Int)≤63) (hla1:4≤(la:Int))
  (cA:Hid (∀ w,Calls Tryz.prog 178 #[.int .u64 m] w fun e w'=>e = .returned (.int .i64 la)∧w=w'))
  (hp:((e - ((la:Int) - 2)).tmod 2 != 0)=true) (hx:IntKind.u64.wrap ((m:Int)*2 ^ (la - 2 - 1))=x) (h1:1152921504606846976≤x) (h2:x < 4611686018427387904)
  (hX:(e - ((la:Int) - 2 - 1) - 64).tdiv 2=X) (hX0:-3000≤X) (hX1:X≤3000) :
  Calls Tryz.prog 165 #[.agg #[.bool s,.int .u64 m,.int .i64 e]] w fun r' w'=>r' = .returned (.agg #[.bool false,.int .u64 (Nat.sqrt (x*18446744073709551616)),.int .u64 (restR (x*18446744073709551616)),.int .i64 (X - 64)])∧Below w.heap.size w w':=by
 have cW:=Hd (fun w=>wholeRoot_any x w h1 h2);have hq:=run_eq_words;clear h1 h2;go_enter Tryz.func165,Tryz.ntmps165;go_wp2_with fail;refine (cA.out _).mono ?_;rintro e1 w1 ⟨rfl,rfl⟩;go_wp2_with fail;refine (cW.out _).mono ?_;rintro e1 w1 ⟨r,rfl,hab,hsq,hb⟩;obtain⟨hr1,hr2,hr3⟩:=root_is hab hsq;have Hr1:=Hd hr1;have Hr2:=Hd hr2;have cT:=Hd (fun w=>times_any r r w hr3 hr3);obtain⟨g1,g2,g3,HB⟩:=holds3 hb;have HH:=Hd (And.intro g1 (And.intro g2 (And.intro g3 HB)));have s1:=g3.2.1 0;have s2:=g3.2.1 1;clear g1 g2 g3 HB hb hab hsq hr1 hr2 hr3;go_upto_region 9 with fail
 go_region_held3 (fun w'=>w'.cell? ⟨w.heap.size+1+1,0,none⟩=some (.int .u64 x)∧w'.cell? ⟨w.heap.size+1+1,1,none⟩=some (.int .u64 0)) (go_keep)
  (first | (refine (cT.out _).mono ?_; rintro r w2 ⟨rfl,hb0⟩; have hb:=undrew hb0; clear hb0; have t1:=(HH.out.2.2.1.below hb).2.1 0; have t2:=(HH.out.2.2.1.below hb).2.1 1; have Hb:=Hd hb; clear hb))
 obtain⟨z1,c1,f1⟩:=HH.out.1.below Hb.out;obtain⟨z2,c2,f2⟩:=HH.out.2.1.below Hb.out
 have ne1:¬ w.heap.size+1=w.heap.size:=by omega
 clear s1 s2 t1 t2
 by_cases hz:restR (x*18446744073709551616)=0
 ·have hc:(!((hiW (r*r):Int) == (x:Int)) || !((loW (r*r):Int) == 0))=false:=by
   have:=Hr2.out;rw [decide_eq_true hz] at this
   rw [←Bool.not_and,this]; rfl
  have HZ:=Hd hz; clear hz
  have HC:=Hd hc; clear hc
  go_upto_if 34 with fail
  rw [HC.out];go_wp2;refine bodyPost_ret (v:=.agg #[.bool false,.int .u64 r,.int .u64 0,.int .i64 (X - 64)]) (by simp [results,Tryz.results165,go_sem,c2]) rfl ⟨by rw [HZ.out,Hr1.out]; rfl,?_⟩;exact bset4 (HH.out.2.2.2.trans (Hb.out.mono (Nat.le_of_lt HH.out.1.1))) (w.heap.size+1) (by omega) _ _ _ _
 ·have hz1:restR (x*18446744073709551616)=1:=by unfold restR at hz ⊢; split <;> simp_all
  have hc:(!((hiW (r*r):Int) == (x:Int)) || !((loW (r*r):Int) == 0))=true:=by
   have:=Hr2.out;rw [decide_eq_false hz] at this
   rw [←Bool.not_and,this]; rfl
  have HZ:=Hd hz1; clear hz hz1
  have HC:=Hd hc; clear hc
  go_upto_if 34 with fail
  rw [HC.out];go_wp2;refine bodyPost_ret (v:=.agg #[.bool false,.int .u64 r,.int .u64 1,.int .i64 (X - 64)]) (by simp [results,Tryz.results165,go_sem,c2]) rfl ⟨by rw [HZ.out,Hr1.out]; rfl,?_⟩;exact bset4 (HH.out.2.2.2.trans (Hb.out.mono (Nat.le_of_lt HH.out.1.1))) (w.heap.size+1) (by omega) _ _ _ _
end
section
open Go.RowKit
def rootB (m:Nat) (e:Int):Nat:=if (e - ((lz64 m:Int) - 2)) % 2=0 then lz64 m - 2 else lz64 m - 2 - 1
def rootV (m:Nat) (e:Int):Nat:=m*2 ^ rootB m e*18446744073709551616
def rootW (m:Nat) (e:Int):Nat:=if m=0 then 0 else Nat.sqrt (rootV m e)*18446744073709551616+restR (rootV m e)
def rootX (m:Nat) (e:Int):Int:=if m=0 then 0 else (e - (rootB m e:Int) - 64) / 2 - 64
theorem restR_le (W:Nat):restR W≤1:=by unfold restR; split <;> omega
theorem rootB_in (m:Nat) (e:Int) (h0:m≠0) (hm:m < 9007199254740992):1152921504606846976≤m*2 ^ rootB m e∧m*2 ^ rootB m e < 4611686018427387904∧rootB m e≤61∧(e - (rootB m e:Int)) % 2=0:=by
 have h1:=lz_ge m hm;have h2:=lz_le m h0;obtain⟨h3,h4⟩:=lz_shift m h0 (by omega);unfold rootB
 split
 ·rename_i hp
  have e1:2 ^ lz64 m=2 ^ (lz64 m - 2)*4:=by rw [show (4:Nat)=2 ^ 2 by decide,←Nat.pow_add]; congr 1; omega
  rw [e1,←Nat.mul_assoc] at h3 h4;exact ⟨by omega,by omega,by omega,by omega⟩
 ·rename_i hp
  have e1:2 ^ lz64 m=2 ^ (lz64 m - 2 - 1)*8:=by rw [show (8:Nat)=2 ^ 3 by decide,←Nat.pow_add]; congr 1; omega
  rw [e1,←Nat.mul_assoc] at h3 h4;exact ⟨by omega,by omega,by omega,by omega⟩
theorem sqrt_lt {W k:Nat} (h:W < k*k):Nat.sqrt W < k:=sq_lt (Nat.lt_of_le_of_lt (Nat.sqrt_le W) h)
theorem rootW_in (m:Nat) (e:Int) (h0:m≠0) (hm:m < 9007199254740992):rootW m e < 340282366920938463463374607431768211456∧hiW (rootW m e)=Nat.sqrt (rootV m e)∧loW (rootW m e)=restR (rootV m e):=by
 obtain⟨h1,h2,_,_⟩:=rootB_in m e h0 hm
 have hV:rootV m e < 9223372036854775808*9223372036854775808:=by unfold rootV; omega
 have hs:=sqrt_lt hV;have hr:=restR_le (rootV m e);unfold rootW;rw [if_neg h0];exact ⟨by omega,hi_mk _ _ (by omega),lo_mk _ _ (by omega)⟩
theorem root_zero (s:Bool) (e:Int) (w:World) :
  Calls Tryz.prog 165 #[.agg #[.bool s,.int .u64 0,.int .i64 e]] w fun r' w'=>r' = .returned (.agg #[.bool false,.int .u64 0,.int .u64 0,true])∧Below w.heap.size w w':=by
 go_enter Tryz.func165,Tryz.ntmps165;go_wp2;exact bodyPost_ret (v:=.agg #[.bool false,.int .u64 0,.int .u64 0,.int .i64 0]) (by simp [results,Tryz.results165,go_sem]) rfl ⟨rfl,bel2 _ _ _⟩
theorem even_tmod (z:Int) (h:z % 2=0):z.tmod 2=0:=by
 obtain⟨k,rfl⟩:∃ k,z=2*k:=⟨z / 2,by omega⟩;exact Int.mul_tmod_right 2 k
theorem odd_tmod (z:Int) (h:¬ z % 2=0):z.tmod 2≠0:=fun g=>h (Int.emod_eq_zero_of_dvd (Int.dvd_of_tmod_eq_zero g))
theorem even_tdiv (z:Int) (h:z % 2=0):z.tdiv 2=z / 2:=by
 obtain⟨k,rfl⟩:∃ k,z=2*k:=⟨z / 2,by omega⟩
 rw [Int.mul_tdiv_cancel_left k (by decide)]; omega
theorem root_any (s:Bool) (m:Nat) (e:Int) (w:World) (hm:m < 9007199254740992) (he0:-1074≤e) (he1:e≤971) :
  Calls Tryz.prog 165 #[.agg #[.bool s,.int .u64 m,.int .i64 e]] w fun r' w'=>r' = .returned (.agg #[.bool false,.int .u64 (hiW (rootW m e)),.int .u64 (loW (rootW m e)),.int .i64 (rootX m e)])∧Below w.heap.size w w':=by
 by_cases h0:m=0
 ·subst h0
  have r1:rootW 0 e=0:=if_pos rfl;have r2:rootX 0 e=0:=if_pos rfl;rw [r1,r2];exact root_zero s e w
 ·obtain⟨h1,h2,h3,h4⟩:=rootB_in m e h0 hm
  obtain⟨_,r2,r3⟩:=rootW_in m e h0 hm;have l1:=lz_ge m hm;have l2:=lz_le m h0
  have hx:rootX m e=(e - (rootB m e:Int) - 64) / 2 - 64:=by unfold rootX; rw [if_neg h0]
  rw [r2,r3,hx]
  have hm0:((m:Int) == 0)=false:=by rw [beq_eq_false_iff_ne]; omega
  have cA:=Hd (fun w=>lz_any m w (by omega));unfold rootV
  by_cases hp:(e - ((lz64 m:Int) - 2)) % 2=0
  ·have eB:rootB m e=lz64 m - 2:=by unfold rootB; rw [if_pos hp]
   rw [eB] at h1 h2 h4 ⊢
   have c:=root_even s m (lz64 m) (m*2 ^ (lz64 m - 2)) e ((e - ((lz64 m - 2:Nat):Int) - 64) / 2) w (by omega) (by omega) hm0 (by omega) (by omega) cA
    (by rw [bne_eq_false_iff_eq]; exact even_tmod _ hp) (shl_word m _ (by omega)) h1 h2 (by rw [even_tdiv _ (by omega)]; omega) (by omega) (by omega)
   exact c
  ·have eB:rootB m e=lz64 m - 2 - 1:=by unfold rootB; rw [if_neg hp]
   rw [eB] at h1 h2 h4 ⊢
   have c:=root_odd s m (lz64 m) (m*2 ^ (lz64 m - 2 - 1)) e ((e - ((lz64 m - 2 - 1:Nat):Int) - 64) / 2) w (by omega) (by omega) hm0 (by omega) (by omega) cA
    (by rw [bne_iff_ne]; exact odd_tmod _ hp) (shl_word m _ (by omega)) h1 h2 (by rw [even_tdiv _ (by omega)]; omega) (by omega) (by omega)
   exact c
theorem rootX_in (m:Nat) (e:Int) (hm:m < 9007199254740992) (he0:-1074≤e) (he1:e≤971):-3000≤rootX m e∧rootX m e≤2000:=by
 unfold rootX
 split
 ·omega
 ·rename_i h0
  obtain⟨_,_,h3,_⟩:=rootB_in m e h0 hm;omega
theorem rootW_lt (m:Nat) (e:Int) (hm:m < 9007199254740992):rootW m e < 340282366920938463463374607431768211456:=by
 by_cases h0:m=0
 ·unfold rootW; rw [if_pos h0]; decide
 ·exact (rootW_in m e h0 hm).1
theorem steps_zero (r:Nat):steps r=0↔r=0:=by
 unfold steps
 split
 ·exact Iff.rfl
 ·rename_i g
  constructor
  ·intro h
   have:=Nat.mul_pos (show 0 < 4503599627370496+r % 4503599627370496 by omega) (Nat.two_pow_pos (r / 4503599627370496 - 1));omega
  ·intro h; subst h; simp at g
theorem val_zero (b:Nat) (hb:b < 18446744073709551616) (h:rightB b=true):val b=0↔b=0:=by
 have hn:=right_ne b h;unfold val;have hs:=steps_zero (rung b)
 have hr:rung b=0↔b=0:=by unfold rung; omega
 cases sgnB b <;> simp <;> omega
theorem val_neg (a:Nat) (ha:a < 18446744073709551616) (h:rightB a=true):val a < 0↔sgnB a=true:=by
 have hn:=right_ne a h;have hs:=steps_zero (rung a)
 have hr:rung a=0→a < 9223372036854775808:=by unfold rung; omega
 unfold val
 cases hc:sgnB a
 ·simp
 ·have:9223372036854775808≤a:=by unfold sgnB at hc; exact of_decide_eq_true hc
  simp
  omega
theorem val_0:val 0=0:=by decide
theorem order_zero (b:Nat) (hb:b < 18446744073709551616) (h:rightB b=true):(FloatKind.f64.format.order b 0 == some Ordering.eq)=decide (b=0):=by
 rw [order_val b 0 hb (by decide) (right_rung b h) (by decide),val_0];have hv:=val_zero b hb h
 by_cases c:b=0
 ·rw [decide_eq_true c,Int.compare_eq_eq.2 (hv.2 c)]; rfl
 ·rw [decide_eq_false c]
  have:val b≠0:=fun e=>c (hv.1 e)
  rcases Int.lt_trichotomy (val b) 0 with g | g | g
  ·rw [Int.compare_eq_lt.2 g]; rfl
  ·exact absurd g this
  ·rw [Int.compare_eq_gt.2 g]; rfl
theorem order_neg (a:Nat) (ha:a < 18446744073709551616) (h:rightB a=true):(FloatKind.f64.format.order a 0 == some Ordering.lt)=sgnB a:=by
 rw [order_val a 0 ha (by decide) (right_rung a h) (by decide),val_0];have hv:=val_neg a ha h
 cases c:sgnB a
 ·have:¬ val a < 0:=fun g=>by rw [hv.1 g] at c; cases c
  rcases Int.lt_trichotomy (val a) 0 with g | g | g
  ·exact absurd g this
  ·rw [Int.compare_eq_eq.2 g]; rfl
  ·rw [Int.compare_eq_gt.2 g]; rfl
 ·rw [Int.compare_eq_lt.2 (hv.2 c)]; rfl
def sqrtW (a:Nat) (up:Bool):Nat:=if rightB a&&!sgnB a then roundW false (rootW (mant a) (expo a)) (rootX (mant a) (expo a)) up else 0
def sqrtE (a:Nat) (up:Bool):Int:=if rightB a then (if sgnB a then 12 else roundE false (rootW (mant a) (expo a)) (rootX (mant a) (expo a)) up) else 13
theorem sqrt_any (a:Nat) (up:Bool) (w:World) (ha:a < 18446744073709551616) :
  Calls Tryz.prog 118 #[a,.bool up] w (Rt (.tuple #[.float .f64 (sqrtW a up),.int .i64 (sqrtE a up)]) w):=by
 have cRa:=Hd (fun w=>right_any a w ha);have cSa:=Hd (fun w=>split_any a w ha)
 cases ra:rightB a
 ·have e1:sqrtW a up=0:=if_neg (by rw [ra]; exact Bool.false_ne_true)
  have e2:sqrtE a up=13:=if_neg (by rw [ra]; exact Bool.false_ne_true);have E:=Hd (And.intro e1 e2);have RA:=Hd ra;clear ha e1 e2 ra;go_enter Tryz.func118,Tryz.ntmps118;go_wp2_with fail;refine (cRa.out _).mono ?_;rintro r w1 ⟨rfl,rfl⟩;rw [RA.out];go_wp2
  go_ret2
  exact ⟨ret_pair ⟨E.out.1.symm,E.out.2.symm⟩,Below.refl _ _⟩
 ·have ho:=order_neg a ha ra
  cases sa:sgnB a
  ·rw [sa] at ho
   have xa:=expo_in a ra;have hx:=rootX_in (mant a) (expo a) (mant_lt a) xa.1 xa.2;have cS:=Hd (fun w=>root_any (sgnB a) (mant a) (expo a) w (mant_lt a) xa.1 xa.2);have cR:=Hd (fun w=>round_any false (rootW (mant a) (expo a)) (rootX (mant a) (expo a)) up w (rootW_lt _ _ (mant_lt a)) (by omega) (by omega));have e1:sqrtW a up=roundW false (rootW (mant a) (expo a)) (rootX (mant a) (expo a)) up:=if_pos (by rw [ra,sa]; rfl);have e2:sqrtE a up=roundE false (rootW (mant a) (expo a)) (rootX (mant a) (expo a)) up:=(if_pos ra).trans (if_neg (by rw [sa]; exact Bool.false_ne_true));have E:=Hd (And.intro e1 e2);have RA:=Hd ra;have SA:=Hd sa;clear ha e1 e2 ra xa hx sa;go_enter Tryz.func118,Tryz.ntmps118;go_wp2_with fail;refine (cRa.out _).mono ?_;rintro r w1 ⟨rfl,rfl⟩;rw [RA.out];go_wp2_with fail;refine (cSa.out _).mono ?_;rintro r w1 ⟨rfl,h1⟩;go_wp2_with fail;refine (cS.out _).mono ?_;rintro r w3 ⟨rfl,h3⟩
   go_wp2_with fail;refine (cR.out _).mono ?_;rintro r w4 ⟨rfl,h4⟩;have HH:=Hd ((h1.trans (h3.mono h1.size)).trans (h4.mono (Nat.le_trans h1.size h3.size)));clear h1 h3 h4;go_wp2
   go_ret2
   exact ⟨ret_pair ⟨E.out.1.symm,E.out.2.symm⟩,HH.out⟩
  ·rw [sa] at ho
   have e1:sqrtW a up=0:=if_neg (by rw [ra,sa]; exact Bool.false_ne_true);have e2:sqrtE a up=12:=(if_pos ra).trans (if_pos sa);have E:=Hd (And.intro e1 e2);have RA:=Hd ra;clear ha e1 e2 ra sa;go_enter Tryz.func118,Tryz.ntmps118;go_wp2_with fail;refine (cRa.out _).mono ?_;rintro r w1 ⟨rfl,rfl⟩;rw [RA.out];go_wp2
   go_ret2
   exact ⟨ret_pair ⟨E.out.1.symm,E.out.2.symm⟩,Below.refl _ _⟩
def divW (a b:Nat) (up:Bool):Nat:=if rightB a&&rightB b&&!decide (b=0) then roundW (!(sgnB a == sgnB b)) (quoW (mant a) (mant b)) (quoX (mant a) (mant b) (expo a) (expo b)) up else 0
def divE (a b:Nat) (up:Bool):Int:=if rightB a&&rightB b then (if b=0 then 11 else roundE (!(sgnB a == sgnB b)) (quoW (mant a) (mant b)) (quoX (mant a) (mant b) (expo a) (expo b)) up) else 13
theorem div_any (a b:Nat) (up:Bool) (w:World) (ha:a < 18446744073709551616) (hb:b < 18446744073709551616) :
  Calls Tryz.prog 151 #[a,b,.bool up] w (Rt (.tuple #[.float .f64 (divW a b up),.int .i64 (divE a b up)]) w):=by
 have cRa:=Hd (fun w=>right_any a w ha);have cRb:=Hd (fun w=>right_any b w hb);have cSa:=Hd (fun w=>split_any a w ha);have cSb:=Hd (fun w=>split_any b w hb)
 cases ra:rightB a
 ·have e1:divW a b up=0:=if_neg (by rw [ra]; exact Bool.false_ne_true)
  have e2:divE a b up=13:=if_neg (by rw [ra]; exact Bool.false_ne_true);have E:=Hd (And.intro e1 e2);have RA:=Hd ra;clear ha hb e1 e2 ra;go_enter Tryz.func151,Tryz.ntmps151;go_wp2_with fail;refine (cRa.out _).mono ?_;rintro r w1 ⟨rfl,rfl⟩;rw [RA.out];go_wp2
  go_ret2
  exact ⟨ret_pair ⟨E.out.1.symm,E.out.2.symm⟩,Below.refl _ _⟩
 ·cases rb:rightB b
  ·have e1:divW a b up=0:=if_neg (by rw [ra,rb]; exact Bool.false_ne_true)
   have e2:divE a b up=13:=if_neg (by rw [ra,rb]; exact Bool.false_ne_true);have E:=Hd (And.intro e1 e2);have RA:=Hd ra;have RB:=Hd rb;clear ha hb e1 e2 ra rb;go_enter Tryz.func151,Tryz.ntmps151;go_wp2_with fail;refine (cRa.out _).mono ?_;rintro r w1 ⟨rfl,rfl⟩;rw [RA.out];go_wp2_with fail;refine (cRb.out _).mono ?_;rintro r w1 ⟨rfl,rfl⟩;rw [RB.out];go_wp2
   go_ret2
   exact ⟨ret_pair ⟨E.out.1.symm,E.out.2.symm⟩,Below.refl _ _⟩
  ·have ho:=order_zero b hb rb
   by_cases b0:b=0
   ·rw [decide_eq_true b0] at ho
    have e1:divW a b up=0:=if_neg (by rw [ra,rb,decide_eq_true b0]; exact Bool.false_ne_true);have e2:divE a b up=11:=(if_pos (by rw [ra,rb]; rfl)).trans (if_pos b0);have E:=Hd (And.intro e1 e2);have RA:=Hd ra;have RB:=Hd rb;clear ha hb e1 e2 ra rb b0;go_enter Tryz.func151,Tryz.ntmps151;go_wp2_with fail;refine (cRa.out _).mono ?_;rintro r w1 ⟨rfl,rfl⟩;rw [RA.out];go_wp2_with fail;refine (cRb.out _).mono ?_;rintro r w1 ⟨rfl,rfl⟩;rw [RB.out];go_wp2
    go_ret2
    exact ⟨ret_pair ⟨E.out.1.symm,E.out.2.symm⟩,Below.refl _ _⟩
   ·rw [decide_eq_false b0] at ho
    have xa:=expo_in a ra;have xb:=expo_in b rb
    have hn0:mant b≠0:=by
     intro hz;have hst:=steps_parts b;rw [hz,Nat.zero_mul] at hst;have:=(steps_zero (rung b)).1 hst;have hbn:=right_ne b rb
     unfold rung at this; omega
    have ma:=mant_lt a;have mb:=mant_lt b;have hmul:=(quo_hi (mant a) (mant b) ma mb hn0).1;have hqx:=quoX_in (mant a) (mant b) (expo a) (expo b) xa.1 xa.2 xb.1 xb.2;have cS:=Hd (fun w=>quotient_any (sgnB a) (sgnB b) (mant a) (mant b) (expo a) (expo b) w ma mb hn0 (by omega) (by omega) (by omega) (by omega));have cR:=Hd (fun w=>round_any (!(sgnB a == sgnB b)) (quoW (mant a) (mant b)) (quoX (mant a) (mant b) (expo a) (expo b)) up w hmul (by omega) (by omega));clear ma mb hmul hqx hn0;have e1:divW a b up=roundW (!(sgnB a == sgnB b)) (quoW (mant a) (mant b)) (quoX (mant a) (mant b) (expo a) (expo b)) up:=if_pos (by rw [ra,rb,decide_eq_false b0]; rfl);have e2:divE a b up=roundE (!(sgnB a == sgnB b)) (quoW (mant a) (mant b)) (quoX (mant a) (mant b) (expo a) (expo b)) up:=(if_pos (by rw [ra,rb]; rfl)).trans (if_neg b0);have E:=Hd (And.intro e1 e2);have RA:=Hd ra;have RB:=Hd rb;clear ha hb e1 e2 ra rb xa xb b0
    go_enter Tryz.func151,Tryz.ntmps151;go_wp2_with fail;refine (cRa.out _).mono ?_;rintro r w1 ⟨rfl,rfl⟩;rw [RA.out];go_wp2_with fail;refine (cRb.out _).mono ?_;rintro r w1 ⟨rfl,rfl⟩;rw [RB.out];go_wp2_with fail;refine (cSa.out _).mono ?_;rintro r w1 ⟨rfl,h1⟩;go_wp2_with fail;refine (cSb.out _).mono ?_;rintro r w2 ⟨rfl,h2⟩;go_wp2_with fail;refine (cS.out _).mono ?_;rintro r w3 ⟨rfl,h3⟩;go_wp2_with fail;refine (cR.out _).mono ?_;rintro r w4 ⟨rfl,h4⟩;have HH:=Hd (((h1.trans (h2.mono h1.size)).trans (h3.mono (Nat.le_trans h1.size h2.size))).trans (h4.mono (Nat.le_trans h1.size (Nat.le_trans h2.size h3.size))));clear h1 h2 h3 h4;go_wp2
    go_ret2
    exact ⟨ret_pair ⟨E.out.1.symm,E.out.2.symm⟩,HH.out⟩
end
section
open Go.RowKit
theorem steps_succ (r:Nat):steps (r+1)=steps r+2 ^ (r / 4503599627370496 - 1):=by
 unfold steps
 by_cases h0:r / 4503599627370496=0
 ·rw [if_pos h0,h0]
  by_cases h1:(r+1) / 4503599627370496=0
  ·rw [if_pos h1]
  ·rw [if_neg h1]
   have e1:(r+1) / 4503599627370496=1:=by omega
   have e2:(r+1) % 4503599627370496=0:=by omega
   rw [e1,e2]
   show (4503599627370496+0)*2 ^ 0=r+2 ^ 0
   rw [Nat.pow_zero]; omega
 ·rw [if_neg h0,if_neg (by omega)]
  by_cases h1:(r+1) % 4503599627370496=0
  ·have e1:(r+1) / 4503599627370496 - 1=r / 4503599627370496 - 1+1:=by omega
   have e2:r % 4503599627370496=4503599627370495:=by omega
   rw [e1,h1,e2,Nat.pow_succ];omega
  ·have e1:(r+1) / 4503599627370496=r / 4503599627370496:=by omega
   have e2:(r+1) % 4503599627370496=r % 4503599627370496+1:=by omega
   rw [e1,e2,←Nat.add_assoc,Nat.add_mul (4503599627370496+r % 4503599627370496),Nat.one_mul]
theorem steps_lt_succ (r:Nat):steps r < steps (r+1):=by
 rw [steps_succ]; have:=Nat.two_pow_pos (r / 4503599627370496 - 1); omega
theorem steps_lt {r s:Nat} (h:r < s):steps r < steps s:=by
 induction s with
 | zero=>omega
 | succ s ih =>
  have:=steps_lt_succ s
  by_cases c:r=s
  ·subst c; exact this
  ·have:=ih (by omega); omega
theorem steps_le {r s:Nat} (h:r≤s):steps r≤steps s:=by
 by_cases c:r=s
 ·subst c; exact Nat.le_refl _
 ·exact Nat.le_of_lt (steps_lt (by omega))
theorem steps_le_iff (r s:Nat):steps r≤steps s↔r≤s:=
 ⟨fun h=>by
  rcases Nat.lt_or_ge s r with g | g
  ·have:=steps_lt g; omega
  ·exact g,steps_le⟩
theorem steps_km (K M:Nat) (hM:M≤9007199254740992) (h:K=0∨4503599627370496≤M):steps (K*4503599627370496+M)=M*2 ^ K:=by
 unfold steps
 by_cases h1:M < 4503599627370496
 ·have hK:K=0:=by omega
  subst hK
  have e1:(0*4503599627370496+M) / 4503599627370496=0:=by omega
  rw [if_pos e1]; simp
 ·by_cases h2:M=9007199254740992
  ·have e1:(K*4503599627370496+M) / 4503599627370496=K+2:=by omega
   have e2:(K*4503599627370496+M) % 4503599627370496=0:=by omega
   rw [if_neg (by omega),e1,e2,h2]
   show (4503599627370496+0)*2 ^ (K+1)=_
   rw [Nat.pow_succ]; omega
  ·have e1:(K*4503599627370496+M) / 4503599627370496=K+1:=by omega
   have e2:(K*4503599627370496+M) % 4503599627370496=M - 4503599627370496:=by omega
   rw [if_neg (by omega),e1,e2];rw [show 4503599627370496+(M - 4503599627370496)=M by omega,show K+1 - 1=K by omega]
def sc:Nat:=6000
theorem sc_eq:sc=6000:=rfl
def real (W:Nat) (x:Int):Nat:=W*2 ^ (x+1074+sc).toNat
structure Kept (W:Nat) (x:Int):Prop where
 floor:steps (keptK W x*4503599627370496+keptM W x)*2 ^ sc≤real W x
 ceil:real W x < steps (keptK W x*4503599627370496+keptM W x+1)*2 ^ sc
 all:keptAll W x=true↔steps (keptK W x*4503599627370496+keptM W x)*2 ^ sc=real W x
theorem div_two (V C:Nat):V / 18446744073709551616 / 2 ^ C=V / 2 ^ (64+C):=by
 rw [Nat.div_div_eq_div_mul,Nat.pow_add]
theorem all_iff (V C:Nat) (hV:V < 340282366920938463463374607431768211456) :
  (V / 18446744073709551616=V / 2 ^ (64+C)*2 ^ C % 18446744073709551616∧V % 18446744073709551616=0)↔V / 2 ^ (64+C)*2 ^ (64+C)=V:=by
 have e:V / 2 ^ (64+C)=V / 18446744073709551616 / 2 ^ C:=(div_two V C).symm;have hle:V / 18446744073709551616 / 2 ^ C*2 ^ C≤V / 18446744073709551616:=Nat.div_mul_le_self _ _
 have hlt:V / 18446744073709551616 / 2 ^ C*2 ^ C < 18446744073709551616:=by omega
 rw [e,Nat.mod_eq_of_lt hlt,Nat.pow_add,←Nat.mul_assoc,Nat.mul_right_comm]
 show _↔V / 18446744073709551616 / 2 ^ C*2 ^ C*18446744073709551616=V
 omega
theorem kept (W:Nat) (x:Int) (h0:W≠0) (hW:W < 340282366920938463463374607431768211456) (hx:-5000≤x):Kept W x:=by
 obtain⟨hV2,hV1⟩:=ahead_lt W h0 hW;have hC:=keptC_ge W x
 have hlz:lzW W≤127:=by unfold lzW; omega
 have hs:=sc_eq
 -- exponents
 have hp:(x+1074+(sc:Int)).toNat=lzW W+(x - (lzW W:Int)+1074+sc).toNat:=by omega
 have hKC:keptK W x+sc=64+keptC W x+(x - (lzW W:Int)+1074+sc).toNat:=by unfold keptK keptC; omega
 have hMdef:keptM W x=W*2 ^ lzW W / 2 ^ (64+keptC W x):=by
  unfold keptM shrN hiW; exact div_two _ _
 have hMle:=keptM_le W x (hi_lt _ hV2)
 have hnorm:keptK W x=0∨4503599627370496≤keptM W x:=by
  by_cases c:keptC W x=11
  ·right
   unfold keptM shrN hiW;rw [c];omega
  ·left
   unfold keptC at c;unfold keptK;omega
 have hreal:real W x=W*2 ^ lzW W*2 ^ (x - (lzW W:Int)+1074+sc).toNat:=by
  unfold real; rw [hp,Nat.pow_add,Nat.mul_assoc]
 have hfl:∀ M,M≤9007199254740992→(keptK W x=0∨4503599627370496≤M)→steps (keptK W x*4503599627370496+M)*2 ^ sc=M*2 ^ (64+keptC W x)*2 ^ (x - (lzW W:Int)+1074+sc).toNat:=by
  intro M h1 h2;rw [steps_km _ _ h1 h2,Nat.mul_assoc,←Nat.pow_add,hKC,Nat.pow_add,Nat.mul_assoc]
 have hpp:0 < 2 ^ (x - (lzW W:Int)+1074+sc).toNat:=Nat.two_pow_pos _
 have hcc:0 < 2 ^ (64+keptC W x):=Nat.two_pow_pos _
 have f1:=hfl (keptM W x) (by omega) hnorm;have f2:=hfl (keptM W x+1) (by omega) (by omega);rw [←Nat.add_assoc] at f2
 have b1:keptM W x*2 ^ (64+keptC W x)≤W*2 ^ lzW W:=by rw [hMdef]; exact Nat.div_mul_le_self _ _
 have b2:W*2 ^ lzW W < (keptM W x+1)*2 ^ (64+keptC W x):=by
  have:=Nat.lt_mul_div_succ (W*2 ^ lzW W) hcc;rw [Nat.mul_comm (2 ^ (64+keptC W x))] at this
  rw [hMdef]; exact this
 refine ⟨?_,?_,?_⟩
 ·rw [f1,hreal]; exact Nat.mul_le_mul_right _ b1
 ·rw [f2,hreal]; exact Nat.mul_lt_mul_of_pos_right b2 hpp
 ·rw [f1,hreal]
  have key:=all_iff (W*2 ^ lzW W) (keptC W x) hV2
  have hk:keptAll W x=true↔(W*2 ^ lzW W / 18446744073709551616=W*2 ^ lzW W / 2 ^ (64+keptC W x)*2 ^ keptC W x % 18446744073709551616∧W*2 ^ lzW W % 18446744073709551616=0):=by
   unfold keptAll;rw [decide_eq_true_eq];unfold shlN hiW loW;rw [hMdef]
  rw [hk,key,←hMdef]
  constructor
  ·intro h; rw [h]
  ·intro h; exact Nat.eq_of_mul_eq_mul_right hpp h
theorem rung_floor (W:Nat) (x:Int) (h0:W≠0) (hW:W < 340282366920938463463374607431768211456) (hx:-5000≤x) (r:Nat):steps r*2 ^ sc≤real W x↔r≤rungOf W x false:=by
 obtain⟨k1,k2,_⟩:=kept W x h0 hW hx
 have hp:0 < 2 ^ sc:=Nat.two_pow_pos _
 have e:rungOf W x false=keptK W x*4503599627370496+keptM W x:=rfl;rw [e]
 constructor
 ·intro h
  have:steps r*2 ^ sc < steps (keptK W x*4503599627370496+keptM W x+1)*2 ^ sc:=Nat.lt_of_le_of_lt h k2
  have:=Nat.lt_of_mul_lt_mul_right this
  rcases Nat.lt_or_ge (keptK W x*4503599627370496+keptM W x) r with g | g
  ·have:=steps_le (show keptK W x*4503599627370496+keptM W x+1≤r from g); omega
  ·exact g
 ·intro h
  exact Nat.le_trans (Nat.mul_le_mul_right _ (steps_le h)) k1
theorem rung_ceil (W:Nat) (x:Int) (h0:W≠0) (hW:W < 340282366920938463463374607431768211456) (hx:-5000≤x) (r:Nat):real W x≤steps r*2 ^ sc↔rungOf W x true≤r:=by
 obtain⟨k1,k2,k3⟩:=kept W x h0 hW hx
 have hp:0 < 2 ^ sc:=Nat.two_pow_pos _
 cases hA:keptAll W x
 ·have e:rungOf W x true=keptK W x*4503599627370496+keptM W x+1:=by unfold rungOf; rw [hA,Nat.add_assoc]; rfl
  rw [e]
  have hne:steps (keptK W x*4503599627370496+keptM W x)*2 ^ sc≠real W x:=fun h=>by rw [k3.2 h] at hA; cases hA
  constructor
  ·intro h
   have:steps (keptK W x*4503599627370496+keptM W x)*2 ^ sc < steps r*2 ^ sc:=Nat.lt_of_lt_of_le (Nat.lt_of_le_of_ne k1 hne) h
   have:=Nat.lt_of_mul_lt_mul_right this
   rcases Nat.lt_or_ge (keptK W x*4503599627370496+keptM W x) r with g | g
   ·exact g
   ·have:=steps_le g; omega
  ·intro h
   exact Nat.le_trans (Nat.le_of_lt k2) (Nat.mul_le_mul_right _ (steps_le h))
 ·have e:rungOf W x true=keptK W x*4503599627370496+keptM W x:=by unfold rungOf; rw [hA]; rfl
  rw [e,←k3.1 hA]
  constructor
  ·intro h
   exact (steps_le_iff _ _).1 (Nat.le_of_mul_le_mul_right h hp)
  ·intro h
   exact Nat.mul_le_mul_right _ (steps_le h)
end
end Go.Proofs.YtnaomilkgfkegaaGreat
