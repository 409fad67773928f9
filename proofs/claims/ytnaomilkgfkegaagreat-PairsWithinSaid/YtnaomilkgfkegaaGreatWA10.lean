/- What the claim stands on, part 11: QIv. -/
import Derived.Test.YtnaomilkgfkegaaGreatWA9
import Derived.Test.YtnaomilkgfkegaaGreatWA0
import Derived.Deep.RegionHeld3
set_option maxHeartbeats 4000000
set_option maxRecDepth 100000
namespace Go.Proofs.YtnaomilkgfkegaaGreat
section
open Go.RowKit
attribute [local go_sem] run_store_float
def leB (a b:Nat):Bool:=decide (val a≤val b)
def ltB (a b:Nat):Bool:=decide (val a < val b)
def ivR (a b:Nat):Bool:=rightB a&&rightB b&&leB a b
theorem order_le (a b:Nat) (ha:a < 18446744073709551616) (hb:b < 18446744073709551616) (ra:rightB a=true) (rb:rightB b=true) :
   ((FloatKind.f64.format.order a b == some Ordering.lt) || (FloatKind.f64.format.order a b == some Ordering.eq))=leB a b:=by
 rw [order_val a b ha hb (right_rung a ra) (right_rung b rb)]
 unfold leB
 rcases Int.lt_trichotomy (val a) (val b) with g | g | g
 · rw [Int.compare_eq_lt.2 g,decide_eq_true (by omega)]; rfl
 · rw [Int.compare_eq_eq.2 g,decide_eq_true (by omega)]; rfl
 · rw [Int.compare_eq_gt.2 g,decide_eq_false (by omega)]; rfl
theorem ivRight_any (a b:Nat) (w:World) (ha:a < 18446744073709551616) (hb:b < 18446744073709551616) :
   Calls Tryz.prog 46 #[.agg #[a,b]] w (Rt (.bool (ivR a b)) w):=by
 have cRa:=Lib.hid (fun w=>right_any a w ha)
 have cRb:=Lib.hid (fun w=>right_any b w hb)
 cases ra:rightB a
 · have E:Hid (ivR a b=false):=by show ivR a b=false; unfold ivR; rw [ra]; rfl
   have RA:=Lib.hid ra
   clear ra ha hb
   go_enter Tryz.func46,Tryz.ntmps46
   go_wp2_with fail
   refine (cRa.out _).mono ?_
   rintro r w1 ⟨rfl,rfl⟩
   rw [RA.out]
   go_wp2
   go_ret
   exact ⟨by rw [E.out]; rfl,bel1 _ _⟩
 · cases rb:rightB b
   · have E:Hid (ivR a b=false):=by show ivR a b=false; unfold ivR; rw [ra,rb]; rfl
     have RA:=Lib.hid ra
     have RB:=Lib.hid rb
     clear ra rb ha hb
     go_enter Tryz.func46,Tryz.ntmps46
     go_wp2_with fail
     refine (cRa.out _).mono ?_
     rintro r w1 ⟨rfl,rfl⟩
     rw [RA.out]
     go_wp2_with fail
     refine (cRb.out _).mono ?_
     rintro r w1 ⟨rfl,rfl⟩
     rw [RB.out]
     go_wp2
     go_ret
     exact ⟨by rw [E.out]; rfl,bel1 _ _⟩
   · have E:Hid (ivR a b=leB a b):=by show ivR a b=leB a b; unfold ivR; rw [ra,rb]; rfl
     have o:=Lib.hid (order_le a b ha hb ra rb)
     have RA:=Lib.hid ra
     have RB:=Lib.hid rb
     clear ra rb ha hb
     go_enter Tryz.func46,Tryz.ntmps46
     go_wp2_with fail
     refine (cRa.out _).mono ?_
     rintro r w1 ⟨rfl,rfl⟩
     rw [RA.out]
     go_wp2_with fail
     refine (cRb.out _).mono ?_
     rintro r w1 ⟨rfl,rfl⟩
     rw [RB.out]
     go_wp2
     go_ret
     exact ⟨by rw [E.out,←o.out]; rfl,bel1 _ _⟩
theorem works_any (e:Int) (pb po:Nat) (w:World) (hc:w.cell? ⟨pb,po,none⟩=some (.int .i64 e)) :
   Calls Tryz.prog 73 #[.pointer (some ⟨pb,po,none⟩)] w fun r w'=>r = .returned (.bool (e == 0))∧w=w':=by
 go_enter Tryz.func73,Tryz.ntmps73
 go_wp2
 go_ret
 exact ⟨rfl,rfl⟩
theorem err_any (e:Int) (pb po:Nat) (w:World) (hc:w.cell? ⟨pb,po,none⟩=some (.int .i64 e)) :
   Calls Tryz.prog 37 #[.pointer (some ⟨pb,po,none⟩)] w fun r w'=>r = .returned (.int .i64 e)∧w=w':=by
 go_enter Tryz.func37,Tryz.ntmps37
 go_wp2
 go_ret
 exact ⟨rfl,rfl⟩
theorem fail_any (e f:Int) (pb po:Nat) (w:World) (hc:w.cell? ⟨pb,po,none⟩=some (.int .i64 e)) (hf:w.frozen? ⟨pb,po,none⟩=false) :
   Calls Tryz.prog 68 #[.pointer (some ⟨pb,po,none⟩),.int .i64 f] w fun r w'=>r = .returned (.agg #[(),()])∧Put ⟨pb,po,none⟩ (.int .i64 f) w w':=by
 have hz:pb < w.heap.size:=cell_lt hc
 have hn:¬ pb=w.heap.size:=by omega
 have hs:(w.setCell ⟨pb,po,none⟩ (.int .i64 f)).heap.size=w.heap.size:=size_set _ _ _
 go_enter Tryz.func68,Tryz.ntmps68
 go_wp2
 exact bodyPost_ret (v:=.agg #[.float .f64 0,.float .f64 0]) (by simp [results,Tryz.results68,go_sem,hs]) rfl ⟨rfl,(bel1 _ _).mono (by rw [hs]; exact Nat.le_refl _)⟩
theorem takes_err (a b:Nat) (e:Int) (pb po:Nat) (w:World) (hc:w.cell? ⟨pb,po,none⟩=some (.int .i64 e)) (he:(e == 0)=false) :
   Calls Tryz.prog 67 #[.pointer (some ⟨pb,po,none⟩),.agg #[a,b]] w (Rt (.bool false) w):=by
 have hz:pb < w.heap.size:=cell_lt hc
 have hn:¬ pb=w.heap.size:=by omega
 have cW:=Lib.hid (fun w hc=>works_any e pb po w hc)
 have h1:(w.alloc (.cells #[a,b] 31)).cell? ⟨pb,po,none⟩=some (.int .i64 e):=by rw [World.cell?_alloc_lt _ _ _ hz]; exact hc
 go_enter Tryz.func67,Tryz.ntmps67
 go_wp2_with fail
 refine (cW.out _ h1).mono ?_
 rintro r w1 ⟨rfl,rfl⟩
 go_wp2
 go_ret
 exact ⟨rfl,bel1 _ _⟩
theorem takes_ok (a b:Nat) (pb po:Nat) (w:World) (ha:a < 18446744073709551616) (hb:b < 18446744073709551616) (hc:w.cell? ⟨pb,po,none⟩=some (.int .i64 0)) (hr:ivR a b=true) :
   Calls Tryz.prog 67 #[.pointer (some ⟨pb,po,none⟩),.agg #[a,b]] w (Rt (.bool true) w):=by
 have hz:pb < w.heap.size:=cell_lt hc
 have hn:¬ pb=w.heap.size:=by omega
 have cW:=Lib.hid (fun w hc=>works_any 0 pb po w hc)
 have cR:=Lib.hid (fun w=>ivRight_any a b w ha hb)
 have HR:=Lib.hid hr
 have h1:(w.alloc (.cells #[a,b] 31)).cell? ⟨pb,po,none⟩=some (.int .i64 0):=by rw [World.cell?_alloc_lt _ _ _ hz]; exact hc
 clear hr ha hb
 go_enter Tryz.func67,Tryz.ntmps67
 go_wp2_with fail
 refine (cW.out _ h1).mono ?_
 rintro r w1 ⟨rfl,rfl⟩
 go_wp2_with fail
 refine (cR.out _).mono ?_
 rintro r w1 ⟨rfl,hb⟩
 rw [HR.out]
 have h2:w1.cell? ⟨pb,po,none⟩=some (.int .i64 0):=by rw [hb.cell (by simp; omega)]; exact h1
 have HB:=Lib.hid ((bel1 w _).trans (hb.mono (by simp)))
 clear hb h1 hn hz hc
 go_wp2_with fail
 refine (cW.out _ h2).mono ?_
 rintro r w1 ⟨rfl,rfl⟩
 go_wp2
 go_ret
 exact ⟨rfl,HB.out⟩
theorem takes_bad (a b:Nat) (pb po:Nat) (w:World) (ha:a < 18446744073709551616) (hb:b < 18446744073709551616) (hc:w.cell? ⟨pb,po,none⟩=some (.int .i64 0)) (hf:w.frozen? ⟨pb,po,none⟩=false) (hr:ivR a b=false) :
   Calls Tryz.prog 67 #[.pointer (some ⟨pb,po,none⟩),.agg #[a,b]] w fun r w'=>r = .returned (.bool false)∧Put ⟨pb,po,none⟩ (.int .i64 20) w w':=by
 have hz:pb < w.heap.size:=cell_lt hc
 have cW:=Lib.hid (fun w hc=>works_any 0 pb po w hc)
 have cV:=Lib.hid (fun w hc=>works_any 20 pb po w hc)
 have cR:=Lib.hid (fun w=>ivRight_any a b w ha hb)
 have HR:=Lib.hid hr
 have h1:(w.alloc (.cells #[a,b] 31)).cell? ⟨pb,po,none⟩=some (.int .i64 0):=by rw [World.cell?_alloc_lt _ _ _ hz]; exact hc
 have h0:(w.alloc (.cells #[a,b] 31)).frozen? ⟨pb,po,none⟩=false:=by rw [(bel1 w _).frozen hz]; exact hf
 clear hr ha hb
 go_enter Tryz.func67,Tryz.ntmps67
 go_wp2_with fail
 refine (cW.out _ h1).mono ?_
 rintro r w1 ⟨rfl,rfl⟩
 go_wp2_with fail
 refine (cR.out _).mono ?_
 rintro r w1 ⟨rfl,hb⟩
 rw [HR.out]
 have h2:w1.cell? ⟨pb,po,none⟩=some (.int .i64 0):=by rw [hb.cell (by simp; omega)]; exact h1
 have h3:w1.frozen? ⟨pb,po,none⟩=false:=by rw [hb.frozen (by simp; omega)]; exact h0
 have h4:(w1.setCell ⟨pb,po,none⟩ (.int .i64 20)).cell? ⟨pb,po,none⟩=some (.int .i64 20):=World.cell?_setCell_same _ _ _ h2
 have HB:=Lib.hid ((bel1 w _).trans (hb.mono (by simp)))
 clear hb h1 h0 hz hc hf
 go_wp2_with fail
 refine (cV.out _ h4).mono ?_
 rintro r w2 ⟨rfl,rfl⟩
 go_wp2
 go_ret
 exact ⟨rfl,both HB.out _ _⟩
end
section
open Go.RowKit
attribute [local go_sem] run_store_float
structure Res where
 e:Int
 lo:Nat
 hi:Nat
def tightR (lo:Nat) (e:Int) (hi:Nat) (f:Int):Res:=if e=0 then (if f=0 then ⟨0,lo,hi⟩ else ⟨f,0,0⟩) else ⟨e,0,0⟩
def Res.val (r:Res):Value:=.agg #[r.lo,r.hi]
theorem end_sum (a b:Nat) (up:Bool) (w:World) (ha:a < 18446744073709551616) (hb:b < 18446744073709551616) :
   Calls Tryz.prog 149 #[.agg #[a,b],.bool up] w (Rt (.tuple #[.float .f64 (addW a b up),.int .i64 (addE a b up)]) w):=by
 have c:=Lib.hid (fun w=>add_any a b up w ha hb)
 go_enter Tryz.func149,Tryz.ntmps149
 go_wp2_with fail
 refine (c.out _).mono ?_
 rintro r w1 ⟨rfl,h1⟩
 have H1:=Lib.hid ((bel1 w _).trans (h1.mono (by simp))); clear h1
 go_wp2
 go_ret2
 exact ⟨rfl,H1.out⟩
theorem end_difference (a b:Nat) (up:Bool) (w:World) (ha:a < 18446744073709551616) (hb:b < 18446744073709551616) :
   Calls Tryz.prog 77 #[.agg #[a,b],.bool up] w (Rt (.tuple #[.float .f64 (subW a b up),.int .i64 (subE a b up)]) w):=by
 have c:=Lib.hid (fun w=>sub_any a b up w ha hb)
 go_enter Tryz.func77,Tryz.ntmps77
 go_wp2_with fail
 refine (c.out _).mono ?_
 rintro r w1 ⟨rfl,h1⟩
 have H1:=Lib.hid ((bel1 w _).trans (h1.mono (by simp))); clear h1
 go_wp2
 go_ret2
 exact ⟨rfl,H1.out⟩
theorem end_product (a b:Nat) (up:Bool) (w:World) (ha:a < 18446744073709551616) (hb:b < 18446744073709551616) :
   Calls Tryz.prog 76 #[.agg #[a,b],.bool up] w (Rt (.tuple #[.float .f64 (mulW a b up),.int .i64 (mulE a b up)]) w):=by
 have c:=Lib.hid (fun w=>mul_any a b up w ha hb)
 go_enter Tryz.func76,Tryz.ntmps76
 go_wp2_with fail
 refine (c.out _).mono ?_
 rintro r w1 ⟨rfl,h1⟩
 have H1:=Lib.hid ((bel1 w _).trans (h1.mono (by simp))); clear h1
 go_wp2
 go_ret2
 exact ⟨rfl,H1.out⟩
theorem end_quotient (a b:Nat) (up:Bool) (w:World) (ha:a < 18446744073709551616) (hb:b < 18446744073709551616) :
   Calls Tryz.prog 105 #[.agg #[a,b],.bool up] w (Rt (.tuple #[.float .f64 (divW a b up),.int .i64 (divE a b up)]) w):=by
 have c:=Lib.hid (fun w=>div_any a b up w ha hb)
 go_enter Tryz.func105,Tryz.ntmps105
 go_wp2_with fail
 refine (c.out _).mono ?_
 rintro r w1 ⟨rfl,h1⟩
 have H1:=Lib.hid ((bel1 w _).trans (h1.mono (by simp))); clear h1
 go_wp2
 go_ret2
 exact ⟨rfl,H1.out⟩
theorem rootOf_any (x:Nat) (w:World) :
   Calls Tryz.prog 70 #[x] w fun r w'=>r = .returned (.func (.func 117) #[] #[.pointer (some ⟨w.heap.size,0,none⟩)])∧w'=w.alloc (.cells #[x] 25):=by
 go_enter Tryz.func70,Tryz.ntmps70
 go_wp2
 go_ret
 exact ⟨rfl,rfl⟩
theorem rootOf1_any (x:Nat) (up:Bool) (q:Nat) (w:World) (hx:x < 18446744073709551616) (hq:w.cell? ⟨q,0,none⟩=some (.float .f64 x)) :
   Calls Tryz.prog 117 #[.bool up,.pointer (some ⟨q,0,none⟩)] w (Rt (.tuple #[.float .f64 (sqrtW x up),.int .i64 (sqrtE x up)]) w):=by
 have c:=Lib.hid (fun w=>sqrt_any x up w hx)
 go_enter Tryz.func117,Tryz.ntmps117
 go_wp2_with fail
 refine (c.out _).mono ?_
 rintro r w1 ⟨rfl,h1⟩
 have H1:=Lib.hid h1; clear h1
 go_wp2
 go_ret2
 exact ⟨rfl,H1.out⟩
theorem tight_sum (lo hi:Nat) (e f:Int) (pb po:Nat) (w:World) (A B:Value)
   (cL:Hid (∀ w,Calls Tryz.prog 149 #[A,.bool false] w (Rt (.tuple #[lo,.int .i64 e]) w)))
   (cH:Hid (∀ w,Calls Tryz.prog 149 #[B,.bool true] w (Rt (.tuple #[hi,.int .i64 f]) w))) (hc:w.cell? ⟨pb,po,none⟩=some (.int .i64 0)) (hf:w.frozen? ⟨pb,po,none⟩=false) :
   Calls Tryz.prog 69 #[.pointer (some ⟨pb,po,none⟩),.func (.func 149) #[A] #[],.func (.func 149) #[B] #[]] w fun r w'=>r = .returned (tightR lo e hi f).val∧Put ⟨pb,po,none⟩ (.int .i64 (tightR lo e hi f).e) w w':=by
 have HC:=Lib.hid hc
 have HF:=Lib.hid hf
 have hz:pb < w.heap.size:=cell_lt hc
 have hn:¬ pb=w.heap.size:=by omega
 clear hc hf
 go_enter Tryz.func69,Tryz.ntmps69
 go_wp2_with fail
 refine (cL.out _).mono ?_
 rintro r w1 ⟨rfl,hb⟩
 have hb1:=Lib.hid hb
 obtain⟨z1,c1,f1,b1⟩:=after1 hb
 have B1:=Lib.hid b1
 clear b1 hb
 by_cases he:e=0
 · have he':(e != 0)=false:=by simpa using he
   have HE:=Lib.hid he
   clear he
   go_wp2_with fail
   refine (cH.out _).mono ?_
   rintro r w2 ⟨rfl,hb⟩
   obtain⟨z2,c2,f2⟩:=keepB hb z1 c1 f1
   have B2:=Lib.hid (B1.out.trans (hb.mono B1.out.size))
   clear z1 c1 f1 B1 hb hb1
   by_cases hf:f=0
   · have hf':(f != 0)=false:=by simpa using hf
     have R:=Lib.hid (show tightR lo e hi f=⟨0,lo,hi⟩ by unfold tightR; rw [if_pos HE.out,if_pos hf])
     clear hf
     go_wp2
     rw [R.out]
     refine bodyPost_ret (v:=.agg #[.float .f64 lo,.float .f64 hi]) (by simp [results,Tryz.results69,go_sem,c2]) rfl ⟨rfl,?_⟩
     exact Put.of_below HC.out ((B2.out.setCell (by show _≤w.heap.size; omega) _).setCell (by show _≤w.heap.size; omega) _)
   · have hf':(f != 0)=true:=by simpa using hf
     have R:=Lib.hid (show tightR lo e hi f=⟨f,0,0⟩ by unfold tightR; rw [if_pos HE.out,if_neg hf])
     clear hf
     go_wp2_with fail
     refine (fail_any 0 f pb po _ (by rw [B2.out.cell hz]; exact HC.out) (by rw [B2.out.frozen hz]; exact HF.out)).mono ?_
     rintro r w3 ⟨rfl,hp⟩
     have P2:=Lib.hid (Put.after B2.out hp)
     obtain⟨z3,c3,f3⟩:=hp.block z2 (by simp; omega) c2 f2
     clear z2 c2 f2 hp
     go_wp2
     rw [R.out]
     refine bodyPost_ret (v:=.agg #[.float .f64 0,.float .f64 0]) (by simp [results,Tryz.results69,go_sem,c3]) rfl ⟨rfl,?_⟩
     exact ((Below.setCell P2.out (by show _≤w.heap.size; omega) _).setCell (by show _≤w.heap.size; omega) _)
 · have he':(e != 0)=true:=by simpa using he
   have R:=Lib.hid (show tightR lo e hi f=⟨e,0,0⟩ by unfold tightR; rw [if_neg he])
   clear he hb1
   go_wp2_with fail
   refine (fail_any 0 e pb po _ (by rw [B1.out.cell hz]; exact HC.out) (by rw [B1.out.frozen hz]; exact HF.out)).mono ?_
   rintro r w3 ⟨rfl,hp⟩
   have P2:=Lib.hid (Put.after B1.out hp)
   obtain⟨z3,c3,f3⟩:=hp.block z1 (by simp; omega) c1 f1
   clear z1 c1 f1 hp
   go_wp2
   rw [R.out]
   refine bodyPost_ret (v:=.agg #[.float .f64 0,.float .f64 0]) (by simp [results,Tryz.results69,go_sem,c3]) rfl ⟨rfl,?_⟩
   exact ((Below.setCell P2.out (by show _≤w.heap.size; omega) _).setCell (by show _≤w.heap.size; omega) _)
theorem tight_difference (lo hi:Nat) (e f:Int) (pb po:Nat) (w:World) (A B:Value)
   (cL:Hid (∀ w,Calls Tryz.prog 77 #[A,.bool false] w (Rt (.tuple #[lo,.int .i64 e]) w)))
   (cH:Hid (∀ w,Calls Tryz.prog 77 #[B,.bool true] w (Rt (.tuple #[hi,.int .i64 f]) w))) (hc:w.cell? ⟨pb,po,none⟩=some (.int .i64 0)) (hf:w.frozen? ⟨pb,po,none⟩=false) :
   Calls Tryz.prog 69 #[.pointer (some ⟨pb,po,none⟩),.func (.func 77) #[A] #[],.func (.func 77) #[B] #[]] w fun r w'=>r = .returned (tightR lo e hi f).val∧Put ⟨pb,po,none⟩ (.int .i64 (tightR lo e hi f).e) w w':=by
 have HC:=Lib.hid hc
 have HF:=Lib.hid hf
 have hz:pb < w.heap.size:=cell_lt hc
 have hn:¬ pb=w.heap.size:=by omega
 clear hc hf
 go_enter Tryz.func69,Tryz.ntmps69
 go_wp2_with fail
 refine (cL.out _).mono ?_
 rintro r w1 ⟨rfl,hb⟩
 have hb1:=Lib.hid hb
 obtain⟨z1,c1,f1,b1⟩:=after1 hb
 have B1:=Lib.hid b1
 clear b1 hb
 by_cases he:e=0
 · have he':(e != 0)=false:=by simpa using he
   have HE:=Lib.hid he
   clear he
   go_wp2_with fail
   refine (cH.out _).mono ?_
   rintro r w2 ⟨rfl,hb⟩
   obtain⟨z2,c2,f2⟩:=keepB hb z1 c1 f1
   have B2:=Lib.hid (B1.out.trans (hb.mono B1.out.size))
   clear z1 c1 f1 B1 hb hb1
   by_cases hf:f=0
   · have hf':(f != 0)=false:=by simpa using hf
     have R:=Lib.hid (show tightR lo e hi f=⟨0,lo,hi⟩ by unfold tightR; rw [if_pos HE.out,if_pos hf])
     clear hf
     go_wp2
     rw [R.out]
     refine bodyPost_ret (v:=.agg #[.float .f64 lo,.float .f64 hi]) (by simp [results,Tryz.results69,go_sem,c2]) rfl ⟨rfl,?_⟩
     exact Put.of_below HC.out ((B2.out.setCell (by show _≤w.heap.size; omega) _).setCell (by show _≤w.heap.size; omega) _)
   · have hf':(f != 0)=true:=by simpa using hf
     have R:=Lib.hid (show tightR lo e hi f=⟨f,0,0⟩ by unfold tightR; rw [if_pos HE.out,if_neg hf])
     clear hf
     go_wp2_with fail
     refine (fail_any 0 f pb po _ (by rw [B2.out.cell hz]; exact HC.out) (by rw [B2.out.frozen hz]; exact HF.out)).mono ?_
     rintro r w3 ⟨rfl,hp⟩
     have P2:=Lib.hid (Put.after B2.out hp)
     obtain⟨z3,c3,f3⟩:=hp.block z2 (by simp; omega) c2 f2
     clear z2 c2 f2 hp
     go_wp2
     rw [R.out]
     refine bodyPost_ret (v:=.agg #[.float .f64 0,.float .f64 0]) (by simp [results,Tryz.results69,go_sem,c3]) rfl ⟨rfl,?_⟩
     exact ((Below.setCell P2.out (by show _≤w.heap.size; omega) _).setCell (by show _≤w.heap.size; omega) _)
 · have he':(e != 0)=true:=by simpa using he
   have R:=Lib.hid (show tightR lo e hi f=⟨e,0,0⟩ by unfold tightR; rw [if_neg he])
   clear he hb1
   go_wp2_with fail
   refine (fail_any 0 e pb po _ (by rw [B1.out.cell hz]; exact HC.out) (by rw [B1.out.frozen hz]; exact HF.out)).mono ?_
   rintro r w3 ⟨rfl,hp⟩
   have P2:=Lib.hid (Put.after B1.out hp)
   obtain⟨z3,c3,f3⟩:=hp.block z1 (by simp; omega) c1 f1
   clear z1 c1 f1 hp
   go_wp2
   rw [R.out]
   refine bodyPost_ret (v:=.agg #[.float .f64 0,.float .f64 0]) (by simp [results,Tryz.results69,go_sem,c3]) rfl ⟨rfl,?_⟩
   exact ((Below.setCell P2.out (by show _≤w.heap.size; omega) _).setCell (by show _≤w.heap.size; omega) _)
theorem tight_product (lo hi:Nat) (e f:Int) (pb po:Nat) (w:World) (A B:Value)
   (cL:Hid (∀ w,Calls Tryz.prog 76 #[A,.bool false] w (Rt (.tuple #[lo,.int .i64 e]) w)))
   (cH:Hid (∀ w,Calls Tryz.prog 76 #[B,.bool true] w (Rt (.tuple #[hi,.int .i64 f]) w))) (hc:w.cell? ⟨pb,po,none⟩=some (.int .i64 0)) (hf:w.frozen? ⟨pb,po,none⟩=false) :
   Calls Tryz.prog 69 #[.pointer (some ⟨pb,po,none⟩),.func (.func 76) #[A] #[],.func (.func 76) #[B] #[]] w fun r w'=>r = .returned (tightR lo e hi f).val∧Put ⟨pb,po,none⟩ (.int .i64 (tightR lo e hi f).e) w w':=by
 have HC:=Lib.hid hc
 have HF:=Lib.hid hf
 have hz:pb < w.heap.size:=cell_lt hc
 have hn:¬ pb=w.heap.size:=by omega
 clear hc hf
 go_enter Tryz.func69,Tryz.ntmps69
 go_wp2_with fail
 refine (cL.out _).mono ?_
 rintro r w1 ⟨rfl,hb⟩
 have hb1:=Lib.hid hb
 obtain⟨z1,c1,f1,b1⟩:=after1 hb
 have B1:=Lib.hid b1
 clear b1 hb
 by_cases he:e=0
 · have he':(e != 0)=false:=by simpa using he
   have HE:=Lib.hid he
   clear he
   go_wp2_with fail
   refine (cH.out _).mono ?_
   rintro r w2 ⟨rfl,hb⟩
   obtain⟨z2,c2,f2⟩:=keepB hb z1 c1 f1
   have B2:=Lib.hid (B1.out.trans (hb.mono B1.out.size))
   clear z1 c1 f1 B1 hb hb1
   by_cases hf:f=0
   · have hf':(f != 0)=false:=by simpa using hf
     have R:=Lib.hid (show tightR lo e hi f=⟨0,lo,hi⟩ by unfold tightR; rw [if_pos HE.out,if_pos hf])
     clear hf
     go_wp2
     rw [R.out]
     refine bodyPost_ret (v:=.agg #[.float .f64 lo,.float .f64 hi]) (by simp [results,Tryz.results69,go_sem,c2]) rfl ⟨rfl,?_⟩
     exact Put.of_below HC.out ((B2.out.setCell (by show _≤w.heap.size; omega) _).setCell (by show _≤w.heap.size; omega) _)
   · have hf':(f != 0)=true:=by simpa using hf
     have R:=Lib.hid (show tightR lo e hi f=⟨f,0,0⟩ by unfold tightR; rw [if_pos HE.out,if_neg hf])
     clear hf
     go_wp2_with fail
     refine (fail_any 0 f pb po _ (by rw [B2.out.cell hz]; exact HC.out) (by rw [B2.out.frozen hz]; exact HF.out)).mono ?_
     rintro r w3 ⟨rfl,hp⟩
     have P2:=Lib.hid (Put.after B2.out hp)
     obtain⟨z3,c3,f3⟩:=hp.block z2 (by simp; omega) c2 f2
     clear z2 c2 f2 hp
     go_wp2
     rw [R.out]
     refine bodyPost_ret (v:=.agg #[.float .f64 0,.float .f64 0]) (by simp [results,Tryz.results69,go_sem,c3]) rfl ⟨rfl,?_⟩
     exact ((Below.setCell P2.out (by show _≤w.heap.size; omega) _).setCell (by show _≤w.heap.size; omega) _)
 · have he':(e != 0)=true:=by simpa using he
   have R:=Lib.hid (show tightR lo e hi f=⟨e,0,0⟩ by unfold tightR; rw [if_neg he])
   clear he hb1
   go_wp2_with fail
   refine (fail_any 0 e pb po _ (by rw [B1.out.cell hz]; exact HC.out) (by rw [B1.out.frozen hz]; exact HF.out)).mono ?_
   rintro r w3 ⟨rfl,hp⟩
   have P2:=Lib.hid (Put.after B1.out hp)
   obtain⟨z3,c3,f3⟩:=hp.block z1 (by simp; omega) c1 f1
   clear z1 c1 f1 hp
   go_wp2
   rw [R.out]
   refine bodyPost_ret (v:=.agg #[.float .f64 0,.float .f64 0]) (by simp [results,Tryz.results69,go_sem,c3]) rfl ⟨rfl,?_⟩
   exact ((Below.setCell P2.out (by show _≤w.heap.size; omega) _).setCell (by show _≤w.heap.size; omega) _)
theorem tight_quotient (lo hi:Nat) (e f:Int) (pb po:Nat) (w:World) (A B:Value)
   (cL:Hid (∀ w,Calls Tryz.prog 105 #[A,.bool false] w (Rt (.tuple #[lo,.int .i64 e]) w)))
   (cH:Hid (∀ w,Calls Tryz.prog 105 #[B,.bool true] w (Rt (.tuple #[hi,.int .i64 f]) w))) (hc:w.cell? ⟨pb,po,none⟩=some (.int .i64 0)) (hf:w.frozen? ⟨pb,po,none⟩=false) :
   Calls Tryz.prog 69 #[.pointer (some ⟨pb,po,none⟩),.func (.func 105) #[A] #[],.func (.func 105) #[B] #[]] w fun r w'=>r = .returned (tightR lo e hi f).val∧Put ⟨pb,po,none⟩ (.int .i64 (tightR lo e hi f).e) w w':=by
 have HC:=Lib.hid hc
 have HF:=Lib.hid hf
 have hz:pb < w.heap.size:=cell_lt hc
 have hn:¬ pb=w.heap.size:=by omega
 clear hc hf
 go_enter Tryz.func69,Tryz.ntmps69
 go_wp2_with fail
 refine (cL.out _).mono ?_
 rintro r w1 ⟨rfl,hb⟩
 have hb1:=Lib.hid hb
 obtain⟨z1,c1,f1,b1⟩:=after1 hb
 have B1:=Lib.hid b1
 clear b1 hb
 by_cases he:e=0
 · have he':(e != 0)=false:=by simpa using he
   have HE:=Lib.hid he
   clear he
   go_wp2_with fail
   refine (cH.out _).mono ?_
   rintro r w2 ⟨rfl,hb⟩
   obtain⟨z2,c2,f2⟩:=keepB hb z1 c1 f1
   have B2:=Lib.hid (B1.out.trans (hb.mono B1.out.size))
   clear z1 c1 f1 B1 hb hb1
   by_cases hf:f=0
   · have hf':(f != 0)=false:=by simpa using hf
     have R:=Lib.hid (show tightR lo e hi f=⟨0,lo,hi⟩ by unfold tightR; rw [if_pos HE.out,if_pos hf])
     clear hf
     go_wp2
     rw [R.out]
     refine bodyPost_ret (v:=.agg #[.float .f64 lo,.float .f64 hi]) (by simp [results,Tryz.results69,go_sem,c2]) rfl ⟨rfl,?_⟩
     exact Put.of_below HC.out ((B2.out.setCell (by show _≤w.heap.size; omega) _).setCell (by show _≤w.heap.size; omega) _)
   · have hf':(f != 0)=true:=by simpa using hf
     have R:=Lib.hid (show tightR lo e hi f=⟨f,0,0⟩ by unfold tightR; rw [if_pos HE.out,if_neg hf])
     clear hf
     go_wp2_with fail
     refine (fail_any 0 f pb po _ (by rw [B2.out.cell hz]; exact HC.out) (by rw [B2.out.frozen hz]; exact HF.out)).mono ?_
     rintro r w3 ⟨rfl,hp⟩
     have P2:=Lib.hid (Put.after B2.out hp)
     obtain⟨z3,c3,f3⟩:=hp.block z2 (by simp; omega) c2 f2
     clear z2 c2 f2 hp
     go_wp2
     rw [R.out]
     refine bodyPost_ret (v:=.agg #[.float .f64 0,.float .f64 0]) (by simp [results,Tryz.results69,go_sem,c3]) rfl ⟨rfl,?_⟩
     exact ((Below.setCell P2.out (by show _≤w.heap.size; omega) _).setCell (by show _≤w.heap.size; omega) _)
 · have he':(e != 0)=true:=by simpa using he
   have R:=Lib.hid (show tightR lo e hi f=⟨e,0,0⟩ by unfold tightR; rw [if_neg he])
   clear he hb1
   go_wp2_with fail
   refine (fail_any 0 e pb po _ (by rw [B1.out.cell hz]; exact HC.out) (by rw [B1.out.frozen hz]; exact HF.out)).mono ?_
   rintro r w3 ⟨rfl,hp⟩
   have P2:=Lib.hid (Put.after B1.out hp)
   obtain⟨z3,c3,f3⟩:=hp.block z1 (by simp; omega) c1 f1
   clear z1 c1 f1 hp
   go_wp2
   rw [R.out]
   refine bodyPost_ret (v:=.agg #[.float .f64 0,.float .f64 0]) (by simp [results,Tryz.results69,go_sem,c3]) rfl ⟨rfl,?_⟩
   exact ((Below.setCell P2.out (by show _≤w.heap.size; omega) _).setCell (by show _≤w.heap.size; omega) _)
theorem tight_root (lo hi:Nat) (e f:Int) (pb po:Nat) (w:World) (ql qh xl xh:Nat)
   (cL:Hid (∀ w,w.cell? ⟨ql,0,none⟩=some (.float .f64 xl)→Calls Tryz.prog 117 #[.bool false,.pointer (some ⟨ql,0,none⟩)] w (Rt (.tuple #[lo,.int .i64 e]) w)))
   (cH:Hid (∀ w,w.cell? ⟨qh,0,none⟩=some (.float .f64 xh)→Calls Tryz.prog 117 #[.bool true,.pointer (some ⟨qh,0,none⟩)] w (Rt (.tuple #[hi,.int .i64 f]) w)))
   (hl:w.cell? ⟨ql,0,none⟩=some (.float .f64 xl)) (hh:w.cell? ⟨qh,0,none⟩=some (.float .f64 xh)) (hc:w.cell? ⟨pb,po,none⟩=some (.int .i64 0)) (hf:w.frozen? ⟨pb,po,none⟩=false) :
   Calls Tryz.prog 69 #[.pointer (some ⟨pb,po,none⟩),.func (.func 117) #[] #[.pointer (some ⟨ql,0,none⟩)],.func (.func 117) #[] #[.pointer (some ⟨qh,0,none⟩)]] w fun r w'=>r = .returned (tightR lo e hi f).val∧Put ⟨pb,po,none⟩ (.int .i64 (tightR lo e hi f).e) w w':=by
 have HC:=Lib.hid hc
 have HF:=Lib.hid hf
 have hz:pb < w.heap.size:=cell_lt hc
 have hn:¬ pb=w.heap.size:=by omega
 clear hc hf
 have HL:=Lib.hid hl; have HH:=Lib.hid hh; clear hl hh
 go_enter Tryz.func69,Tryz.ntmps69
 go_wp2_with fail
 refine (cL.out _ (by rw [World.cell?_alloc_lt _ _ _ (cell_lt HL.out)]; exact HL.out)).mono ?_
 rintro r w1 ⟨rfl,hb⟩
 have hb1:=Lib.hid hb
 obtain⟨z1,c1,f1,b1⟩:=after1 hb
 have B1:=Lib.hid b1
 clear b1 hb
 by_cases he:e=0
 · have he':(e != 0)=false:=by simpa using he
   have HE:=Lib.hid he
   clear he
   go_wp2_with fail
   refine (cH.out _ (by rw [hb1.out.cell (by have:qh < w.heap.size:=cell_lt HH.out; simp; omega),World.cell?_alloc_lt _ _ _ (cell_lt HH.out)]; exact HH.out)).mono ?_
   rintro r w2 ⟨rfl,hb⟩
   obtain⟨z2,c2,f2⟩:=keepB hb z1 c1 f1
   have B2:=Lib.hid (B1.out.trans (hb.mono B1.out.size))
   clear z1 c1 f1 B1 hb hb1
   by_cases hf:f=0
   · have hf':(f != 0)=false:=by simpa using hf
     have R:=Lib.hid (show tightR lo e hi f=⟨0,lo,hi⟩ by unfold tightR; rw [if_pos HE.out,if_pos hf])
     clear hf
     go_wp2
     rw [R.out]
     refine bodyPost_ret (v:=.agg #[.float .f64 lo,.float .f64 hi]) (by simp [results,Tryz.results69,go_sem,c2]) rfl ⟨rfl,?_⟩
     exact Put.of_below HC.out ((B2.out.setCell (by show _≤w.heap.size; omega) _).setCell (by show _≤w.heap.size; omega) _)
   · have hf':(f != 0)=true:=by simpa using hf
     have R:=Lib.hid (show tightR lo e hi f=⟨f,0,0⟩ by unfold tightR; rw [if_pos HE.out,if_neg hf])
     clear hf
     go_wp2_with fail
     refine (fail_any 0 f pb po _ (by rw [B2.out.cell hz]; exact HC.out) (by rw [B2.out.frozen hz]; exact HF.out)).mono ?_
     rintro r w3 ⟨rfl,hp⟩
     have P2:=Lib.hid (Put.after B2.out hp)
     obtain⟨z3,c3,f3⟩:=hp.block z2 (by simp; omega) c2 f2
     clear z2 c2 f2 hp
     go_wp2
     rw [R.out]
     refine bodyPost_ret (v:=.agg #[.float .f64 0,.float .f64 0]) (by simp [results,Tryz.results69,go_sem,c3]) rfl ⟨rfl,?_⟩
     exact ((Below.setCell P2.out (by show _≤w.heap.size; omega) _).setCell (by show _≤w.heap.size; omega) _)
 · have he':(e != 0)=true:=by simpa using he
   have R:=Lib.hid (show tightR lo e hi f=⟨e,0,0⟩ by unfold tightR; rw [if_neg he])
   clear he hb1
   go_wp2_with fail
   refine (fail_any 0 e pb po _ (by rw [B1.out.cell hz]; exact HC.out) (by rw [B1.out.frozen hz]; exact HF.out)).mono ?_
   rintro r w3 ⟨rfl,hp⟩
   have P2:=Lib.hid (Put.after B1.out hp)
   obtain⟨z3,c3,f3⟩:=hp.block z1 (by simp; omega) c1 f1
   clear z1 c1 f1 hp
   go_wp2
   rw [R.out]
   refine bodyPost_ret (v:=.agg #[.float .f64 0,.float .f64 0]) (by simp [results,Tryz.results69,go_sem,c3]) rfl ⟨rfl,?_⟩
   exact ((Below.setCell P2.out (by show _≤w.heap.size; omega) _).setCell (by show _≤w.heap.size; omega) _)
end
section
open Go.RowKit
attribute [local go_sem] run_store_float
def minW (a b:Nat):Nat:=if val b < val a then b else a
def maxW (a b:Nat):Nat:=if val a < val b then b else a
theorem run_less (a b:Nat) (ha:a < 18446744073709551616) (hb:b < 18446744073709551616) (ra:rightB a=true) (rb:rightB b=true) (ts:Array TypeId) (t:TypeId) (w:World) :
   (Builtin.min_ ts t #[a,b]).run Tryz.prog w = .ok (.float .f64 (minW a b)) w∧(Builtin.max_ ts t #[a,b]).run Tryz.prog w = .ok (.float .f64 (maxW a b)) w:=by
 have o:=order_val a b ha hb (right_rung a ra) (right_rung b rb)
 unfold minW maxW
 rcases Int.lt_trichotomy (val a) (val b) with g | g | g
 · rw [if_neg (by omega),if_pos g]
   rw [Int.compare_eq_lt.2 g] at o
   exact run_min a b ts t w (Or.inl o)
 · rw [if_neg (by omega),if_neg (by omega)]
   have e:=val_inj ha hb ra rb g
   rw [Int.compare_eq_eq.2 g] at o
   have:=run_min a b ts t w (Or.inr ⟨e,o⟩)
   rw [←e] at this ⊢
   exact this
 · rw [if_pos g,if_neg (by omega)]
   rw [Int.compare_eq_gt.2 g] at o
   exact run_max a b ts t w o
theorem min_facts (a b:Nat) (ha:a < 18446744073709551616) (hb:b < 18446744073709551616) (ra:rightB a=true) (rb:rightB b=true):minW a b < 18446744073709551616∧rightB (minW a b)=true∧val (minW a b)=min (val a) (val b):=by
 unfold minW
 by_cases h:val b < val a
 · rw [if_pos h]; exact ⟨hb,rb,by omega⟩
 · rw [if_neg h]; exact ⟨ha,ra,by omega⟩
theorem max_facts (a b:Nat) (ha:a < 18446744073709551616) (hb:b < 18446744073709551616) (ra:rightB a=true) (rb:rightB b=true):maxW a b < 18446744073709551616∧rightB (maxW a b)=true∧val (maxW a b)=max (val a) (val b):=by
 unfold maxW
 by_cases h:val a < val b
 · rw [if_pos h]; exact ⟨hb,rb,by omega⟩
 · rw [if_neg h]; exact ⟨ha,ra,by omega⟩
theorem val_nil:val 0=0:=by decide
theorem zero_sub (a:Nat) (ha:a < 18446744073709551616) (ra:rightB a=true):floatBits .sub .f64 0 a=some (turnW a):=by
 by_cases h0:a=0
 · subst h0; decide +kernel
 · obtain⟨r,h1,h2⟩:=sub_beside 0 a (by decide) ha right_0 ra
   obtain⟨t1,t2,t3⟩:=turn_facts a ha ra
   have hv:val 0 - val a=val (turnW a):=by rw [t3,val_nil]; omega
   have hd:=sub_down 0 a right_0 ra
   have hu:=sub_up 0 a right_0 ra
   rw [hv] at hd hu h2
   have d0:subE 0 a false=0:=by
     rcases hd.err with g | g
     · exact g
     · rcases hd with ⟨g',_⟩ | ⟨_,_,g'⟩
       · omega
       · have:=g' _ t1 t2; omega
   have u0:subE 0 a true=0:=by
     rcases hu.err with g | g
     · exact g
     · rcases hu with ⟨g',_⟩ | ⟨_,_,g'⟩
       · omega
       · have:=g' _ t1 t2; omega
   rw [d0] at hd
   rw [u0] at hu
   obtain⟨x1,x2,x3,x4⟩:=hd.ok
   obtain⟨y1,y2,y3,y4⟩:=hu.ok
   have ex:val (subW 0 a false)=val (turnW a):=by have:=x4 _ t1 t2 (by omega); omega
   have ey:val (subW 0 a true)=val (turnW a):=by have:=y4 _ t1 t2 (by omega); omega
   obtain⟨r1,r2,r3⟩:=h2 _ _ hd hu
   have er:val r=val (turnW a):=by omega
   have hne:val r≠0:=by
     rw [er,t3]
     intro h
     have:val a=val 0:=by rw [val_nil]; omega
     exact h0 (val_inj ha (by decide) ra right_0 this)
   have rr:rightB r=true:=by
     have hr:r≠9223372036854775808:=by
       intro h; apply hne; rw [h]; decide
     unfold rung at r2
     unfold rightB
     rw [decide_eq_true r2,decide_eq_false hr]; rfl
   rw [h1,val_inj r1 t1 rr t2 er]
theorem run_zero_sub (a:Nat) (ha:a < 18446744073709551616) (ra:rightB a=true) (t:TypeId) (w:World):(binOp .sub t (.float .f64 0) (.float .f64 a)).run Tryz.prog w = .ok (.float .f64 (turnW a)) w:=
 run_float_arith (P:=Tryz.prog) (w:=w) .sub t .f64 0 a _ (zero_sub a ha ra)
def crossB (a b:Nat):Bool:=ltB a 0&&ltB 0 b
theorem lt_zero (a:Nat) (ha:a < 18446744073709551616) (ra:rightB a=true):(FloatKind.f64.format.order a 0 == some Ordering.lt)=ltB a 0:=order_lt a 0 ha (by decide) ra right_0
theorem gt_zero (a:Nat) (ha:a < 18446744073709551616) (ra:rightB a=true):(FloatKind.f64.format.order a 0 == some Ordering.gt)=ltB 0 a:=order_gt a 0 ha (by decide) ra right_0
theorem ge_zero (a:Nat) (ha:a < 18446744073709551616) (ra:rightB a=true):((FloatKind.f64.format.order a 0 == some Ordering.gt) || (FloatKind.f64.format.order a 0 == some Ordering.eq))=leB 0 a:=by
 rw [order_gt a 0 ha (by decide) ra right_0,order_eq a 0 ha (by decide) ra right_0]
 unfold leB
 by_cases h:val 0≤val a
 · rw [decide_eq_true h]
   by_cases g:val 0 < val a
   · rw [decide_eq_true g]; rfl
   · rw [decide_eq_true (show val a=val 0 by omega),Bool.or_true]
 · rw [decide_eq_false h,decide_eq_false (by omega),decide_eq_false (by omega)]; rfl
theorem le_zero (a:Nat) (ha:a < 18446744073709551616) (ra:rightB a=true):((FloatKind.f64.format.order a 0 == some Ordering.lt) || (FloatKind.f64.format.order a 0 == some Ordering.eq))=leB a 0:=order_le a 0 ha (by decide) ra right_0
theorem crosses_any (a b:Nat) (w:World) (ha:a < 18446744073709551616) (hb:b < 18446744073709551616) (ra:rightB a=true) (rb:rightB b=true) :
   Calls Tryz.prog 71 #[.agg #[a,b]] w (Rt (.bool (crossB a b)) w):=by
 have o1:=lt_zero a ha ra
 have o2:=gt_zero b hb rb
 cases h:ltB a 0
 · rw [h] at o1
   have R:=Lib.hid (show crossB a b=false by unfold crossB; rw [h]; rfl)
   clear o2 h
   go_enter Tryz.func71,Tryz.ntmps71
   go_wp2
   go_ret
   exact ⟨by rw [R.out]; rfl,bel1 _ _⟩
 · rw [h] at o1
   have R:=Lib.hid (show crossB a b=ltB 0 b by unfold crossB; rw [h]; rfl)
   clear h
   go_enter Tryz.func71,Tryz.ntmps71
   go_wp2
   go_ret
   exact ⟨by rw [R.out]; rfl,bel1 _ _⟩
def lowOf (al ah bl:Nat):Nat:=if ltB bl 0 then ah else al
def highOf (al ah bl:Nat):Nat:=if ltB bl 0 then al else ah
theorem inOrder_any (al ah bl bh:Nat) (w:World) (hb:bl < 18446744073709551616) (rb:rightB bl=true) :
   Calls Tryz.prog 74 #[.agg #[al,ah],.agg #[bl,bh]] w (Rt (.tuple #[.float .f64 (lowOf al ah bl),.float .f64 (highOf al ah bl)]) w):=by
 have o1:=lt_zero bl hb rb
 cases h:ltB bl 0
 · rw [h] at o1
   have R:=Lib.hid (show lowOf al ah bl=al∧highOf al ah bl=ah by unfold lowOf highOf; simp [h])
   clear h
   go_enter Tryz.func74,Tryz.ntmps74
   go_wp2
   go_quiet (fail)
   go_wp2
   go_ret2
   exact ⟨by rw [R.out.1,R.out.2]; rfl,Below.drewN (bel2 _ _ _) _⟩
 · rw [h] at o1
   have R:=Lib.hid (show lowOf al ah bl=ah∧highOf al ah bl=al by unfold lowOf highOf; simp [h])
   clear h
   go_enter Tryz.func74,Tryz.ntmps74
   go_wp2
   go_quiet (fail)
   go_wp2
   go_ret2
   exact ⟨by rw [R.out.1,R.out.2]; rfl,Below.drewN (bel2 _ _ _) _⟩
def endW (lo hi:Nat) (up:Bool):Nat:=if up then hi else lo
theorem endOf_any (a b:Nat) (up:Bool) (w:World) :
   Calls Tryz.prog 75 #[.agg #[a,b],.bool up] w (Rt (.float .f64 (endW a b up)) w):=by
 cases up
 · go_enter Tryz.func75,Tryz.ntmps75
   go_wp2
   go_ret
   exact ⟨rfl,bel1 _ _⟩
 · go_enter Tryz.func75,Tryz.ntmps75
   go_wp2
   go_ret
   exact ⟨rfl,bel1 _ _⟩
theorem single_any (a:Nat) (w:World) :
   Calls Tryz.prog 72 #[a] w (Rt (.agg #[a,a]) w):=by
 go_enter Tryz.func72,Tryz.ntmps72
 go_wp2
 exact bodyPost_ret (v:=.agg #[.float .f64 a,.float .f64 a]) (by simp [results,Tryz.results72,go_sem]) rfl ⟨rfl,bel1 _ _⟩
theorem ivNeg_any (a b:Nat) (w:World) (ha:a < 18446744073709551616) (hb:b < 18446744073709551616) (ra:rightB a=true) (rb:rightB b=true) :
   Calls Tryz.prog 164 #[.agg #[a,b]] w (Rt (.agg #[.float .f64 (turnW b),.float .f64 (turnW a)]) w):=by
 have h1:=run_zero_sub a ha ra
 have h2:=run_zero_sub b hb rb
 clear ra rb ha hb
 go_enter Tryz.func164,Tryz.ntmps164
 go_wp2
 exact bodyPost_ret (v:=.agg #[.float .f64 (turnW b),.float .f64 (turnW a)]) (by simp [results,Tryz.results164,go_sem]) rfl ⟨rfl,bel2 _ _ _⟩
def absLo (a b:Nat):Nat:=if leB 0 a then a else if leB b 0 then turnW b else 0
def absHi (a b:Nat):Nat:=if leB 0 a then b else if leB b 0 then turnW a else maxW b (turnW a)
theorem magnitude_any (a b:Nat) (w:World) (ha:a < 18446744073709551616) (hb:b < 18446744073709551616) (ra:rightB a=true) (rb:rightB b=true) :
   Calls Tryz.prog 150 #[.agg #[a,b]] w (Rt (.agg #[.float .f64 (absLo a b),.float .f64 (absHi a b)]) w):=by
 have o1:=ge_zero a ha ra
 have o2:=le_zero b hb rb
 obtain⟨t1,t2,_⟩:=turn_facts a ha ra
 have hm:=fun ts t w=>(run_less b (turnW a) hb t1 rb t2 ts t w).2
 have cN:=Lib.hid (fun w=>ivNeg_any a b w ha hb ra rb)
 clear ra rb ha hb t1 t2
 cases h:leB 0 a
 · rw [h] at o1
   cases g:leB b 0
   · rw [g] at o2
     have R:=Lib.hid (show absLo a b=0∧absHi a b=maxW b (turnW a) by unfold absLo absHi; simp [h,g])
     clear h g
     go_enter Tryz.func150,Tryz.ntmps150
     go_wp2_with fail
     refine (cN.out _).mono ?_
     rintro r w1 ⟨rfl,hb⟩
     obtain⟨z1,z2,c1,f1,c2,f2,b1⟩:=after2 hb
     have B1:=Lib.hid b1
     clear hb b1
     go_wp2
     rw [R.out.1,R.out.2]
     refine bodyPost_ret (v:=.agg #[.float .f64 0,.float .f64 (maxW b (turnW a))]) (by simp [results,Tryz.results150,go_sem,c2,z1]) rfl ⟨rfl,?_⟩
     exact (((B1.out.setCell (by show _≤w.heap.size+1; omega) _).setCell (by show _≤w.heap.size+1; omega) _).alloc (by rw [size_set,size_set]; omega) _)
   · rw [g] at o2
     have R:=Lib.hid (show absLo a b=turnW b∧absHi a b=turnW a by unfold absLo absHi; simp [h,g])
     clear h g
     go_enter Tryz.func150,Tryz.ntmps150
     go_wp2_with fail
     refine (cN.out _).mono ?_
     rintro r w1 ⟨rfl,hb⟩
     obtain⟨z1,z2,c1,f1,c2,f2,b1⟩:=after2 hb
     have B1:=Lib.hid b1
     clear hb b1
     go_wp2
     rw [R.out.1,R.out.2]
     refine bodyPost_ret (v:=.agg #[.float .f64 (turnW b),.float .f64 (turnW a)]) (by simp [results,Tryz.results150,go_sem,c2,z1]) rfl ⟨rfl,?_⟩
     exact (((B1.out.setCell (by show _≤w.heap.size+1; omega) _).setCell (by show _≤w.heap.size+1; omega) _).alloc (by rw [size_set,size_set]; omega) _)
 · rw [h] at o1
   have R:=Lib.hid (show absLo a b=a∧absHi a b=b by unfold absLo absHi; simp [h])
   clear h
   go_enter Tryz.func150,Tryz.ntmps150
   go_wp2
   rw [R.out.1,R.out.2]
   exact bodyPost_ret (v:=.agg #[.float .f64 a,.float .f64 b]) (by simp [results,Tryz.results150,go_sem]) rfl ⟨rfl,bel2 _ _ _⟩
def ofI (a:Nat):Res:=if rightB a then ⟨0,a,a⟩ else ⟨13,0,0⟩
theorem of_any (a:Nat) (w:World) (ha:a < 18446744073709551616) :
   Calls Tryz.prog 78 #[a] w (Rt (.tuple #[(ofI a).val,.int .i64 (ofI a).e]) w):=by
 have cR:=Lib.hid (fun w=>right_any a w ha)
 cases h:rightB a
 · have R:=Lib.hid h
   have E:=Lib.hid (show ofI a=⟨13,0,0⟩ by unfold ofI; rw [h]; rfl)
   clear h
   go_enter Tryz.func78,Tryz.ntmps78
   go_wp2_with fail
   refine (cR.out _).mono ?_
   rintro r w1 ⟨rfl,rfl⟩
   rw [R.out]
   go_wp2
   rw [E.out]
   exact bodyPost_ret (v:=.tuple #[.agg #[.float .f64 0,.float .f64 0],.int .i64 13]) (by simp [results,Tryz.results78,go_sem]) rfl ⟨rfl,bel1 _ _⟩
 · have R:=Lib.hid h
   have E:=Lib.hid (show ofI a=⟨0,a,a⟩ by unfold ofI; rw [h]; rfl)
   clear h
   go_enter Tryz.func78,Tryz.ntmps78
   go_wp2_with fail
   refine (cR.out _).mono ?_
   rintro r w1 ⟨rfl,rfl⟩
   rw [R.out]
   go_wp2
   rw [E.out]
   exact bodyPost_ret (v:=.tuple #[.agg #[.float .f64 a,.float .f64 a],.int .i64 0]) (by simp [results,Tryz.results78,go_sem]) rfl ⟨rfl,bel1 _ _⟩
end
section
open Go.RowKit
attribute [local go_sem] run_store_float
def stepI (e:Int) (ok:Bool) (r:Res):Res:=if e=0 then (if ok then r else ⟨20,0,0⟩) else ⟨e,0,0⟩
theorem stepI_err (e:Int) (ok:Bool) (r:Res) (h:(e == 0)=false):stepI e ok r=⟨e,0,0⟩:=by unfold stepI; rw [if_neg (by simpa using h)]
theorem stepI_bad (r:Res):stepI 0 false r=⟨20,0,0⟩:=by unfold stepI; rw [if_pos rfl,if_neg (by simp)]
theorem stepI_ok (r:Res):stepI 0 true r=r:=by unfold stepI; rw [if_pos rfl,if_pos rfl]
def addI (al ah bl bh:Nat):Res:=tightR (addW al bl false) (addE al bl false) (addW ah bh true) (addE ah bh true)
def subI (al ah bl bh:Nat):Res:=tightR (subW al bh false) (subE al bh false) (subW ah bl true) (subE ah bl true)
def minI (al ah bl bh:Nat):Res:=⟨0,minW al bl,minW ah bh⟩
def maxI (al ah bl bh:Nat):Res:=⟨0,maxW al bl,maxW ah bh⟩
def negI (al ah:Nat):Res:=⟨0,turnW ah,turnW al⟩
def absI (al ah:Nat):Res:=⟨0,absLo al ah,absHi al ah⟩
def sqrI (al ah:Nat):Res:=tightR (mulW (absLo al ah) (absLo al ah) false) (mulE (absLo al ah) (absLo al ah) false) (mulW (absHi al ah) (absHi al ah) true) (mulE (absHi al ah) (absHi al ah) true)
theorem ivR_parts {a b:Nat} (h:ivR a b=true):rightB a=true∧rightB b=true∧val a≤val b:=by
 unfold ivR leB at h
 simp at h
 exact ⟨h.1.1,h.1.2,h.2⟩
def Told (R:Res) (pb po:Nat) (w:World) (r:Ending) (w':World):Prop:=r = .returned (.agg #[R.lo,R.hi])∧Put ⟨pb,po,none⟩ (.int .i64 R.e) w w'
theorem cAdd_err (e:Int) (al ah bl bh pb po:Nat) (w:World) (hc:w.cell? ⟨pb,po,none⟩=some (.int .i64 e)) (he:(e == 0)=false) :
   Calls Tryz.prog 103 #[.pointer (some ⟨pb,po,none⟩),.agg #[al,ah],.agg #[bl,bh]] w (Told ⟨e,0,0⟩ pb po w):=by
 have hz:pb < w.heap.size:=cell_lt hc
 have h1:(((w.alloc (.cells #[al,ah] 31)).alloc (.cells #[bl,bh] 31)).alloc (.cells #[(),()] 31)).cell? ⟨pb,po,none⟩=some (.int .i64 e):=((bel3 w _ _ _).cell hz).trans hc
 have cT:=Lib.hid (fun w hc=>takes_err al ah e pb po w hc he)
 have H1:=Lib.hid h1
 have HC:=Lib.hid hc
 clear h1 hc he hz
 go_enter Tryz.func103,Tryz.ntmps103
 go_wp2_with fail
 refine (cT.out _ H1.out).mono ?_
 rintro r w1 ⟨rfl,hb⟩
 obtain⟨z1,z2,z3,c1,f1,c2,f2,c3,f3,B⟩:=after3 hb
 have HB:=Lib.hid B
 clear hb B c1 f1 c2 f2
 go_wp2
 exact bodyPost_ret (v:=.agg #[.float .f64 0,.float .f64 0]) (by simp [results,Tryz.results103,go_sem,c3]) rfl ⟨rfl,Put.of_below HC.out ((HB.out.setCell (by show _≤w.heap.size+1+1; omega) _).setCell (by show _≤w.heap.size+1+1; omega) _)⟩
theorem cAdd_bad1 (al ah bl bh pb po:Nat) (w:World) (la:al < 18446744073709551616) (ha:ah < 18446744073709551616) (hc:w.cell? ⟨pb,po,none⟩=some (.int .i64 0)) (hf:w.frozen? ⟨pb,po,none⟩=false) (hr:ivR al ah=false) :
   Calls Tryz.prog 103 #[.pointer (some ⟨pb,po,none⟩),.agg #[al,ah],.agg #[bl,bh]] w (Told ⟨20,0,0⟩ pb po w):=by
 have hz:pb < w.heap.size:=cell_lt hc
 have h1:(((w.alloc (.cells #[al,ah] 31)).alloc (.cells #[bl,bh] 31)).alloc (.cells #[(),()] 31)).cell? ⟨pb,po,none⟩=some (.int .i64 0):=((bel3 w _ _ _).cell hz).trans hc
 have h2:(((w.alloc (.cells #[al,ah] 31)).alloc (.cells #[bl,bh] 31)).alloc (.cells #[(),()] 31)).frozen? ⟨pb,po,none⟩=false:=((bel3 w _ _ _).frozen hz).trans hf
 have cT:=Lib.hid (fun w hc hf=>takes_bad al ah pb po w la ha hc hf hr)
 have H1:=Lib.hid h1
 have H2:=Lib.hid h2
 clear h1 h2 hc hf hr la ha
 go_enter Tryz.func103,Tryz.ntmps103
 go_wp2_with fail
 refine (cT.out _ H1.out H2.out).mono ?_
 rintro r w1 ⟨rfl,hp⟩
 have HP:=Lib.hid (Put.after (bel3 w _ _ _) hp)
 obtain⟨z3,c3,f3⟩:=hp.block (k:=w.heap.size+1+1) (by simp) (by show ¬ pb=w.heap.size+1+1; omega) (fun i=>World.cell?_alloc_at _ _ _ _ (by simp)) (fun i=>World.frozen?_alloc_at _ _ _ _ (by simp))
 clear hp
 go_wp2
 exact bodyPost_ret (v:=.agg #[.float .f64 0,.float .f64 0]) (by simp [results,Tryz.results103,go_sem,c3]) rfl ⟨rfl,(Below.setCell HP.out (by show _≤w.heap.size+1+1; omega) _).setCell (by show _≤w.heap.size+1+1; omega) _⟩
theorem cAdd_bad2 (al ah bl bh pb po:Nat) (w:World) (la:al < 18446744073709551616) (ha:ah < 18446744073709551616) (lb:bl < 18446744073709551616) (hb:bh < 18446744073709551616) (hc:w.cell? ⟨pb,po,none⟩=some (.int .i64 0)) (hf:w.frozen? ⟨pb,po,none⟩=false) (hr:ivR al ah=true) (hs:ivR bl bh=false) :
   Calls Tryz.prog 103 #[.pointer (some ⟨pb,po,none⟩),.agg #[al,ah],.agg #[bl,bh]] w (Told ⟨20,0,0⟩ pb po w):=by
 have hz:pb < w.heap.size:=cell_lt hc
 have h1:(((w.alloc (.cells #[al,ah] 31)).alloc (.cells #[bl,bh] 31)).alloc (.cells #[(),()] 31)).cell? ⟨pb,po,none⟩=some (.int .i64 0):=((bel3 w _ _ _).cell hz).trans hc
 have h2:(((w.alloc (.cells #[al,ah] 31)).alloc (.cells #[bl,bh] 31)).alloc (.cells #[(),()] 31)).frozen? ⟨pb,po,none⟩=false:=((bel3 w _ _ _).frozen hz).trans hf
 have cT:=Lib.hid (fun w hc=>takes_ok al ah pb po w la ha hc hr)
 have cU:=Lib.hid (fun w hc hf=>takes_bad bl bh pb po w lb hb hc hf hs)
 have H1:=Lib.hid h1
 have H2:=Lib.hid h2
 clear h1 h2 hc hf hr hs la ha lb hb
 go_enter Tryz.func103,Tryz.ntmps103
 go_wp2_with fail
 refine (cT.out _ H1.out).mono ?_
 rintro r w1 ⟨rfl,hb⟩
 have H3:=Lib.hid ((hb.cell (p:=⟨pb,po,none⟩) (by show pb < _; simp; omega)).trans H1.out)
 have H4:=Lib.hid ((hb.frozen (p:=⟨pb,po,none⟩) (by show pb < _; simp; omega)).trans H2.out)
 obtain⟨z1,z2,z3,c1,f1,c2,f2,c3,f3,B⟩:=after3 hb
 have HB:=Lib.hid B
 clear hb B H1 H2 c1 f1
 go_wp2_with fail
 refine (cU.out _ H3.out H4.out).mono ?_
 rintro r w2 ⟨rfl,hp⟩
 have HP:=Lib.hid (Put.after HB.out hp)
 obtain⟨y3,d3,g3⟩:=hp.block (k:=w.heap.size+1+1) z1 (by show ¬ pb=w.heap.size+1+1; omega) c3 f3
 clear hp c2 f2 c3 f3 H3 H4 HB
 go_wp2
 exact bodyPost_ret (v:=.agg #[.float .f64 0,.float .f64 0]) (by simp [results,Tryz.results103,go_sem,d3]) rfl ⟨rfl,(Below.setCell HP.out (by show _≤w.heap.size+1+1; omega) _).setCell (by show _≤w.heap.size+1+1; omega) _⟩
theorem cAdd_ok (al ah bl bh pb po:Nat) (w:World) (la:al < 18446744073709551616) (ha:ah < 18446744073709551616) (lb:bl < 18446744073709551616) (hb:bh < 18446744073709551616) (hc:w.cell? ⟨pb,po,none⟩=some (.int .i64 0)) (hf:w.frozen? ⟨pb,po,none⟩=false) (hr:ivR al ah=true) (hs:ivR bl bh=true) :
   Calls Tryz.prog 103 #[.pointer (some ⟨pb,po,none⟩),.agg #[al,ah],.agg #[bl,bh]] w (Told (addI al ah bl bh) pb po w):=by
 have hz:pb < w.heap.size:=cell_lt hc
 have h1:(((w.alloc (.cells #[al,ah] 31)).alloc (.cells #[bl,bh] 31)).alloc (.cells #[(),()] 31)).cell? ⟨pb,po,none⟩=some (.int .i64 0):=((bel3 w _ _ _).cell hz).trans hc
 have h2:(((w.alloc (.cells #[al,ah] 31)).alloc (.cells #[bl,bh] 31)).alloc (.cells #[(),()] 31)).frozen? ⟨pb,po,none⟩=false:=((bel3 w _ _ _).frozen hz).trans hf
 have cT:=Lib.hid (fun w hc=>takes_ok al ah pb po w la ha hc hr)
 have cU:=Lib.hid (fun w hc=>takes_ok bl bh pb po w lb hb hc hs)
 obtain⟨R,hR⟩:∃ R,R=addI al ah bl bh:=⟨_,rfl⟩
 have cX:Hid (∀ w,w.cell? ⟨pb,po,none⟩=some (.int .i64 0)→w.frozen? ⟨pb,po,none⟩=false→Calls Tryz.prog 69 #[.pointer (some ⟨pb,po,none⟩),.func (.func 149) #[.agg #[al,bl]] #[],.func (.func 149) #[.agg #[ah,bh]] #[]] w (Told R pb po w)):=by
   intro w hc hf
   rw [hR]
   exact tight_sum _ _ _ _ pb po w _ _ (Lib.hid (fun w=>end_sum al bl false w (by omega) (by omega))) (Lib.hid (fun w=>end_sum ah bh true w (by omega) (by omega))) hc hf
 rw [←hR]
 clear hR
 have H0:=Lib.hid hc
 have H1:=Lib.hid h1
 have H2:=Lib.hid h2
 clear h1 h2 hc hf hr hs la ha lb hb
 go_enter Tryz.func103,Tryz.ntmps103
 go_wp2_with fail
 refine (cT.out _ H1.out).mono ?_
 rintro r w1 ⟨rfl,hb⟩
 have H3:=Lib.hid ((hb.cell (p:=⟨pb,po,none⟩) (by show pb < _; simp; omega)).trans H1.out)
 have H4:=Lib.hid ((hb.frozen (p:=⟨pb,po,none⟩) (by show pb < _; simp; omega)).trans H2.out)
 obtain⟨z1,z2,z3,c1,f1,c2,f2,c3,f3,B⟩:=after3 hb
 have HB:=Lib.hid B
 clear hb B H1 H2
 go_wp2_with fail
 refine (cU.out _ H3.out).mono ?_
 rintro r w2 ⟨rfl,hb⟩
 have H5:=Lib.hid ((hb.cell (p:=⟨pb,po,none⟩) (by show pb < _; omega)).trans H3.out)
 have H6:=Lib.hid ((hb.frozen (p:=⟨pb,po,none⟩) (by show pb < _; omega)).trans H4.out)
 obtain⟨y1,c1',f1'⟩:=keepB hb z3 c1 f1
 obtain⟨y2,c2',f2'⟩:=keepB hb z2 c2 f2
 obtain⟨y3,c3',f3'⟩:=keepB hb z1 c3 f3
 have HB2:=Lib.hid (HB.out.trans (hb.mono HB.out.size))
 clear hb HB H3 H4 z1 z2 z3 c1 f1 c2 f2 c3 f3
 go_wp2_with fail
 refine (cX.out _ H5.out H6.out).mono ?_
 rintro r w3 ⟨rfl,hp⟩
 have HP:=Lib.hid (Put.after HB2.out hp)
 obtain⟨x3,d3,g3⟩:=hp.block (k:=w.heap.size+1+1) y3 (by show ¬ pb=w.heap.size+1+1; omega) c3' f3'
 clear hp H5 H6 HB2 c1' f1' c2' f2' c3' f3'
 go_wp2
 exact bodyPost_ret (v:=.agg #[.float .f64 R.lo,.float .f64 R.hi]) (by simp [results,Tryz.results103,go_sem,d3]) rfl ⟨rfl,(Below.setCell HP.out (by show _≤w.heap.size+1+1; omega) _).setCell (by show _≤w.heap.size+1+1; omega) _⟩
theorem cAdd_any (e:Int) (al ah bl bh pb po:Nat) (w:World) (la:al < 18446744073709551616) (ha:ah < 18446744073709551616) (lb:bl < 18446744073709551616) (hb:bh < 18446744073709551616) (hc:w.cell? ⟨pb,po,none⟩=some (.int .i64 e)) (hf:w.frozen? ⟨pb,po,none⟩=false) :
   Calls Tryz.prog 103 #[.pointer (some ⟨pb,po,none⟩),.agg #[al,ah],.agg #[bl,bh]] w (Told (stepI e (ivR al ah&&ivR bl bh) (addI al ah bl bh)) pb po w):=by
 cases he:(e == 0)
 · rw [stepI_err _ _ _ he]; exact cAdd_err e al ah bl bh pb po w hc he
 · obtain rfl:e=0:=by simpa using he
   cases hr:ivR al ah
   · rw [Bool.false_and,stepI_bad]; exact cAdd_bad1 al ah bl bh pb po w la ha hc hf hr
   · cases hs:ivR bl bh
     · rw [Bool.and_false,stepI_bad]; exact cAdd_bad2 al ah bl bh pb po w la ha lb hb hc hf hr hs
     · rw [Bool.and_true,stepI_ok]; exact cAdd_ok al ah bl bh pb po w la ha lb hb hc hf hr hs
theorem cSub_err (e:Int) (al ah bl bh pb po:Nat) (w:World) (hc:w.cell? ⟨pb,po,none⟩=some (.int .i64 e)) (he:(e == 0)=false) :
   Calls Tryz.prog 34 #[.pointer (some ⟨pb,po,none⟩),.agg #[al,ah],.agg #[bl,bh]] w (Told ⟨e,0,0⟩ pb po w):=by
 have hz:pb < w.heap.size:=cell_lt hc
 have h1:(((w.alloc (.cells #[al,ah] 31)).alloc (.cells #[bl,bh] 31)).alloc (.cells #[(),()] 31)).cell? ⟨pb,po,none⟩=some (.int .i64 e):=((bel3 w _ _ _).cell hz).trans hc
 have cT:=Lib.hid (fun w hc=>takes_err al ah e pb po w hc he)
 have H1:=Lib.hid h1
 have HC:=Lib.hid hc
 clear h1 hc he hz
 go_enter Tryz.func34,Tryz.ntmps34
 go_wp2_with fail
 refine (cT.out _ H1.out).mono ?_
 rintro r w1 ⟨rfl,hb⟩
 obtain⟨z1,z2,z3,c1,f1,c2,f2,c3,f3,B⟩:=after3 hb
 have HB:=Lib.hid B
 clear hb B c1 f1 c2 f2
 go_wp2
 exact bodyPost_ret (v:=.agg #[.float .f64 0,.float .f64 0]) (by simp [results,Tryz.results34,go_sem,c3]) rfl ⟨rfl,Put.of_below HC.out ((HB.out.setCell (by show _≤w.heap.size+1+1; omega) _).setCell (by show _≤w.heap.size+1+1; omega) _)⟩
theorem cSub_bad1 (al ah bl bh pb po:Nat) (w:World) (la:al < 18446744073709551616) (ha:ah < 18446744073709551616) (hc:w.cell? ⟨pb,po,none⟩=some (.int .i64 0)) (hf:w.frozen? ⟨pb,po,none⟩=false) (hr:ivR al ah=false) :
   Calls Tryz.prog 34 #[.pointer (some ⟨pb,po,none⟩),.agg #[al,ah],.agg #[bl,bh]] w (Told ⟨20,0,0⟩ pb po w):=by
 have hz:pb < w.heap.size:=cell_lt hc
 have h1:(((w.alloc (.cells #[al,ah] 31)).alloc (.cells #[bl,bh] 31)).alloc (.cells #[(),()] 31)).cell? ⟨pb,po,none⟩=some (.int .i64 0):=((bel3 w _ _ _).cell hz).trans hc
 have h2:(((w.alloc (.cells #[al,ah] 31)).alloc (.cells #[bl,bh] 31)).alloc (.cells #[(),()] 31)).frozen? ⟨pb,po,none⟩=false:=((bel3 w _ _ _).frozen hz).trans hf
 have cT:=Lib.hid (fun w hc hf=>takes_bad al ah pb po w la ha hc hf hr)
 have H1:=Lib.hid h1
 have H2:=Lib.hid h2
 clear h1 h2 hc hf hr la ha
 go_enter Tryz.func34,Tryz.ntmps34
 go_wp2_with fail
 refine (cT.out _ H1.out H2.out).mono ?_
 rintro r w1 ⟨rfl,hp⟩
 have HP:=Lib.hid (Put.after (bel3 w _ _ _) hp)
 obtain⟨z3,c3,f3⟩:=hp.block (k:=w.heap.size+1+1) (by simp) (by show ¬ pb=w.heap.size+1+1; omega) (fun i=>World.cell?_alloc_at _ _ _ _ (by simp)) (fun i=>World.frozen?_alloc_at _ _ _ _ (by simp))
 clear hp
 go_wp2
 exact bodyPost_ret (v:=.agg #[.float .f64 0,.float .f64 0]) (by simp [results,Tryz.results34,go_sem,c3]) rfl ⟨rfl,(Below.setCell HP.out (by show _≤w.heap.size+1+1; omega) _).setCell (by show _≤w.heap.size+1+1; omega) _⟩
theorem cSub_bad2 (al ah bl bh pb po:Nat) (w:World) (la:al < 18446744073709551616) (ha:ah < 18446744073709551616) (lb:bl < 18446744073709551616) (hb:bh < 18446744073709551616) (hc:w.cell? ⟨pb,po,none⟩=some (.int .i64 0)) (hf:w.frozen? ⟨pb,po,none⟩=false) (hr:ivR al ah=true) (hs:ivR bl bh=false) :
   Calls Tryz.prog 34 #[.pointer (some ⟨pb,po,none⟩),.agg #[al,ah],.agg #[bl,bh]] w (Told ⟨20,0,0⟩ pb po w):=by
 have hz:pb < w.heap.size:=cell_lt hc
 have h1:(((w.alloc (.cells #[al,ah] 31)).alloc (.cells #[bl,bh] 31)).alloc (.cells #[(),()] 31)).cell? ⟨pb,po,none⟩=some (.int .i64 0):=((bel3 w _ _ _).cell hz).trans hc
 have h2:(((w.alloc (.cells #[al,ah] 31)).alloc (.cells #[bl,bh] 31)).alloc (.cells #[(),()] 31)).frozen? ⟨pb,po,none⟩=false:=((bel3 w _ _ _).frozen hz).trans hf
 have cT:=Lib.hid (fun w hc=>takes_ok al ah pb po w la ha hc hr)
 have cU:=Lib.hid (fun w hc hf=>takes_bad bl bh pb po w lb hb hc hf hs)
 have H1:=Lib.hid h1
 have H2:=Lib.hid h2
 clear h1 h2 hc hf hr hs la ha lb hb
 go_enter Tryz.func34,Tryz.ntmps34
 go_wp2_with fail
 refine (cT.out _ H1.out).mono ?_
 rintro r w1 ⟨rfl,hb⟩
 have H3:=Lib.hid ((hb.cell (p:=⟨pb,po,none⟩) (by show pb < _; simp; omega)).trans H1.out)
 have H4:=Lib.hid ((hb.frozen (p:=⟨pb,po,none⟩) (by show pb < _; simp; omega)).trans H2.out)
 obtain⟨z1,z2,z3,c1,f1,c2,f2,c3,f3,B⟩:=after3 hb
 have HB:=Lib.hid B
 clear hb B H1 H2 c1 f1
 go_wp2_with fail
 refine (cU.out _ H3.out H4.out).mono ?_
 rintro r w2 ⟨rfl,hp⟩
 have HP:=Lib.hid (Put.after HB.out hp)
 obtain⟨y3,d3,g3⟩:=hp.block (k:=w.heap.size+1+1) z1 (by show ¬ pb=w.heap.size+1+1; omega) c3 f3
 clear hp c2 f2 c3 f3 H3 H4 HB
 go_wp2
 exact bodyPost_ret (v:=.agg #[.float .f64 0,.float .f64 0]) (by simp [results,Tryz.results34,go_sem,d3]) rfl ⟨rfl,(Below.setCell HP.out (by show _≤w.heap.size+1+1; omega) _).setCell (by show _≤w.heap.size+1+1; omega) _⟩
theorem cSub_ok (al ah bl bh pb po:Nat) (w:World) (la:al < 18446744073709551616) (ha:ah < 18446744073709551616) (lb:bl < 18446744073709551616) (hb:bh < 18446744073709551616) (hc:w.cell? ⟨pb,po,none⟩=some (.int .i64 0)) (hf:w.frozen? ⟨pb,po,none⟩=false) (hr:ivR al ah=true) (hs:ivR bl bh=true) :
   Calls Tryz.prog 34 #[.pointer (some ⟨pb,po,none⟩),.agg #[al,ah],.agg #[bl,bh]] w (Told (subI al ah bl bh) pb po w):=by
 have hz:pb < w.heap.size:=cell_lt hc
 have h1:(((w.alloc (.cells #[al,ah] 31)).alloc (.cells #[bl,bh] 31)).alloc (.cells #[(),()] 31)).cell? ⟨pb,po,none⟩=some (.int .i64 0):=((bel3 w _ _ _).cell hz).trans hc
 have h2:(((w.alloc (.cells #[al,ah] 31)).alloc (.cells #[bl,bh] 31)).alloc (.cells #[(),()] 31)).frozen? ⟨pb,po,none⟩=false:=((bel3 w _ _ _).frozen hz).trans hf
 have cT:=Lib.hid (fun w hc=>takes_ok al ah pb po w la ha hc hr)
 have cU:=Lib.hid (fun w hc=>takes_ok bl bh pb po w lb hb hc hs)
 obtain⟨R,hR⟩:∃ R,R=subI al ah bl bh:=⟨_,rfl⟩
 have cX:Hid (∀ w,w.cell? ⟨pb,po,none⟩=some (.int .i64 0)→w.frozen? ⟨pb,po,none⟩=false→Calls Tryz.prog 69 #[.pointer (some ⟨pb,po,none⟩),.func (.func 77) #[.agg #[al,bh]] #[],.func (.func 77) #[.agg #[ah,bl]] #[]] w (Told R pb po w)):=by
   intro w hc hf
   rw [hR]
   exact tight_difference _ _ _ _ pb po w _ _ (Lib.hid (fun w=>end_difference al bh false w (by omega) (by omega))) (Lib.hid (fun w=>end_difference ah bl true w (by omega) (by omega))) hc hf
 rw [←hR]
 clear hR
 have H0:=Lib.hid hc
 have H1:=Lib.hid h1
 have H2:=Lib.hid h2
 clear h1 h2 hc hf hr hs la ha lb hb
 go_enter Tryz.func34,Tryz.ntmps34
 go_wp2_with fail
 refine (cT.out _ H1.out).mono ?_
 rintro r w1 ⟨rfl,hb⟩
 have H3:=Lib.hid ((hb.cell (p:=⟨pb,po,none⟩) (by show pb < _; simp; omega)).trans H1.out)
 have H4:=Lib.hid ((hb.frozen (p:=⟨pb,po,none⟩) (by show pb < _; simp; omega)).trans H2.out)
 obtain⟨z1,z2,z3,c1,f1,c2,f2,c3,f3,B⟩:=after3 hb
 have HB:=Lib.hid B
 clear hb B H1 H2
 go_wp2_with fail
 refine (cU.out _ H3.out).mono ?_
 rintro r w2 ⟨rfl,hb⟩
 have H5:=Lib.hid ((hb.cell (p:=⟨pb,po,none⟩) (by show pb < _; omega)).trans H3.out)
 have H6:=Lib.hid ((hb.frozen (p:=⟨pb,po,none⟩) (by show pb < _; omega)).trans H4.out)
 obtain⟨y1,c1',f1'⟩:=keepB hb z3 c1 f1
 obtain⟨y2,c2',f2'⟩:=keepB hb z2 c2 f2
 obtain⟨y3,c3',f3'⟩:=keepB hb z1 c3 f3
 have HB2:=Lib.hid (HB.out.trans (hb.mono HB.out.size))
 clear hb HB H3 H4 z1 z2 z3 c1 f1 c2 f2 c3 f3
 go_wp2_with fail
 refine (cX.out _ H5.out H6.out).mono ?_
 rintro r w3 ⟨rfl,hp⟩
 have HP:=Lib.hid (Put.after HB2.out hp)
 obtain⟨x3,d3,g3⟩:=hp.block (k:=w.heap.size+1+1) y3 (by show ¬ pb=w.heap.size+1+1; omega) c3' f3'
 clear hp H5 H6 HB2 c1' f1' c2' f2' c3' f3'
 go_wp2
 exact bodyPost_ret (v:=.agg #[.float .f64 R.lo,.float .f64 R.hi]) (by simp [results,Tryz.results34,go_sem,d3]) rfl ⟨rfl,(Below.setCell HP.out (by show _≤w.heap.size+1+1; omega) _).setCell (by show _≤w.heap.size+1+1; omega) _⟩
theorem cSub_any (e:Int) (al ah bl bh pb po:Nat) (w:World) (la:al < 18446744073709551616) (ha:ah < 18446744073709551616) (lb:bl < 18446744073709551616) (hb:bh < 18446744073709551616) (hc:w.cell? ⟨pb,po,none⟩=some (.int .i64 e)) (hf:w.frozen? ⟨pb,po,none⟩=false) :
   Calls Tryz.prog 34 #[.pointer (some ⟨pb,po,none⟩),.agg #[al,ah],.agg #[bl,bh]] w (Told (stepI e (ivR al ah&&ivR bl bh) (subI al ah bl bh)) pb po w):=by
 cases he:(e == 0)
 · rw [stepI_err _ _ _ he]; exact cSub_err e al ah bl bh pb po w hc he
 · obtain rfl:e=0:=by simpa using he
   cases hr:ivR al ah
   · rw [Bool.false_and,stepI_bad]; exact cSub_bad1 al ah bl bh pb po w la ha hc hf hr
   · cases hs:ivR bl bh
     · rw [Bool.and_false,stepI_bad]; exact cSub_bad2 al ah bl bh pb po w la ha lb hb hc hf hr hs
     · rw [Bool.and_true,stepI_ok]; exact cSub_ok al ah bl bh pb po w la ha lb hb hc hf hr hs
theorem cMax_err (e:Int) (al ah bl bh pb po:Nat) (w:World) (hc:w.cell? ⟨pb,po,none⟩=some (.int .i64 e)) (he:(e == 0)=false) :
   Calls Tryz.prog 33 #[.pointer (some ⟨pb,po,none⟩),.agg #[al,ah],.agg #[bl,bh]] w (Told ⟨e,0,0⟩ pb po w):=by
 have hz:pb < w.heap.size:=cell_lt hc
 have h1:(((w.alloc (.cells #[al,ah] 31)).alloc (.cells #[bl,bh] 31)).alloc (.cells #[(),()] 31)).cell? ⟨pb,po,none⟩=some (.int .i64 e):=((bel3 w _ _ _).cell hz).trans hc
 have cT:=Lib.hid (fun w hc=>takes_err al ah e pb po w hc he)
 have H1:=Lib.hid h1
 have HC:=Lib.hid hc
 clear h1 hc he hz
 go_enter Tryz.func33,Tryz.ntmps33
 go_wp2_with fail
 refine (cT.out _ H1.out).mono ?_
 rintro r w1 ⟨rfl,hb⟩
 obtain⟨z1,z2,z3,c1,f1,c2,f2,c3,f3,B⟩:=after3 hb
 have HB:=Lib.hid B
 clear hb B c1 f1 c2 f2
 go_wp2
 exact bodyPost_ret (v:=.agg #[.float .f64 0,.float .f64 0]) (by simp [results,Tryz.results33,go_sem,c3]) rfl ⟨rfl,Put.of_below HC.out ((HB.out.setCell (by show _≤w.heap.size+1+1; omega) _).setCell (by show _≤w.heap.size+1+1; omega) _)⟩
theorem cMax_bad1 (al ah bl bh pb po:Nat) (w:World) (la:al < 18446744073709551616) (ha:ah < 18446744073709551616) (hc:w.cell? ⟨pb,po,none⟩=some (.int .i64 0)) (hf:w.frozen? ⟨pb,po,none⟩=false) (hr:ivR al ah=false) :
   Calls Tryz.prog 33 #[.pointer (some ⟨pb,po,none⟩),.agg #[al,ah],.agg #[bl,bh]] w (Told ⟨20,0,0⟩ pb po w):=by
 have hz:pb < w.heap.size:=cell_lt hc
 have h1:(((w.alloc (.cells #[al,ah] 31)).alloc (.cells #[bl,bh] 31)).alloc (.cells #[(),()] 31)).cell? ⟨pb,po,none⟩=some (.int .i64 0):=((bel3 w _ _ _).cell hz).trans hc
 have h2:(((w.alloc (.cells #[al,ah] 31)).alloc (.cells #[bl,bh] 31)).alloc (.cells #[(),()] 31)).frozen? ⟨pb,po,none⟩=false:=((bel3 w _ _ _).frozen hz).trans hf
 have cT:=Lib.hid (fun w hc hf=>takes_bad al ah pb po w la ha hc hf hr)
 have H1:=Lib.hid h1
 have H2:=Lib.hid h2
 clear h1 h2 hc hf hr la ha
 go_enter Tryz.func33,Tryz.ntmps33
 go_wp2_with fail
 refine (cT.out _ H1.out H2.out).mono ?_
 rintro r w1 ⟨rfl,hp⟩
 have HP:=Lib.hid (Put.after (bel3 w _ _ _) hp)
 obtain⟨z3,c3,f3⟩:=hp.block (k:=w.heap.size+1+1) (by simp) (by show ¬ pb=w.heap.size+1+1; omega) (fun i=>World.cell?_alloc_at _ _ _ _ (by simp)) (fun i=>World.frozen?_alloc_at _ _ _ _ (by simp))
 clear hp
 go_wp2
 exact bodyPost_ret (v:=.agg #[.float .f64 0,.float .f64 0]) (by simp [results,Tryz.results33,go_sem,c3]) rfl ⟨rfl,(Below.setCell HP.out (by show _≤w.heap.size+1+1; omega) _).setCell (by show _≤w.heap.size+1+1; omega) _⟩
theorem cMax_bad2 (al ah bl bh pb po:Nat) (w:World) (la:al < 18446744073709551616) (ha:ah < 18446744073709551616) (lb:bl < 18446744073709551616) (hb:bh < 18446744073709551616) (hc:w.cell? ⟨pb,po,none⟩=some (.int .i64 0)) (hf:w.frozen? ⟨pb,po,none⟩=false) (hr:ivR al ah=true) (hs:ivR bl bh=false) :
   Calls Tryz.prog 33 #[.pointer (some ⟨pb,po,none⟩),.agg #[al,ah],.agg #[bl,bh]] w (Told ⟨20,0,0⟩ pb po w):=by
 have hz:pb < w.heap.size:=cell_lt hc
 have h1:(((w.alloc (.cells #[al,ah] 31)).alloc (.cells #[bl,bh] 31)).alloc (.cells #[(),()] 31)).cell? ⟨pb,po,none⟩=some (.int .i64 0):=((bel3 w _ _ _).cell hz).trans hc
 have h2:(((w.alloc (.cells #[al,ah] 31)).alloc (.cells #[bl,bh] 31)).alloc (.cells #[(),()] 31)).frozen? ⟨pb,po,none⟩=false:=((bel3 w _ _ _).frozen hz).trans hf
 have cT:=Lib.hid (fun w hc=>takes_ok al ah pb po w la ha hc hr)
 have cU:=Lib.hid (fun w hc hf=>takes_bad bl bh pb po w lb hb hc hf hs)
 have H1:=Lib.hid h1
 have H2:=Lib.hid h2
 clear h1 h2 hc hf hr hs la ha lb hb
 go_enter Tryz.func33,Tryz.ntmps33
 go_wp2_with fail
 refine (cT.out _ H1.out).mono ?_
 rintro r w1 ⟨rfl,hb⟩
 have H3:=Lib.hid ((hb.cell (p:=⟨pb,po,none⟩) (by show pb < _; simp; omega)).trans H1.out)
 have H4:=Lib.hid ((hb.frozen (p:=⟨pb,po,none⟩) (by show pb < _; simp; omega)).trans H2.out)
 obtain⟨z1,z2,z3,c1,f1,c2,f2,c3,f3,B⟩:=after3 hb
 have HB:=Lib.hid B
 clear hb B H1 H2 c1 f1
 go_wp2_with fail
 refine (cU.out _ H3.out H4.out).mono ?_
 rintro r w2 ⟨rfl,hp⟩
 have HP:=Lib.hid (Put.after HB.out hp)
 obtain⟨y3,d3,g3⟩:=hp.block (k:=w.heap.size+1+1) z1 (by show ¬ pb=w.heap.size+1+1; omega) c3 f3
 clear hp c2 f2 c3 f3 H3 H4 HB
 go_wp2
 exact bodyPost_ret (v:=.agg #[.float .f64 0,.float .f64 0]) (by simp [results,Tryz.results33,go_sem,d3]) rfl ⟨rfl,(Below.setCell HP.out (by show _≤w.heap.size+1+1; omega) _).setCell (by show _≤w.heap.size+1+1; omega) _⟩
theorem cMax_ok (al ah bl bh pb po:Nat) (w:World) (la:al < 18446744073709551616) (ha:ah < 18446744073709551616) (lb:bl < 18446744073709551616) (hb:bh < 18446744073709551616) (hc:w.cell? ⟨pb,po,none⟩=some (.int .i64 0)) (hf:w.frozen? ⟨pb,po,none⟩=false) (hr:ivR al ah=true) (hs:ivR bl bh=true) :
   Calls Tryz.prog 33 #[.pointer (some ⟨pb,po,none⟩),.agg #[al,ah],.agg #[bl,bh]] w (Told (maxI al ah bl bh) pb po w):=by
 have hz:pb < w.heap.size:=cell_lt hc
 have h1:(((w.alloc (.cells #[al,ah] 31)).alloc (.cells #[bl,bh] 31)).alloc (.cells #[(),()] 31)).cell? ⟨pb,po,none⟩=some (.int .i64 0):=((bel3 w _ _ _).cell hz).trans hc
 have h2:(((w.alloc (.cells #[al,ah] 31)).alloc (.cells #[bl,bh] 31)).alloc (.cells #[(),()] 31)).frozen? ⟨pb,po,none⟩=false:=((bel3 w _ _ _).frozen hz).trans hf
 have cT:=Lib.hid (fun w hc=>takes_ok al ah pb po w la ha hc hr)
 have cU:=Lib.hid (fun w hc=>takes_ok bl bh pb po w lb hb hc hs)
 have m1:=fun ts t w=>(run_less al bl la lb (ivR_parts hr).1 (ivR_parts hs).1 ts t w).2
 have m2:=fun ts t w=>(run_less ah bh ha hb (ivR_parts hr).2.1 (ivR_parts hs).2.1 ts t w).2
 have H0:=Lib.hid hc
 have H1:=Lib.hid h1
 have H2:=Lib.hid h2
 clear h1 h2 hc hf hr hs la ha lb hb
 go_enter Tryz.func33,Tryz.ntmps33
 go_wp2_with fail
 refine (cT.out _ H1.out).mono ?_
 rintro r w1 ⟨rfl,hb⟩
 have H3:=Lib.hid ((hb.cell (p:=⟨pb,po,none⟩) (by show pb < _; simp; omega)).trans H1.out)
 have H4:=Lib.hid ((hb.frozen (p:=⟨pb,po,none⟩) (by show pb < _; simp; omega)).trans H2.out)
 obtain⟨z1,z2,z3,c1,f1,c2,f2,c3,f3,B⟩:=after3 hb
 have HB:=Lib.hid B
 clear hb B H1 H2
 go_wp2_with fail
 refine (cU.out _ H3.out).mono ?_
 rintro r w2 ⟨rfl,hb⟩
 have H5:=Lib.hid ((hb.cell (p:=⟨pb,po,none⟩) (by show pb < _; omega)).trans H3.out)
 have H6:=Lib.hid ((hb.frozen (p:=⟨pb,po,none⟩) (by show pb < _; omega)).trans H4.out)
 obtain⟨y1,c1',f1'⟩:=keepB hb z3 c1 f1
 obtain⟨y2,c2',f2'⟩:=keepB hb z2 c2 f2
 obtain⟨y3,c3',f3'⟩:=keepB hb z1 c3 f3
 have HB2:=Lib.hid (HB.out.trans (hb.mono HB.out.size))
 clear hb HB H3 H4 z1 z2 z3 c1 f1 c2 f2 c3 f3
 go_wp2
 exact bodyPost_ret (v:=.agg #[.float .f64 (maxW al bl),.float .f64 (maxW ah bh)]) (by simp [results,Tryz.results33,go_sem,c3']) rfl ⟨rfl,Put.of_below H0.out ((HB2.out.setCell (by show _≤w.heap.size+1+1; omega) _).setCell (by show _≤w.heap.size+1+1; omega) _)⟩
theorem cMax_any (e:Int) (al ah bl bh pb po:Nat) (w:World) (la:al < 18446744073709551616) (ha:ah < 18446744073709551616) (lb:bl < 18446744073709551616) (hb:bh < 18446744073709551616) (hc:w.cell? ⟨pb,po,none⟩=some (.int .i64 e)) (hf:w.frozen? ⟨pb,po,none⟩=false) :
   Calls Tryz.prog 33 #[.pointer (some ⟨pb,po,none⟩),.agg #[al,ah],.agg #[bl,bh]] w (Told (stepI e (ivR al ah&&ivR bl bh) (maxI al ah bl bh)) pb po w):=by
 cases he:(e == 0)
 · rw [stepI_err _ _ _ he]; exact cMax_err e al ah bl bh pb po w hc he
 · obtain rfl:e=0:=by simpa using he
   cases hr:ivR al ah
   · rw [Bool.false_and,stepI_bad]; exact cMax_bad1 al ah bl bh pb po w la ha hc hf hr
   · cases hs:ivR bl bh
     · rw [Bool.and_false,stepI_bad]; exact cMax_bad2 al ah bl bh pb po w la ha lb hb hc hf hr hs
     · rw [Bool.and_true,stepI_ok]; exact cMax_ok al ah bl bh pb po w la ha lb hb hc hf hr hs
end
section
open Go.RowKit
attribute [local go_sem] run_store_float
def sqrtI (al ah:Nat):Res:=if ltB al 0 then ⟨12,0,0⟩ else tightR (sqrtW al false) (sqrtE al false) (sqrtW ah true) (sqrtE ah true)
theorem res2 (v:World) (b:Nat) (x y u0 u1:Value) (h:∀ i,v.cell? ⟨b,i,none⟩=#[u0,u1][i]?) (o:Obj) (hb:b < v.heap.size) :
   (((v.setCell ⟨b,0,none⟩ x).setCell ⟨b,1,none⟩ y).alloc o).cell? ⟨b,0,none⟩=some x∧(((v.setCell ⟨b,0,none⟩ x).setCell ⟨b,1,none⟩ y).alloc o).cell? ⟨b,1,none⟩=some y:=by
 have h1:(v.setCell ⟨b,0,none⟩ x).cell? ⟨b,1,none⟩=some u1:=(World.cell?_setCell_other _ _ _ _ (by simp)).trans (h 1)
 refine ⟨?_,?_⟩
 · rw [World.cell?_alloc_lt _ _ _ (by show b < _; rw [size_set,size_set]; exact hb),World.cell?_setCell_other _ _ _ _ (by simp)]
   exact World.cell?_setCell_same _ _ _ (h 0)
 · rw [World.cell?_alloc_lt _ _ _ (by show b < _; rw [size_set,size_set]; exact hb)]
   exact World.cell?_setCell_same _ _ _ h1
theorem cSqr_err (e:Int) (al ah pb po:Nat) (w:World) (hc:w.cell? ⟨pb,po,none⟩=some (.int .i64 e)) (he:(e == 0)=false) :
   Calls Tryz.prog 104 #[.pointer (some ⟨pb,po,none⟩),.agg #[al,ah]] w (Told ⟨e,0,0⟩ pb po w):=by
 have hz:pb < w.heap.size:=cell_lt hc
 have h1:((w.alloc (.cells #[al,ah] 31)).alloc (.cells #[(),()] 31)).cell? ⟨pb,po,none⟩=some (.int .i64 e):=((bel2 w _ _).cell hz).trans hc
 have cT:=Lib.hid (fun w hc=>takes_err al ah e pb po w hc he)
 have H1:=Lib.hid h1
 have HC:=Lib.hid hc
 clear h1 hc he hz
 go_enter Tryz.func104,Tryz.ntmps104
 go_wp2_with fail
 refine (cT.out _ H1.out).mono ?_
 rintro r w1 ⟨rfl,hb⟩
 obtain⟨z2,z3,c2,f2,c3,f3,B⟩:=after2 hb
 have HB:=Lib.hid B
 clear hb B c2 f2
 go_wp2
 exact bodyPost_ret (v:=.agg #[.float .f64 0,.float .f64 0]) (by simp [results,Tryz.results104,go_sem,c3]) rfl ⟨rfl,Put.of_below HC.out ((HB.out.setCell (by show _≤w.heap.size+1; omega) _).setCell (by show _≤w.heap.size+1; omega) _)⟩
theorem cSqr_bad1 (al ah pb po:Nat) (w:World) (la:al < 18446744073709551616) (ha:ah < 18446744073709551616) (hc:w.cell? ⟨pb,po,none⟩=some (.int .i64 0)) (hf:w.frozen? ⟨pb,po,none⟩=false) (hr:ivR al ah=false) :
   Calls Tryz.prog 104 #[.pointer (some ⟨pb,po,none⟩),.agg #[al,ah]] w (Told ⟨20,0,0⟩ pb po w):=by
 have hz:pb < w.heap.size:=cell_lt hc
 have h1:((w.alloc (.cells #[al,ah] 31)).alloc (.cells #[(),()] 31)).cell? ⟨pb,po,none⟩=some (.int .i64 0):=((bel2 w _ _).cell hz).trans hc
 have h2:((w.alloc (.cells #[al,ah] 31)).alloc (.cells #[(),()] 31)).frozen? ⟨pb,po,none⟩=false:=((bel2 w _ _).frozen hz).trans hf
 have cT:=Lib.hid (fun w hc hf=>takes_bad al ah pb po w la ha hc hf hr)
 have H1:=Lib.hid h1
 have H2:=Lib.hid h2
 clear h1 h2 hc hf hr la ha
 go_enter Tryz.func104,Tryz.ntmps104
 go_wp2_with fail
 refine (cT.out _ H1.out H2.out).mono ?_
 rintro r w1 ⟨rfl,hp⟩
 have HP:=Lib.hid (Put.after (bel2 w _ _) hp)
 obtain⟨z3,c3,f3⟩:=hp.block (k:=w.heap.size+1) (by simp) (by show ¬ pb=w.heap.size+1; omega) (fun i=>World.cell?_alloc_at _ _ _ _ (by simp)) (fun i=>World.frozen?_alloc_at _ _ _ _ (by simp))
 clear hp
 go_wp2
 exact bodyPost_ret (v:=.agg #[.float .f64 0,.float .f64 0]) (by simp [results,Tryz.results104,go_sem,c3]) rfl ⟨rfl,(Below.setCell HP.out (by show _≤w.heap.size+1; omega) _).setCell (by show _≤w.heap.size+1; omega) _⟩
theorem abs_lt (a b:Nat) (ha:a < 18446744073709551616) (hb:b < 18446744073709551616) (ra:rightB a=true) (rb:rightB b=true):absLo a b < 18446744073709551616∧absHi a b < 18446744073709551616:=by
 obtain⟨t1,t2,_⟩:=turn_facts a ha ra
 obtain⟨u1,u2,_⟩:=turn_facts b hb rb
 obtain⟨m1,_,_⟩:=max_facts b (turnW a) hb t1 rb t2
 unfold absLo absHi
 refine ⟨?_,?_⟩
 · split
   · exact ha
   · split
     · exact u1
     · decide
 · split
   · exact hb
   · split
     · exact t1
     · exact m1
theorem cSqr_ok (al ah pb po:Nat) (w:World) (la:al < 18446744073709551616) (ha:ah < 18446744073709551616) (hc:w.cell? ⟨pb,po,none⟩=some (.int .i64 0)) (hf:w.frozen? ⟨pb,po,none⟩=false) (hr:ivR al ah=true) :
   Calls Tryz.prog 104 #[.pointer (some ⟨pb,po,none⟩),.agg #[al,ah]] w (Told (sqrI al ah) pb po w):=by
 have hz:pb < w.heap.size:=cell_lt hc
 have h1:((w.alloc (.cells #[al,ah] 31)).alloc (.cells #[(),()] 31)).cell? ⟨pb,po,none⟩=some (.int .i64 0):=((bel2 w _ _).cell hz).trans hc
 have h2:((w.alloc (.cells #[al,ah] 31)).alloc (.cells #[(),()] 31)).frozen? ⟨pb,po,none⟩=false:=((bel2 w _ _).frozen hz).trans hf
 have cT:=Lib.hid (fun w hc=>takes_ok al ah pb po w la ha hc hr)
 have cN:=Lib.hid (fun w=>magnitude_any al ah w la ha (ivR_parts hr).1 (ivR_parts hr).2.1)
 obtain⟨x,hx⟩:∃ x,x=absLo al ah:=⟨_,rfl⟩
 obtain⟨y,hy⟩:∃ y,y=absHi al ah:=⟨_,rfl⟩
 obtain⟨lx,ly⟩:x < 18446744073709551616∧y < 18446744073709551616:=by rw [hx,hy]; exact abs_lt al ah la ha (ivR_parts hr).1 (ivR_parts hr).2.1
 obtain⟨R,hR⟩:∃ R,R=sqrI al ah:=⟨_,rfl⟩
 have cX:Hid (∀ w,w.cell? ⟨pb,po,none⟩=some (.int .i64 0)→w.frozen? ⟨pb,po,none⟩=false→Calls Tryz.prog 69 #[.pointer (some ⟨pb,po,none⟩),.func (.func 76) #[.agg #[x,x]] #[],.func (.func 76) #[.agg #[y,y]] #[]] w (Told R pb po w)):=by
   intro w hc hf
   rw [hR]
   unfold sqrI
   rw [←hx,←hy]
   exact tight_product _ _ _ _ pb po w _ _ (Lib.hid (fun w=>end_product x x false w lx lx)) (Lib.hid (fun w=>end_product y y true w ly ly)) hc hf
 rw [←hR]
 clear hR
 rw [←hx,←hy] at cN
 clear hx hy lx ly
 have H0:=Lib.hid hc
 have H1:=Lib.hid h1
 have H2:=Lib.hid h2
 clear h1 h2 hc hf hr la ha
 go_enter Tryz.func104,Tryz.ntmps104
 go_wp2_with fail
 refine (cT.out _ H1.out).mono ?_
 rintro r w1 ⟨rfl,hb⟩
 have H3:=Lib.hid ((hb.cell (p:=⟨pb,po,none⟩) (by show pb < _; simp; omega)).trans H1.out)
 have H4:=Lib.hid ((hb.frozen (p:=⟨pb,po,none⟩) (by show pb < _; simp; omega)).trans H2.out)
 obtain⟨z1,z3,c1,f1,c3,f3,B⟩:=after2 hb
 have HB:=Lib.hid B
 clear hb B H1 H2
 go_wp2_with fail
 refine (cN.out _).mono ?_
 rintro r w2 ⟨rfl,hb⟩
 have H5:=Lib.hid ((hb.cell (p:=⟨pb,po,none⟩) (by show pb < _; omega)).trans H3.out)
 have H6:=Lib.hid ((hb.frozen (p:=⟨pb,po,none⟩) (by show pb < _; omega)).trans H4.out)
 obtain⟨y3,c3',f3'⟩:=keepB hb z1 c3 f3
 have HB2:=Lib.hid (HB.out.trans (hb.mono HB.out.size))
 have hz2:pb < w2.heap.size:=by omega
 clear hb HB z1 z3 c1 f1 c3 f3 H3 H4
 go_wp2_with fail
 refine (cX.out _ ((World.cell?_alloc_lt _ _ _ (by show pb < _; omega)).trans H5.out) (((bel1 _ _).frozen (p:=⟨pb,po,none⟩) (by show pb < _; omega)).trans H6.out)).mono ?_
 rintro r w3 ⟨rfl,hp⟩
 have HP:=Lib.hid (Put.after (HB2.out.trans ((bel1 _ _).mono HB2.out.size)) hp)
 obtain⟨x3,d3,g3⟩:=hp.block (k:=w.heap.size+1) (by simp; omega) (by show ¬ pb=w.heap.size+1; omega) (fun i=>(World.cell?_alloc_lt _ _ _ (by show w.heap.size+1 < _; omega)).trans (c3' i)) (fun i=>((bel1 _ _).frozen (p:=⟨w.heap.size+1,i,none⟩) (by show w.heap.size+1 < _; omega)).trans (f3' i))
 clear hp H5 H6 HB2 c3' f3'
 go_wp2
 exact bodyPost_ret (v:=.agg #[.float .f64 R.lo,.float .f64 R.hi]) (by simp [results,Tryz.results104,go_sem,d3]) rfl ⟨rfl,(Below.setCell HP.out (by show _≤w.heap.size+1; omega) _).setCell (by show _≤w.heap.size+1; omega) _⟩
theorem cSqr_any (e:Int) (al ah pb po:Nat) (w:World) (la:al < 18446744073709551616) (ha:ah < 18446744073709551616) (hc:w.cell? ⟨pb,po,none⟩=some (.int .i64 e)) (hf:w.frozen? ⟨pb,po,none⟩=false) :
   Calls Tryz.prog 104 #[.pointer (some ⟨pb,po,none⟩),.agg #[al,ah]] w (Told (stepI e (ivR al ah) (sqrI al ah)) pb po w):=by
 cases he:(e == 0)
 · rw [stepI_err _ _ _ he]; exact cSqr_err e al ah pb po w hc he
 · obtain rfl:e=0:=by simpa using he
   cases hr:ivR al ah
   · rw [stepI_bad]; exact cSqr_bad1 al ah pb po w la ha hc hf hr
   · rw [stepI_ok]; exact cSqr_ok al ah pb po w la ha hc hf hr
theorem cNum_any (e:Int) (a pb po:Nat) (w:World) (ha:a < 18446744073709551616) (hc:w.cell? ⟨pb,po,none⟩=some (.int .i64 e)) (hf:w.frozen? ⟨pb,po,none⟩=false) :
   Calls Tryz.prog 35 #[.pointer (some ⟨pb,po,none⟩),a] w (Told (stepI e true (ofI a)) pb po w):=by
 have hz:pb < w.heap.size:=cell_lt hc
 have h1:(w.alloc (.cells #[(),()] 31)).cell? ⟨pb,po,none⟩=some (.int .i64 e):=((bel1 w _).cell hz).trans hc
 have h2:(w.alloc (.cells #[(),()] 31)).frozen? ⟨pb,po,none⟩=false:=((bel1 w _).frozen hz).trans hf
 have cW:=Lib.hid (fun w hc=>works_any e pb po w hc)
 have cO:=Lib.hid (fun w=>of_any a w ha)
 have H0:=Lib.hid hc
 have H1:=Lib.hid h1
 have H2:=Lib.hid h2
 clear h1 h2 hc hf ha
 cases he:(e == 0)
 · rw [stepI_err _ _ _ he]
   go_enter Tryz.func35,Tryz.ntmps35
   go_wp2_with fail
   refine (cW.out _ H1.out).mono ?_
   rintro r w1 ⟨rfl,rfl⟩
   go_wp2
   exact bodyPost_ret (v:=.agg #[.float .f64 0,.float .f64 0]) (by simp [results,Tryz.results35,go_sem]) rfl ⟨rfl,Put.of_below H0.out (bel1 _ _)⟩
 · obtain rfl:e=0:=by simpa using he
   rw [stepI_ok]
   obtain⟨R,hR⟩:∃ R,R=ofI a:=⟨_,rfl⟩
   rw [←hR] at cO ⊢
   have cO':Hid (∀ w,Calls Tryz.prog 78 #[a] w (Rt (.tuple #[.agg #[R.lo,R.hi],.int .i64 R.e]) w)):=cO
   clear hR cO he
   go_enter Tryz.func35,Tryz.ntmps35
   go_wp2_with fail
   refine (cW.out _ H1.out).mono ?_
   rintro r w1 ⟨rfl,rfl⟩
   go_wp2_with fail
   refine (cO'.out _).mono ?_
   rintro r w2 ⟨rfl,hb⟩
   have h5:=((hb.cell (p:=⟨pb,po,none⟩) (by show pb < _; simp; omega)).trans H1.out)
   have h6:=((hb.frozen (p:=⟨pb,po,none⟩) (by show pb < _; simp; omega)).trans H2.out)
   obtain⟨z3,c3,f3,B⟩:=after1 hb
   have HB:=Lib.hid B
   have n1:¬ pb=w2.heap.size:=by omega
   have n2:¬ pb=w.heap.size:=by omega
   have n3:¬ w.heap.size=w2.heap.size:=by omega
   have n4:¬ w.heap.size=pb:=by omega
   have hz2:pb < w2.heap.size:=by omega
   have hs:∀ v,(w2.setCell ⟨pb,po,none⟩ v).heap.size=w2.heap.size:=fun v=>size_set _ _ _
   clear hb B H1 H2
   go_wp2
   have c4:∀ i,(w2.setCell ⟨pb,po,none⟩ (.int .i64 R.e)).cell? ⟨w.heap.size,i,none⟩=#[Value.float .f64 0,Value.float .f64 0][i]?:=fun i=>(World.cell?_setCell_other _ _ _ _ (fun h=>n2 (congrArg Addr.block h))).trans (c3 i)
   obtain⟨q0,q1⟩:=res2 _ w.heap.size (.float .f64 R.lo) (.float .f64 R.hi) _ _ c4 (.cells #[R.lo,R.hi] 31) (by rw [size_set]; omega)
   refine bodyPost_ret (v:=.agg #[.float .f64 R.lo,.float .f64 R.hi]) (by simp [results,Tryz.results35,go_sem,q0,q1]) rfl ⟨rfl,?_⟩
   exact (((both HB.out _ _).setCell (by show _≤w.heap.size; omega) _).setCell (by show _≤w.heap.size; omega) _).alloc (by rw [size_set,size_set,size_set]; omega) _
end
section
open Go.RowKit
attribute [local go_sem] run_store_float
def rawLe (a b:Nat):Bool:=(FloatKind.f64.format.order a b == some Ordering.lt) || (FloatKind.f64.format.order a b == some Ordering.eq)
def hasB (a b x:Nat):Bool:=ivR a b&&rawLe a x&&rawLe x b
theorem has_any (a b x:Nat) (w:World) (ha:a < 18446744073709551616) (hb:b < 18446744073709551616) :
   Calls Tryz.prog 66 #[.agg #[a,b],x] w (Rt (.bool (hasB a b x)) w):=by
 have cR:=Lib.hid (fun w=>ivRight_any a b w ha hb)
 clear ha hb
 cases hr:ivR a b
 · have R:=Lib.hid (show hasB a b x=false by unfold hasB; rw [hr]; rfl)
   have HR:=Lib.hid hr
   clear hr
   go_enter Tryz.func66,Tryz.ntmps66
   go_wp2_with fail
   refine (cR.out _).mono ?_
   rintro r w1 ⟨rfl,hb⟩
   rw [HR.out]
   obtain⟨z1,c1,f1,B⟩:=after1 hb
   have HB:=Lib.hid B
   clear hb B
   go_wp2
   go_ret
   exact ⟨by rw [R.out]; rfl,HB.out⟩
 · have HR:=Lib.hid hr
   cases h1:rawLe a x
   · have R:=Lib.hid (show hasB a b x=false by unfold hasB; rw [hr,h1]; rfl)
     unfold rawLe at h1
     clear hr
     go_enter Tryz.func66,Tryz.ntmps66
     go_wp2_with fail
     refine (cR.out _).mono ?_
     rintro r w1 ⟨rfl,hb⟩
     rw [HR.out]
     obtain⟨z1,c1,f1,B⟩:=after1 hb
     have HB:=Lib.hid B
     clear hb B
     go_wp2
     go_ret
     exact ⟨by rw [R.out]; rfl,HB.out⟩
   · have R:=Lib.hid (show hasB a b x=rawLe x b by unfold hasB; rw [hr,h1]; rfl)
     unfold rawLe at h1
     clear hr
     go_enter Tryz.func66,Tryz.ntmps66
     go_wp2_with fail
     refine (cR.out _).mono ?_
     rintro r w1 ⟨rfl,hb⟩
     rw [HR.out]
     obtain⟨z1,c1,f1,B⟩:=after1 hb
     have HB:=Lib.hid B
     clear hb B
     go_wp2
     go_ret
     exact ⟨by rw [R.out]; rfl,HB.out⟩
theorem hull_any (al ah bl bh:Nat) (w:World) (la:al < 18446744073709551616) (ha:ah < 18446744073709551616) (lb:bl < 18446744073709551616) (hb:bh < 18446744073709551616) (r1:rightB al=true) (r2:rightB ah=true) (r3:rightB bl=true) (r4:rightB bh=true) :
   Calls Tryz.prog 65 #[.agg #[al,ah],.agg #[bl,bh]] w (Rt (.agg #[.float .f64 (minW al bl),.float .f64 (maxW ah bh)]) w):=by
 have m1:=fun ts t w=>(run_less al bl la lb r1 r3 ts t w).1
 have m2:=fun ts t w=>(run_less ah bh ha hb r2 r4 ts t w).2
 clear la ha lb hb r1 r2 r3 r4
 go_enter Tryz.func65,Tryz.ntmps65
 go_wp2
 exact bodyPost_ret (v:=.agg #[.float .f64 (minW al bl),.float .f64 (maxW ah bh)]) (by simp [results,Tryz.results65,go_sem]) rfl ⟨rfl,bel3 _ _ _ _⟩
def bothB (al ah bl bh:Nat):Bool:=leB (maxW al bl) (minW ah bh)
def meetLo (al ah bl bh:Nat):Nat:=if bothB al ah bl bh then maxW al bl else 0
def meetHi (al ah bl bh:Nat):Nat:=if bothB al ah bl bh then minW ah bh else 0
theorem meet_any (al ah bl bh:Nat) (w:World) (la:al < 18446744073709551616) (ha:ah < 18446744073709551616) (lb:bl < 18446744073709551616) (hb:bh < 18446744073709551616) (r1:rightB al=true) (r2:rightB ah=true) (r3:rightB bl=true) (r4:rightB bh=true) :
   Calls Tryz.prog 59 #[.agg #[al,ah],.agg #[bl,bh]] w (Rt (.tuple #[.agg #[.float .f64 (meetLo al ah bl bh),.float .f64 (meetHi al ah bl bh)],.bool (bothB al ah bl bh)]) w):=by
 have m1:=fun ts t w=>(run_less al bl la lb r1 r3 ts t w).2
 have m2:=fun ts t w=>(run_less ah bh ha hb r2 r4 ts t w).1
 obtain⟨x1,x2,_⟩:=max_facts al bl la lb r1 r3
 obtain⟨y1,y2,_⟩:=min_facts ah bh ha hb r2 r4
 have o:=order_le _ _ x1 y1 x2 y2
 clear la ha lb hb r1 r2 r3 r4 x1 x2 y1 y2
 cases h:leB (maxW al bl) (minW ah bh)
 · rw [h] at o
   have R:=Lib.hid (show meetLo al ah bl bh=0∧meetHi al ah bl bh=0∧bothB al ah bl bh=false by unfold meetLo meetHi bothB; simp [h])
   clear h
   go_enter Tryz.func59,Tryz.ntmps59
   go_wp2
   rw [R.out.1,R.out.2.1,R.out.2.2]
   exact bodyPost_ret (v:=.tuple #[.agg #[.float .f64 0,.float .f64 0],.bool false]) (by simp [results,Tryz.results59,go_sem]) rfl ⟨rfl,bel4 _ _ _ _ _⟩
 · rw [h] at o
   have R:=Lib.hid (show meetLo al ah bl bh=maxW al bl∧meetHi al ah bl bh=minW ah bh∧bothB al ah bl bh=true by unfold meetLo meetHi bothB; simp [h])
   clear h
   go_enter Tryz.func59,Tryz.ntmps59
   go_wp2
   rw [R.out.1,R.out.2.1,R.out.2.2]
   exact bodyPost_ret (v:=.tuple #[.agg #[.float .f64 (maxW al bl),.float .f64 (minW ah bh)],.bool true]) (by simp [results,Tryz.results59,go_sem]) rfl ⟨rfl,bel4 _ _ _ _ _⟩
theorem pi_any (w:World) :
   Calls Tryz.prog 162 #[] w (Rt (.agg #[(4614256656552045848:Nat),(4614256656552045849:Nat)]) w):=by
 go_enter Tryz.func162,Tryz.ntmps162
 go_wp2
 exact bodyPost_ret (v:=.agg #[.float .f64 4614256656552045848,.float .f64 4614256656552045849]) (by simp [results,Tryz.results162,go_sem]) rfl ⟨rfl,bel1 _ _⟩
end
section
open Go.RowKit
attribute [local go_sem] run_store_float
theorem cSqrt_err (e:Int) (al ah pb po:Nat) (w:World) (hc:w.cell? ⟨pb,po,none⟩=some (.int .i64 e)) (he:(e == 0)=false) :
   Calls Tryz.prog 30 #[.pointer (some ⟨pb,po,none⟩),.agg #[al,ah]] w (Told ⟨e,0,0⟩ pb po w):=by
 have hz:pb < w.heap.size:=cell_lt hc
 have h1:((w.alloc (.cells #[al,ah] 31)).alloc (.cells #[(),()] 31)).cell? ⟨pb,po,none⟩=some (.int .i64 e):=((bel2 w _ _).cell hz).trans hc
 have cT:=Lib.hid (fun w hc=>takes_err al ah e pb po w hc he)
 have H1:=Lib.hid h1
 have HC:=Lib.hid hc
 clear h1 hc he hz
 go_enter Tryz.func30,Tryz.ntmps30
 go_wp2_with fail
 refine (cT.out _ H1.out).mono ?_
 rintro r w1 ⟨rfl,hb⟩
 obtain⟨z2,z3,c2,f2,c3,f3,B⟩:=after2 hb
 have HB:=Lib.hid B
 clear hb B c2 f2
 go_wp2
 exact bodyPost_ret (v:=.agg #[.float .f64 0,.float .f64 0]) (by simp [results,Tryz.results30,go_sem,c3]) rfl ⟨rfl,Put.of_below HC.out ((HB.out.setCell (by show _≤w.heap.size+1; omega) _).setCell (by show _≤w.heap.size+1; omega) _)⟩
theorem cSqrt_bad1 (al ah pb po:Nat) (w:World) (la:al < 18446744073709551616) (ha:ah < 18446744073709551616) (hc:w.cell? ⟨pb,po,none⟩=some (.int .i64 0)) (hf:w.frozen? ⟨pb,po,none⟩=false) (hr:ivR al ah=false) :
   Calls Tryz.prog 30 #[.pointer (some ⟨pb,po,none⟩),.agg #[al,ah]] w (Told ⟨20,0,0⟩ pb po w):=by
 have hz:pb < w.heap.size:=cell_lt hc
 have h1:((w.alloc (.cells #[al,ah] 31)).alloc (.cells #[(),()] 31)).cell? ⟨pb,po,none⟩=some (.int .i64 0):=((bel2 w _ _).cell hz).trans hc
 have h2:((w.alloc (.cells #[al,ah] 31)).alloc (.cells #[(),()] 31)).frozen? ⟨pb,po,none⟩=false:=((bel2 w _ _).frozen hz).trans hf
 have cT:=Lib.hid (fun w hc hf=>takes_bad al ah pb po w la ha hc hf hr)
 have H1:=Lib.hid h1
 have H2:=Lib.hid h2
 clear h1 h2 hc hf hr la ha
 go_enter Tryz.func30,Tryz.ntmps30
 go_wp2_with fail
 refine (cT.out _ H1.out H2.out).mono ?_
 rintro r w1 ⟨rfl,hp⟩
 have HP:=Lib.hid (Put.after (bel2 w _ _) hp)
 obtain⟨z3,c3,f3⟩:=hp.block (k:=w.heap.size+1) (by simp) (by show ¬ pb=w.heap.size+1; omega) (fun i=>World.cell?_alloc_at _ _ _ _ (by simp)) (fun i=>World.frozen?_alloc_at _ _ _ _ (by simp))
 clear hp
 go_wp2
 exact bodyPost_ret (v:=.agg #[.float .f64 0,.float .f64 0]) (by simp [results,Tryz.results30,go_sem,c3]) rfl ⟨rfl,(Below.setCell HP.out (by show _≤w.heap.size+1; omega) _).setCell (by show _≤w.heap.size+1; omega) _⟩
theorem cSqrt_ok (al ah pb po:Nat) (w:World) (la:al < 18446744073709551616) (ha:ah < 18446744073709551616) (hc:w.cell? ⟨pb,po,none⟩=some (.int .i64 0)) (hf:w.frozen? ⟨pb,po,none⟩=false) (hr:ivR al ah=true) :
   Calls Tryz.prog 30 #[.pointer (some ⟨pb,po,none⟩),.agg #[al,ah]] w (Told (sqrtI al ah) pb po w):=by
 have hz:pb < w.heap.size:=cell_lt hc
 have h1:((w.alloc (.cells #[al,ah] 31)).alloc (.cells #[(),()] 31)).cell? ⟨pb,po,none⟩=some (.int .i64 0):=((bel2 w _ _).cell hz).trans hc
 have h2:((w.alloc (.cells #[al,ah] 31)).alloc (.cells #[(),()] 31)).frozen? ⟨pb,po,none⟩=false:=((bel2 w _ _).frozen hz).trans hf
 have cT:=Lib.hid (fun w hc=>takes_ok al ah pb po w la ha hc hr)
 have o1:=lt_zero al la (ivR_parts hr).1
 have cO:=Lib.hid (fun x w=>rootOf_any x w)
 obtain⟨R,hR⟩:∃ R,R=tightR (sqrtW al false) (sqrtE al false) (sqrtW ah true) (sqrtE ah true):=⟨_,rfl⟩
 have cX:Hid (∀ w ql qh,w.cell? ⟨ql,0,none⟩=some (.float .f64 al)→w.cell? ⟨qh,0,none⟩=some (.float .f64 ah)→w.cell? ⟨pb,po,none⟩=some (.int .i64 0)→w.frozen? ⟨pb,po,none⟩=false→Calls Tryz.prog 69 #[.pointer (some ⟨pb,po,none⟩),.func (.func 117) #[] #[.pointer (some ⟨ql,0,none⟩)],.func (.func 117) #[] #[.pointer (some ⟨qh,0,none⟩)]] w (Told R pb po w)):=by
   intro w ql qh h3 h4 hc hf
   rw [hR]
   exact tight_root _ _ _ _ pb po w ql qh al ah (Lib.hid (fun w hq=>rootOf1_any al false ql w la hq)) (Lib.hid (fun w hq=>rootOf1_any ah true qh w ha hq)) h3 h4 hc hf
 cases hlt:ltB al 0
 · rw [hlt] at o1
   have hI:sqrtI al ah=R:=by rw [hR]; unfold sqrtI; rw [if_neg (by rw [hlt]; exact Bool.false_ne_true)]
   rw [hI]
   clear hI hR hlt
   have H0:=Lib.hid hc
   have H1:=Lib.hid h1
   have H2:=Lib.hid h2
   clear h1 h2 hc hf hr la ha
   go_enter Tryz.func30,Tryz.ntmps30
   go_wp2_with fail
   refine (cT.out _ H1.out).mono ?_
   rintro r w1 ⟨rfl,hb⟩
   have H3:=Lib.hid ((hb.cell (p:=⟨pb,po,none⟩) (by show pb < _; simp; omega)).trans H1.out)
   have H4:=Lib.hid ((hb.frozen (p:=⟨pb,po,none⟩) (by show pb < _; simp; omega)).trans H2.out)
   obtain⟨z1,z3,c1,f1,c3,f3,B⟩:=after2 hb
   have HB:=Lib.hid B
   clear hb B H1 H2
   have k1:=c1 0
   have k2:=c1 1
   have W2:Hid (Below w1.heap.size w1 ((w1.alloc (.cells #[al] 25)).alloc (.cells #[ah] 25)).drew):=Lib.hid (bel2 w1 _ _).drew
   have Q1:Hid (((w1.alloc (.cells #[al] 25)).alloc (.cells #[ah] 25)).drew.cell? ⟨w1.heap.size,0,none⟩=some (.float .f64 al)):=Lib.hid ((World.cell?_alloc_lt _ _ _ (by show w1.heap.size < _; simp)).trans (World.cell?_alloc_at _ _ _ _ rfl))
   have Q2:Hid (((w1.alloc (.cells #[al] 25)).alloc (.cells #[ah] 25)).drew.cell? ⟨w1.heap.size+1,0,none⟩=some (.float .f64 ah)):=Lib.hid (World.cell?_alloc_at _ _ _ _ (by simp))
   have Q3:=Lib.hid ((W2.out.cell (p:=⟨pb,po,none⟩) (by show pb < _; omega)).trans H3.out)
   have Q4:=Lib.hid ((W2.out.frozen (p:=⟨pb,po,none⟩) (by show pb < _; omega)).trans H4.out)
   have K1:=Lib.hid (keepB W2.out z3 c1 f1)
   have K3:=Lib.hid (keepB W2.out z1 c3 f3)
   have HB2:=Lib.hid (HB.out.trans (W2.out.mono HB.out.size))
   clear c1 f1 c3 f3 HB H3 H4 W2
   go_wp2_with fail
   go_region_held3 (fun w'=>w'.cell? ⟨w.heap.size,0,none⟩=some (.float .f64 al)∧w'.cell? ⟨w.heap.size,1,none⟩=some (.float .f64 ah)) (go_keep)
     (first
       | (go_at_call 70; refine (cO.out _ _).mono ?_; rintro r w2 ⟨rfl,rfl⟩)
       | (go_at_call 69; refine (cX.out _ w1.heap.size (w1.heap.size+1) Q1.out Q2.out Q3.out Q4.out).mono ?_; rintro r w3 ⟨rfl,hp⟩; have HP:=Lib.hid (Put.after HB2.out hp); obtain⟨x1,d1,g1⟩:=hp.block (k:=w.heap.size) K1.out.1 (by show ¬ pb=w.heap.size; omega) K1.out.2.1 K1.out.2.2; obtain⟨x3,d3,g3⟩:=hp.block (k:=w.heap.size+1) K3.out.1 (by show ¬ pb=w.heap.size+1; omega) K3.out.2.1 K3.out.2.2; have s1:=d1 0; have s2:=d1 1; clear hp))
   go_wp2
   exact bodyPost_ret (v:=.agg #[.float .f64 R.lo,.float .f64 R.hi]) (by simp [results,Tryz.results30,go_sem,d3]) rfl ⟨rfl,(Below.setCell HP.out (by show _≤w.heap.size+1; omega) _).setCell (by show _≤w.heap.size+1; omega) _⟩
 · rw [hlt] at o1
   have hI:sqrtI al ah=⟨12,0,0⟩:=by unfold sqrtI; rw [if_pos hlt]
   rw [hI]
   clear hI hR hlt cX cO R
   have cF:=Lib.hid (fun w hc hf=>fail_any 0 12 pb po w hc hf)
   have H0:=Lib.hid hc
   have H1:=Lib.hid h1
   have H2:=Lib.hid h2
   clear h1 h2 hc hf hr la ha
   go_enter Tryz.func30,Tryz.ntmps30
   go_wp2_with fail
   refine (cT.out _ H1.out).mono ?_
   rintro r w1 ⟨rfl,hb⟩
   have H3:=Lib.hid ((hb.cell (p:=⟨pb,po,none⟩) (by show pb < _; simp; omega)).trans H1.out)
   have H4:=Lib.hid ((hb.frozen (p:=⟨pb,po,none⟩) (by show pb < _; simp; omega)).trans H2.out)
   obtain⟨z1,z3,c1,f1,c3,f3,B⟩:=after2 hb
   have HB:=Lib.hid B
   clear hb B H1 H2
   go_wp2_with fail
   refine (cF.out _ H3.out H4.out).mono ?_
   rintro r w2 ⟨rfl,hp⟩
   have HP:=Lib.hid (Put.after HB.out hp)
   obtain⟨x3,d3,g3⟩:=hp.block (k:=w.heap.size+1) z1 (by show ¬ pb=w.heap.size+1; omega) c3 f3
   clear hp H3 H4 HB c1 f1 c3 f3
   go_wp2
   exact bodyPost_ret (v:=.agg #[.float .f64 0,.float .f64 0]) (by simp [results,Tryz.results30,go_sem,d3]) rfl ⟨rfl,(Below.setCell HP.out (by show _≤w.heap.size+1; omega) _).setCell (by show _≤w.heap.size+1; omega) _⟩
theorem cSqrt_any (e:Int) (al ah pb po:Nat) (w:World) (la:al < 18446744073709551616) (ha:ah < 18446744073709551616) (hc:w.cell? ⟨pb,po,none⟩=some (.int .i64 e)) (hf:w.frozen? ⟨pb,po,none⟩=false) :
   Calls Tryz.prog 30 #[.pointer (some ⟨pb,po,none⟩),.agg #[al,ah]] w (Told (stepI e (ivR al ah) (sqrtI al ah)) pb po w):=by
 cases he:(e == 0)
 · rw [stepI_err _ _ _ he]; exact cSqrt_err e al ah pb po w hc he
 · obtain rfl:e=0:=by simpa using he
   cases hr:ivR al ah
   · rw [stepI_bad]; exact cSqrt_bad1 al ah pb po w la ha hc hf hr
   · rw [stepI_ok]; exact cSqrt_ok al ah pb po w la ha hc hf hr
end
section
open Go.RowKit
attribute [local go_sem] run_store_float
def div1 (al ah bl bh:Nat):Res:=tightR (divW (lowOf al ah bl) (endW bl bh (leB 0 (lowOf al ah bl))) false) (divE (lowOf al ah bl) (endW bl bh (leB 0 (lowOf al ah bl))) false) (divW (highOf al ah bl) (endW bl bh (ltB (highOf al ah bl) 0)) true) (divE (highOf al ah bl) (endW bl bh (ltB (highOf al ah bl) 0)) true)
def divI (al ah bl bh:Nat):Res:=if hasB bl bh 0 then ⟨11,0,0⟩ else div1 al ah bl bh
def mul1 (al ah bl bh:Nat):Res:=tightR (mulW (lowOf al ah bl) (endW bl bh (ltB (lowOf al ah bl) 0)) false) (mulE (lowOf al ah bl) (endW bl bh (ltB (lowOf al ah bl) 0)) false) (mulW (highOf al ah bl) (endW bl bh (leB 0 (highOf al ah bl))) true) (mulE (highOf al ah bl) (endW bl bh (leB 0 (highOf al ah bl))) true)
def mulJ (al ah bl bh:Nat):Res:=if crossB bl bh then mul1 bl bh al ah else mul1 al ah bl bh
def joinR (r s:Res):Res:=if r.e=0 then (if s.e=0 then ⟨0,minW r.lo s.lo,maxW r.hi s.hi⟩ else ⟨s.e,0,0⟩) else ⟨r.e,0,0⟩
def mulI (al ah bl bh:Nat):Res:=if crossB al ah&&crossB bl bh then joinR (mulJ al al bl bh) (mulJ ah ah bl bh) else mulJ al ah bl bh
theorem low_right (al ah bl:Nat) (la:al < 18446744073709551616) (ha:ah < 18446744073709551616) (ra:rightB al=true) (rh:rightB ah=true):lowOf al ah bl < 18446744073709551616∧rightB (lowOf al ah bl)=true∧highOf al ah bl < 18446744073709551616∧rightB (highOf al ah bl)=true:=by
 unfold lowOf highOf
 cases ltB bl 0
 · exact ⟨la,ra,ha,rh⟩
 · exact ⟨ha,rh,la,ra⟩
structure Stood (w:World) (pb po k bl bh m:Nat) (v:World):Prop where
 base:Below w.heap.size w v
 pc:v.cell? ⟨pb,po,none⟩=some (.int .i64 0)
 pf:v.frozen? ⟨pb,po,none⟩=false
 kz:k < v.heap.size
 kc:∀ i,v.cell? ⟨k,i,none⟩=#[Value.float .f64 bl,Value.float .f64 bh][i]?
 kf:∀ i,v.frozen? ⟨k,i,none⟩=false
 mz:m < v.heap.size
 mc:∀ i,v.cell? ⟨m,i,none⟩=#[Value.float .f64 0,Value.float .f64 0][i]?
 mf:∀ i,v.frozen? ⟨m,i,none⟩=false
theorem Stood.below {w:World} {pb po k bl bh m:Nat} {v v':World} (h:Stood w pb po k bl bh m v) (hb:Below v.heap.size v v'):Stood w pb po k bl bh m v':=by
 obtain⟨a1,a2,a3⟩:=keepB hb h.kz h.kc h.kf
 obtain⟨b1,b2,b3⟩:=keepB hb h.mz h.mc h.mf
 exact ⟨h.base.trans (hb.mono h.base.size),(hb.cell (cell_lt h.pc)).trans h.pc,(hb.frozen (cell_lt h.pc)).trans h.pf,a1,a2,a3,b1,b2,b3⟩
theorem Stood.drew {w:World} {pb po k bl bh m:Nat} {v:World} (h:Stood w pb po k bl bh m v):Stood w pb po k bl bh m v.drew:=⟨h.base.drew,h.pc,h.pf,h.kz,h.kc,h.kf,h.mz,h.mc,h.mf⟩
theorem end_lt (bl bh:Nat) (up:Bool) (lb:bl < 18446744073709551616) (hb:bh < 18446744073709551616):endW bl bh up < 18446744073709551616:=by
 unfold endW
 cases up
 · exact lb
 · exact hb
theorem cDiv_err (e:Int) (al ah bl bh pb po:Nat) (w:World) (hc:w.cell? ⟨pb,po,none⟩=some (.int .i64 e)) (he:(e == 0)=false) :
   Calls Tryz.prog 60 #[.pointer (some ⟨pb,po,none⟩),.agg #[al,ah],.agg #[bl,bh]] w (Told ⟨e,0,0⟩ pb po w):=by
 have hz:pb < w.heap.size:=cell_lt hc
 have h1:(((w.alloc (.cells #[al,ah] 31)).alloc (.cells #[bl,bh] 31)).alloc (.cells #[(),()] 31)).cell? ⟨pb,po,none⟩=some (.int .i64 e):=((bel3 w _ _ _).cell hz).trans hc
 have cT:=Lib.hid (fun w hc=>takes_err al ah e pb po w hc he)
 have H1:=Lib.hid h1
 have HC:=Lib.hid hc
 clear h1 hc he hz
 go_enter Tryz.func60,Tryz.ntmps60
 go_wp2_with fail
 refine (cT.out _ H1.out).mono ?_
 rintro r w1 ⟨rfl,hb⟩
 obtain⟨z1,z2,z3,c1,f1,c2,f2,c3,f3,B⟩:=after3 hb
 have HB:=Lib.hid B
 clear hb B c1 f1 c2 f2
 go_wp2
 exact bodyPost_ret (v:=.agg #[.float .f64 0,.float .f64 0]) (by simp [results,Tryz.results60,go_sem,c3]) rfl ⟨rfl,Put.of_below HC.out ((HB.out.setCell (by show _≤w.heap.size+1+1; omega) _).setCell (by show _≤w.heap.size+1+1; omega) _)⟩
theorem cDiv_bad1 (al ah bl bh pb po:Nat) (w:World) (la:al < 18446744073709551616) (ha:ah < 18446744073709551616) (hc:w.cell? ⟨pb,po,none⟩=some (.int .i64 0)) (hf:w.frozen? ⟨pb,po,none⟩=false) (hr:ivR al ah=false) :
   Calls Tryz.prog 60 #[.pointer (some ⟨pb,po,none⟩),.agg #[al,ah],.agg #[bl,bh]] w (Told ⟨20,0,0⟩ pb po w):=by
 have hz:pb < w.heap.size:=cell_lt hc
 have h1:(((w.alloc (.cells #[al,ah] 31)).alloc (.cells #[bl,bh] 31)).alloc (.cells #[(),()] 31)).cell? ⟨pb,po,none⟩=some (.int .i64 0):=((bel3 w _ _ _).cell hz).trans hc
 have h2:(((w.alloc (.cells #[al,ah] 31)).alloc (.cells #[bl,bh] 31)).alloc (.cells #[(),()] 31)).frozen? ⟨pb,po,none⟩=false:=((bel3 w _ _ _).frozen hz).trans hf
 have cT:=Lib.hid (fun w hc hf=>takes_bad al ah pb po w la ha hc hf hr)
 have H1:=Lib.hid h1
 have H2:=Lib.hid h2
 clear h1 h2 hc hf hr la ha
 go_enter Tryz.func60,Tryz.ntmps60
 go_wp2_with fail
 refine (cT.out _ H1.out H2.out).mono ?_
 rintro r w1 ⟨rfl,hp⟩
 have HP:=Lib.hid (Put.after (bel3 w _ _ _) hp)
 obtain⟨z3,c3,f3⟩:=hp.block (k:=w.heap.size+1+1) (by simp) (by show ¬ pb=w.heap.size+1+1; omega) (fun i=>World.cell?_alloc_at _ _ _ _ (by simp)) (fun i=>World.frozen?_alloc_at _ _ _ _ (by simp))
 clear hp
 go_wp2
 exact bodyPost_ret (v:=.agg #[.float .f64 0,.float .f64 0]) (by simp [results,Tryz.results60,go_sem,c3]) rfl ⟨rfl,(Below.setCell HP.out (by show _≤w.heap.size+1+1; omega) _).setCell (by show _≤w.heap.size+1+1; omega) _⟩
theorem cDiv_bad2 (al ah bl bh pb po:Nat) (w:World) (la:al < 18446744073709551616) (ha:ah < 18446744073709551616) (lb:bl < 18446744073709551616) (hb:bh < 18446744073709551616) (hc:w.cell? ⟨pb,po,none⟩=some (.int .i64 0)) (hf:w.frozen? ⟨pb,po,none⟩=false) (hr:ivR al ah=true) (hs:ivR bl bh=false) :
   Calls Tryz.prog 60 #[.pointer (some ⟨pb,po,none⟩),.agg #[al,ah],.agg #[bl,bh]] w (Told ⟨20,0,0⟩ pb po w):=by
 have hz:pb < w.heap.size:=cell_lt hc
 have h1:(((w.alloc (.cells #[al,ah] 31)).alloc (.cells #[bl,bh] 31)).alloc (.cells #[(),()] 31)).cell? ⟨pb,po,none⟩=some (.int .i64 0):=((bel3 w _ _ _).cell hz).trans hc
 have h2:(((w.alloc (.cells #[al,ah] 31)).alloc (.cells #[bl,bh] 31)).alloc (.cells #[(),()] 31)).frozen? ⟨pb,po,none⟩=false:=((bel3 w _ _ _).frozen hz).trans hf
 have cT:=Lib.hid (fun w hc=>takes_ok al ah pb po w la ha hc hr)
 have cU:=Lib.hid (fun w hc hf=>takes_bad bl bh pb po w lb hb hc hf hs)
 have H1:=Lib.hid h1
 have H2:=Lib.hid h2
 clear h1 h2 hc hf hr hs la ha lb hb
 go_enter Tryz.func60,Tryz.ntmps60
 go_wp2_with fail
 refine (cT.out _ H1.out).mono ?_
 rintro r w1 ⟨rfl,hb⟩
 have H3:=Lib.hid ((hb.cell (p:=⟨pb,po,none⟩) (by show pb < _; simp; omega)).trans H1.out)
 have H4:=Lib.hid ((hb.frozen (p:=⟨pb,po,none⟩) (by show pb < _; simp; omega)).trans H2.out)
 obtain⟨z1,z2,z3,c1,f1,c2,f2,c3,f3,B⟩:=after3 hb
 have HB:=Lib.hid B
 clear hb B H1 H2 c1 f1
 go_wp2_with fail
 refine (cU.out _ H3.out H4.out).mono ?_
 rintro r w2 ⟨rfl,hp⟩
 have HP:=Lib.hid (Put.after HB.out hp)
 obtain⟨y3,d3,g3⟩:=hp.block (k:=w.heap.size+1+1) z1 (by show ¬ pb=w.heap.size+1+1; omega) c3 f3
 clear hp c2 f2 c3 f3 H3 H4 HB
 go_wp2
 exact bodyPost_ret (v:=.agg #[.float .f64 0,.float .f64 0]) (by simp [results,Tryz.results60,go_sem,d3]) rfl ⟨rfl,(Below.setCell HP.out (by show _≤w.heap.size+1+1; omega) _).setCell (by show _≤w.heap.size+1+1; omega) _⟩
theorem cDiv_ok (al ah bl bh pb po:Nat) (w:World) (la:al < 18446744073709551616) (ha:ah < 18446744073709551616) (lb:bl < 18446744073709551616) (hb:bh < 18446744073709551616) (hc:w.cell? ⟨pb,po,none⟩=some (.int .i64 0)) (hf:w.frozen? ⟨pb,po,none⟩=false) (hr:ivR al ah=true) (hs:ivR bl bh=true) :
   Calls Tryz.prog 60 #[.pointer (some ⟨pb,po,none⟩),.agg #[al,ah],.agg #[bl,bh]] w (Told (divI al ah bl bh) pb po w):=by
 have hz:pb < w.heap.size:=cell_lt hc
 have h1:(((w.alloc (.cells #[al,ah] 31)).alloc (.cells #[bl,bh] 31)).alloc (.cells #[(),()] 31)).cell? ⟨pb,po,none⟩=some (.int .i64 0):=((bel3 w _ _ _).cell hz).trans hc
 have h2:(((w.alloc (.cells #[al,ah] 31)).alloc (.cells #[bl,bh] 31)).alloc (.cells #[(),()] 31)).frozen? ⟨pb,po,none⟩=false:=((bel3 w _ _ _).frozen hz).trans hf
 have cT:=Lib.hid (fun w hc=>takes_ok al ah pb po w la ha hc hr)
 have cU:=Lib.hid (fun w hc=>takes_ok bl bh pb po w lb hb hc hs)
 have cH:=Lib.hid (fun w=>has_any bl bh 0 w lb hb)
 have cO:=Lib.hid (fun w=>inOrder_any al ah bl bh w lb (ivR_parts hs).1)
 obtain⟨x1,x2,y1,y2⟩:=low_right al ah bl la ha (ivR_parts hr).1 (ivR_parts hr).2.1
 obtain⟨R,hR⟩:∃ R,R=div1 al ah bl bh:=⟨_,rfl⟩
 have cX:Hid (∀ w,w.cell? ⟨pb,po,none⟩=some (.int .i64 0)→w.frozen? ⟨pb,po,none⟩=false→Calls Tryz.prog 69 #[.pointer (some ⟨pb,po,none⟩),.func (.func 105) #[.agg #[.float .f64 (lowOf al ah bl),.float .f64 (endW bl bh (leB 0 (lowOf al ah bl)))]] #[],.func (.func 105) #[.agg #[.float .f64 (highOf al ah bl),.float .f64 (endW bl bh (ltB (highOf al ah bl) 0))]] #[]] w (Told R pb po w)):=by
   intro w hc hf
   rw [hR]
   exact tight_quotient _ _ _ _ pb po w _ _ (Lib.hid (fun w=>end_quotient _ _ false w x1 (end_lt bl bh _ lb hb))) (Lib.hid (fun w=>end_quotient _ _ true w y1 (end_lt bl bh _ lb hb))) hc hf
 have o1:=ge_zero _ x1 x2
 have o2:=lt_zero _ y1 y2
 clear x1 x2 y1 y2
 generalize lowOf al ah bl=x at cO cX o1
 generalize highOf al ah bl=y at cO cX o2
 rw [←o1,←o2] at cX
 clear o1 o2
 cases hh:hasB bl bh 0
 case true =>
   have hI:divI al ah bl bh=⟨11,0,0⟩:=by unfold divI; rw [if_pos hh]
   rw [hI]
   rw [hh] at cH
   clear hI hR hh cX cO
   have cF:=Lib.hid (fun w hc hf=>fail_any 0 11 pb po w hc hf)
   have H0:=Lib.hid hc
   have H1:=Lib.hid h1
   have H2:=Lib.hid h2
   clear h1 h2 hc hf hr hs la ha lb hb
   go_enter Tryz.func60,Tryz.ntmps60
   go_wp2_with fail
   refine (cT.out _ H1.out).mono ?_
   rintro r w1 ⟨rfl,hb⟩
   have H3:=Lib.hid ((hb.cell (p:=⟨pb,po,none⟩) (by show pb < _; simp; omega)).trans H1.out)
   have H4:=Lib.hid ((hb.frozen (p:=⟨pb,po,none⟩) (by show pb < _; simp; omega)).trans H2.out)
   obtain⟨z1,z2,z3,c1,f1,c2,f2,c3,f3,B⟩:=after3 hb
   have HB:=Lib.hid B
   clear hb B H1 H2
   go_wp2_with fail
   refine (cU.out _ H3.out).mono ?_
   rintro r w2 ⟨rfl,hb⟩
   have H5:=Lib.hid ((hb.cell (p:=⟨pb,po,none⟩) (by show pb < _; omega)).trans H3.out)
   have H6:=Lib.hid ((hb.frozen (p:=⟨pb,po,none⟩) (by show pb < _; omega)).trans H4.out)
   obtain⟨y1,c1',f1'⟩:=keepB hb z3 c1 f1
   obtain⟨y2,c2',f2'⟩:=keepB hb z2 c2 f2
   obtain⟨y3,c3',f3'⟩:=keepB hb z1 c3 f3
   have HB2:=Lib.hid (HB.out.trans (hb.mono HB.out.size))
   clear hb HB H3 H4 z1 z2 z3 c1 f1 c2 f2 c3 f3
   go_wp2_with fail
   refine (cH.out _).mono ?_
   rintro r w3 ⟨rfl,hb⟩
   have H7:=Lib.hid ((hb.cell (p:=⟨pb,po,none⟩) (by show pb < _; omega)).trans H5.out)
   have H8:=Lib.hid ((hb.frozen (p:=⟨pb,po,none⟩) (by show pb < _; omega)).trans H6.out)
   obtain⟨z3,c3,f3⟩:=keepB hb y3 c3' f3'
   have HB3:=Lib.hid (HB2.out.trans (hb.mono HB2.out.size))
   clear hb HB2 H5 H6 y1 y2 y3 c1' f1' c2' f2' c3' f3'
   go_wp2_with fail
   refine (cF.out _ H7.out H8.out).mono ?_
   rintro r w4 ⟨rfl,hp⟩
   have HP:=Lib.hid (Put.after HB3.out hp)
   obtain⟨x3,d3,g3⟩:=hp.block (k:=w.heap.size+1+1) z3 (by show ¬ pb=w.heap.size+1+1; omega) c3 f3
   clear hp H7 H8 HB3 z3 c3 f3
   go_wp2
   exact bodyPost_ret (v:=.agg #[.float .f64 0,.float .f64 0]) (by simp [results,Tryz.results60,go_sem,d3]) rfl ⟨rfl,(Below.setCell HP.out (by show _≤w.heap.size+1+1; omega) _).setCell (by show _≤w.heap.size+1+1; omega) _⟩
 have hI:divI al ah bl bh=R:=by rw [hR]; unfold divI; rw [if_neg (by rw [hh]; exact Bool.false_ne_true)]
 rw [hI]
 rw [hh] at cH
 clear hI hR hh
 have H0:=Lib.hid hc
 have H1:=Lib.hid h1
 have H2:=Lib.hid h2
 clear h1 h2 hc hf hr hs la ha lb hb
 go_enter Tryz.func60,Tryz.ntmps60
 go_wp2_with fail
 refine (cT.out _ H1.out).mono ?_
 rintro r w1 ⟨rfl,hb⟩
 have H3:=Lib.hid ((hb.cell (p:=⟨pb,po,none⟩) (by show pb < _; simp; omega)).trans H1.out)
 have H4:=Lib.hid ((hb.frozen (p:=⟨pb,po,none⟩) (by show pb < _; simp; omega)).trans H2.out)
 obtain⟨z1,z2,z3,c1,f1,c2,f2,c3,f3,B⟩:=after3 hb
 have HB:=Lib.hid B
 clear hb B H1 H2
 go_wp2_with fail
 refine (cU.out _ H3.out).mono ?_
 rintro r w2 ⟨rfl,hb⟩
 have H5:=Lib.hid ((hb.cell (p:=⟨pb,po,none⟩) (by show pb < _; omega)).trans H3.out)
 have H6:=Lib.hid ((hb.frozen (p:=⟨pb,po,none⟩) (by show pb < _; omega)).trans H4.out)
 obtain⟨y1,c1',f1'⟩:=keepB hb z3 c1 f1
 obtain⟨y2,c2',f2'⟩:=keepB hb z2 c2 f2
 obtain⟨y3,c3',f3'⟩:=keepB hb z1 c3 f3
 have HB2:=Lib.hid (HB.out.trans (hb.mono HB.out.size))
 clear hb HB H3 H4 z1 z2 z3 c1 f1 c2 f2 c3 f3
 go_wp2_with fail
 refine (cH.out _).mono ?_
 rintro r w3 ⟨rfl,hb⟩
 have H7:=Lib.hid ((hb.cell (p:=⟨pb,po,none⟩) (by show pb < _; omega)).trans H5.out)
 have H8:=Lib.hid ((hb.frozen (p:=⟨pb,po,none⟩) (by show pb < _; omega)).trans H6.out)
 obtain⟨z1,c1,f1⟩:=keepB hb y1 c1' f1'
 obtain⟨z2,c2,f2⟩:=keepB hb y2 c2' f2'
 obtain⟨z3,c3,f3⟩:=keepB hb y3 c3' f3'
 have HB3:=Lib.hid (HB2.out.trans (hb.mono HB2.out.size))
 clear hb HB2 H5 H6 y1 y2 y3 c1' f1' c2' f2' c3' f3'
 go_wp2_with fail
 refine (cO.out _).mono ?_
 rintro r w4 ⟨rfl,hb⟩
 have H5:=Lib.hid ((hb.cell (p:=⟨pb,po,none⟩) (by show pb < _; omega)).trans H7.out)
 have H6:=Lib.hid ((hb.frozen (p:=⟨pb,po,none⟩) (by show pb < _; omega)).trans H8.out)
 obtain⟨y2,c2',f2'⟩:=keepB hb z2 c2 f2
 obtain⟨y3,c3',f3'⟩:=keepB hb z3 c3 f3
 have HB4:=Lib.hid (HB3.out.trans (hb.mono HB3.out.size))
 clear hb HB3 H7 H8 z1 z2 z3 c1 f1 c2 f2 c3 f3
 have k1:=c2' 0
 have k2:=c2' 1
 have J:=Lib.hid (Stood.drew ⟨HB4.out,H5.out,H6.out,y2,c2',f2',y3,c3',f3'⟩)
 clear HB4 H5 H6 y2 c2' f2' y3 c3' f3'
 go_wp2_with fail
 go_region_held3 (fun w'=>w'.cell? ⟨w.heap.size+1,0,none⟩=some (.float .f64 bl)∧w'.cell? ⟨w.heap.size+1,1,none⟩=some (.float .f64 bh)) (go_keep)
   (first
     | (go_at_call 75; refine (endOf_any _ _ _ _).mono ?_; rintro r w5 ⟨rfl,hb⟩; replace J:=Lib.hid (J.out.below hb); clear hb k1 k2; have k1:=J.out.kc 0; have k2:=J.out.kc 1)
     | (go_at_call 69; refine (cX.out _ J.out.pc J.out.pf).mono ?_; rintro r w6 ⟨rfl,hp⟩; have HP:=Lib.hid (Put.after J.out.base hp); clear k1 k2; obtain⟨x1,d1,g1⟩:=hp.block (k:=w.heap.size+1) J.out.kz (by show ¬ pb=w.heap.size+1; omega) J.out.kc J.out.kf; obtain⟨x3,d3,g3⟩:=hp.block (k:=w.heap.size+1+1) J.out.mz (by show ¬ pb=w.heap.size+1+1; omega) J.out.mc J.out.mf; have k1:=d1 0; have k2:=d1 1; clear hp))
 all_goals go_wp2
 all_goals exact bodyPost_ret (v:=.agg #[.float .f64 R.lo,.float .f64 R.hi]) (by simp [results,Tryz.results60,go_sem,d3]) rfl ⟨rfl,(Below.setCell HP.out (by show _≤w.heap.size+1+1; omega) _).setCell (by show _≤w.heap.size+1+1; omega) _⟩
theorem cDiv_any (e:Int) (al ah bl bh pb po:Nat) (w:World) (la:al < 18446744073709551616) (ha:ah < 18446744073709551616) (lb:bl < 18446744073709551616) (hb:bh < 18446744073709551616) (hc:w.cell? ⟨pb,po,none⟩=some (.int .i64 e)) (hf:w.frozen? ⟨pb,po,none⟩=false) :
   Calls Tryz.prog 60 #[.pointer (some ⟨pb,po,none⟩),.agg #[al,ah],.agg #[bl,bh]] w (Told (stepI e (ivR al ah&&ivR bl bh) (divI al ah bl bh)) pb po w):=by
 cases he:(e == 0)
 · rw [stepI_err _ _ _ he]; exact cDiv_err e al ah bl bh pb po w hc he
 · obtain rfl:e=0:=by simpa using he
   cases hr:ivR al ah
   · rw [Bool.false_and,stepI_bad]; exact cDiv_bad1 al ah bl bh pb po w la ha hc hf hr
   · cases hs:ivR bl bh
     · rw [Bool.and_false,stepI_bad]; exact cDiv_bad2 al ah bl bh pb po w la ha lb hb hc hf hr hs
     · rw [Bool.and_true,stepI_ok]; exact cDiv_ok al ah bl bh pb po w la ha lb hb hc hf hr hs
end
section
open Go.RowKit
attribute [local go_sem] run_store_float
theorem put2 {v:World} {b:Nat} {u0 u1:Value} (h:∀ i,v.cell? ⟨b,i,none⟩=#[u0,u1][i]?) (x y:Value):∀ i,((v.setCell ⟨b,0,none⟩ x).setCell ⟨b,1,none⟩ y).cell? ⟨b,i,none⟩=#[x,y][i]?:=by
 intro i
 have h1:(v.setCell ⟨b,0,none⟩ x).cell? ⟨b,1,none⟩=some u1:=(World.cell?_setCell_other _ _ _ _ (by simp)).trans (h 1)
 match i with
 | 0=>rw [World.cell?_setCell_other _ _ _ _ (by simp)]; exact World.cell?_setCell_same _ _ _ (h 0)
 | 1=>exact World.cell?_setCell_same _ _ _ h1
 | n+2 =>
   rw [World.cell?_setCell_other _ _ _ _ (by simp),World.cell?_setCell_other _ _ _ _ (by simp),h]
   rfl
theorem other2 (v:World) (b:Nat) (x y:Value) (q:Addr) (h:b≠q.block):((v.setCell ⟨b,0,none⟩ x).setCell ⟨b,1,none⟩ y).cell? q=v.cell? q:=by
 rw [World.cell?_setCell_other _ _ _ _ (fun e=>h (by rw [←e])),World.cell?_setCell_other _ _ _ _ (fun e=>h (by rw [←e]))]
theorem Stood.swap {w:World} {pb po k bl bh m:Nat} {v:World} (h:Stood w pb po k bl bh m v) {a:Nat} (al ah:Nat) (n1:a≠k) (n2:a≠m) (n3:k≠m) (n4:a≠pb) (n5:k≠pb) (ga:w.heap.size≤a) (gk:w.heap.size≤k) :
   Stood w pb po k al ah m ((((v.setCell ⟨a,0,none⟩ (.float .f64 bl)).setCell ⟨a,1,none⟩ (.float .f64 bh)).setCell ⟨k,0,none⟩ (.float .f64 al)).setCell ⟨k,1,none⟩ (.float .f64 ah)) where
 base:=(((h.base.setCell ga _).setCell ga _).setCell gk _).setCell gk _
 pc:=by rw [other2 _ _ _ _ _ n5,other2 _ _ _ _ _ n4]; exact h.pc
 pf:=by rw [frozen_set,frozen_set,frozen_set,frozen_set]; exact h.pf
 kz:=by rw [size_set,size_set,size_set,size_set]; exact h.kz
 kc:=put2 (fun i=>(other2 _ _ _ _ _ n1).trans (h.kc i)) _ _
 kf:=fun i=>by rw [frozen_set,frozen_set,frozen_set,frozen_set]; exact h.kf i
 mz:=by rw [size_set,size_set,size_set,size_set]; exact h.mz
 mc:=fun i=>by rw [other2 _ _ _ _ _ n3,other2 _ _ _ _ _ n2]; exact h.mc i
 mf:=fun i=>by rw [frozen_set,frozen_set,frozen_set,frozen_set]; exact h.mf i
theorem cMul_err (e:Int) (al ah bl bh pb po:Nat) (w:World) (hc:w.cell? ⟨pb,po,none⟩=some (.int .i64 e)) (he:(e == 0)=false) :
   Calls Tryz.prog 32 #[.pointer (some ⟨pb,po,none⟩),.agg #[al,ah],.agg #[bl,bh]] w (Told ⟨e,0,0⟩ pb po w):=by
 have hz:pb < w.heap.size:=cell_lt hc
 have h1:(((w.alloc (.cells #[al,ah] 31)).alloc (.cells #[bl,bh] 31)).alloc (.cells #[(),()] 31)).cell? ⟨pb,po,none⟩=some (.int .i64 e):=((bel3 w _ _ _).cell hz).trans hc
 have cT:=Lib.hid (fun w hc=>takes_err al ah e pb po w hc he)
 have H1:=Lib.hid h1
 have HC:=Lib.hid hc
 clear h1 hc he hz
 go_enter Tryz.func32,Tryz.ntmps32
 go_wp2_with fail
 refine (cT.out _ H1.out).mono ?_
 rintro r w1 ⟨rfl,hb⟩
 obtain⟨z1,z2,z3,c1,f1,c2,f2,c3,f3,B⟩:=after3 hb
 have HB:=Lib.hid B
 clear hb B c1 f1 c2 f2
 go_wp2
 exact bodyPost_ret (v:=.agg #[.float .f64 0,.float .f64 0]) (by simp [results,Tryz.results32,go_sem,c3]) rfl ⟨rfl,Put.of_below HC.out ((HB.out.setCell (by show _≤w.heap.size+1+1; omega) _).setCell (by show _≤w.heap.size+1+1; omega) _)⟩
theorem cMul_bad1 (al ah bl bh pb po:Nat) (w:World) (la:al < 18446744073709551616) (ha:ah < 18446744073709551616) (hc:w.cell? ⟨pb,po,none⟩=some (.int .i64 0)) (hf:w.frozen? ⟨pb,po,none⟩=false) (hr:ivR al ah=false) :
   Calls Tryz.prog 32 #[.pointer (some ⟨pb,po,none⟩),.agg #[al,ah],.agg #[bl,bh]] w (Told ⟨20,0,0⟩ pb po w):=by
 have hz:pb < w.heap.size:=cell_lt hc
 have h1:(((w.alloc (.cells #[al,ah] 31)).alloc (.cells #[bl,bh] 31)).alloc (.cells #[(),()] 31)).cell? ⟨pb,po,none⟩=some (.int .i64 0):=((bel3 w _ _ _).cell hz).trans hc
 have h2:(((w.alloc (.cells #[al,ah] 31)).alloc (.cells #[bl,bh] 31)).alloc (.cells #[(),()] 31)).frozen? ⟨pb,po,none⟩=false:=((bel3 w _ _ _).frozen hz).trans hf
 have cT:=Lib.hid (fun w hc hf=>takes_bad al ah pb po w la ha hc hf hr)
 have H1:=Lib.hid h1
 have H2:=Lib.hid h2
 clear h1 h2 hc hf hr la ha
 go_enter Tryz.func32,Tryz.ntmps32
 go_wp2_with fail
 refine (cT.out _ H1.out H2.out).mono ?_
 rintro r w1 ⟨rfl,hp⟩
 have HP:=Lib.hid (Put.after (bel3 w _ _ _) hp)
 obtain⟨z3,c3,f3⟩:=hp.block (k:=w.heap.size+1+1) (by simp) (by show ¬ pb=w.heap.size+1+1; omega) (fun i=>World.cell?_alloc_at _ _ _ _ (by simp)) (fun i=>World.frozen?_alloc_at _ _ _ _ (by simp))
 clear hp
 go_wp2
 exact bodyPost_ret (v:=.agg #[.float .f64 0,.float .f64 0]) (by simp [results,Tryz.results32,go_sem,c3]) rfl ⟨rfl,(Below.setCell HP.out (by show _≤w.heap.size+1+1; omega) _).setCell (by show _≤w.heap.size+1+1; omega) _⟩
theorem cMul_bad2 (al ah bl bh pb po:Nat) (w:World) (la:al < 18446744073709551616) (ha:ah < 18446744073709551616) (lb:bl < 18446744073709551616) (hb:bh < 18446744073709551616) (hc:w.cell? ⟨pb,po,none⟩=some (.int .i64 0)) (hf:w.frozen? ⟨pb,po,none⟩=false) (hr:ivR al ah=true) (hs:ivR bl bh=false) :
   Calls Tryz.prog 32 #[.pointer (some ⟨pb,po,none⟩),.agg #[al,ah],.agg #[bl,bh]] w (Told ⟨20,0,0⟩ pb po w):=by
 have hz:pb < w.heap.size:=cell_lt hc
 have h1:(((w.alloc (.cells #[al,ah] 31)).alloc (.cells #[bl,bh] 31)).alloc (.cells #[(),()] 31)).cell? ⟨pb,po,none⟩=some (.int .i64 0):=((bel3 w _ _ _).cell hz).trans hc
 have h2:(((w.alloc (.cells #[al,ah] 31)).alloc (.cells #[bl,bh] 31)).alloc (.cells #[(),()] 31)).frozen? ⟨pb,po,none⟩=false:=((bel3 w _ _ _).frozen hz).trans hf
 have cT:=Lib.hid (fun w hc=>takes_ok al ah pb po w la ha hc hr)
 have cU:=Lib.hid (fun w hc hf=>takes_bad bl bh pb po w lb hb hc hf hs)
 have H1:=Lib.hid h1
 have H2:=Lib.hid h2
 clear h1 h2 hc hf hr hs la ha lb hb
 go_enter Tryz.func32,Tryz.ntmps32
 go_wp2_with fail
 refine (cT.out _ H1.out).mono ?_
 rintro r w1 ⟨rfl,hb⟩
 have H3:=Lib.hid ((hb.cell (p:=⟨pb,po,none⟩) (by show pb < _; simp; omega)).trans H1.out)
 have H4:=Lib.hid ((hb.frozen (p:=⟨pb,po,none⟩) (by show pb < _; simp; omega)).trans H2.out)
 obtain⟨z1,z2,z3,c1,f1,c2,f2,c3,f3,B⟩:=after3 hb
 have HB:=Lib.hid B
 clear hb B H1 H2 c1 f1
 go_wp2_with fail
 refine (cU.out _ H3.out H4.out).mono ?_
 rintro r w2 ⟨rfl,hp⟩
 have HP:=Lib.hid (Put.after HB.out hp)
 obtain⟨y3,d3,g3⟩:=hp.block (k:=w.heap.size+1+1) z1 (by show ¬ pb=w.heap.size+1+1; omega) c3 f3
 clear hp c2 f2 c3 f3 H3 H4 HB
 go_wp2
 exact bodyPost_ret (v:=.agg #[.float .f64 0,.float .f64 0]) (by simp [results,Tryz.results32,go_sem,d3]) rfl ⟨rfl,(Below.setCell HP.out (by show _≤w.heap.size+1+1; omega) _).setCell (by show _≤w.heap.size+1+1; omega) _⟩
theorem cMul_ff (al ah bl bh pb po:Nat) (w:World) (la:al < 18446744073709551616) (ha:ah < 18446744073709551616) (lb:bl < 18446744073709551616) (hb:bh < 18446744073709551616) (hc:w.cell? ⟨pb,po,none⟩=some (.int .i64 0)) (hf:w.frozen? ⟨pb,po,none⟩=false) (hr:ivR al ah=true) (hs:ivR bl bh=true) (h1':crossB al ah=false) (h2':crossB bl bh=false) :
   Calls Tryz.prog 32 #[.pointer (some ⟨pb,po,none⟩),.agg #[al,ah],.agg #[bl,bh]] w (Told (mulJ al ah bl bh) pb po w):=by
 have hz:pb < w.heap.size:=cell_lt hc
 have h1:(((w.alloc (.cells #[al,ah] 31)).alloc (.cells #[bl,bh] 31)).alloc (.cells #[(),()] 31)).cell? ⟨pb,po,none⟩=some (.int .i64 0):=((bel3 w _ _ _).cell hz).trans hc
 have h2:(((w.alloc (.cells #[al,ah] 31)).alloc (.cells #[bl,bh] 31)).alloc (.cells #[(),()] 31)).frozen? ⟨pb,po,none⟩=false:=((bel3 w _ _ _).frozen hz).trans hf
 have cT:=Lib.hid (fun w hc=>takes_ok al ah pb po w la ha hc hr)
 have cU:=Lib.hid (fun w hc=>takes_ok bl bh pb po w lb hb hc hs)
 have cC:=Lib.hid (fun w=>crosses_any al ah w la ha (ivR_parts hr).1 (ivR_parts hr).2.1)
 have cD:=Lib.hid (fun w=>crosses_any bl bh w lb hb (ivR_parts hs).1 (ivR_parts hs).2.1)
 rw [h1'] at cC
 rw [h2'] at cD
 have cO:=Lib.hid (fun w=>inOrder_any al ah bl bh w lb (ivR_parts hs).1)
 obtain⟨x1,x2,y1,y2⟩:=low_right al ah bl la ha (ivR_parts hr).1 (ivR_parts hr).2.1
 obtain⟨R,hR⟩:∃ R,R=mul1 al ah bl bh:=⟨_,rfl⟩
 have cX:Hid (∀ w,w.cell? ⟨pb,po,none⟩=some (.int .i64 0)→w.frozen? ⟨pb,po,none⟩=false→Calls Tryz.prog 69 #[.pointer (some ⟨pb,po,none⟩),.func (.func 76) #[.agg #[.float .f64 (lowOf al ah bl),.float .f64 (endW bl bh (ltB (lowOf al ah bl) 0))]] #[],.func (.func 76) #[.agg #[.float .f64 (highOf al ah bl),.float .f64 (endW bl bh (leB 0 (highOf al ah bl)))]] #[]] w (Told R pb po w)):=by
   intro w hc hf
   rw [hR]
   exact tight_product _ _ _ _ pb po w _ _ (Lib.hid (fun w=>end_product _ _ false w x1 (end_lt bl bh _ lb hb))) (Lib.hid (fun w=>end_product _ _ true w y1 (end_lt bl bh _ lb hb))) hc hf
 have o1:=lt_zero _ x1 x2
 have o2:=ge_zero _ y1 y2
 clear x1 x2 y1 y2
 generalize lowOf al ah bl=x at cO cX o1
 generalize highOf al ah bl=y at cO cX o2
 rw [←o1,←o2] at cX
 clear o1 o2
 have hI:mulJ al ah bl bh=R:=by rw [hR]; unfold mulJ; rw [if_neg (by rw [h2']; exact Bool.false_ne_true)]
 rw [hI]
 clear hI hR h1' h2'
 have H0:=Lib.hid hc
 have H1:=Lib.hid h1
 have H2:=Lib.hid h2
 clear h1 h2 hc hf hr hs la ha lb hb
 go_enter Tryz.func32,Tryz.ntmps32
 go_wp2_with fail
 refine (cT.out _ H1.out).mono ?_
 rintro r w1 ⟨rfl,hb⟩
 have H3:=Lib.hid ((hb.cell (p:=⟨pb,po,none⟩) (by show pb < _; simp; omega)).trans H1.out)
 have H4:=Lib.hid ((hb.frozen (p:=⟨pb,po,none⟩) (by show pb < _; simp; omega)).trans H2.out)
 obtain⟨z1,z2,z3,c1,f1,c2,f2,c3,f3,B⟩:=after3 hb
 have HB:=Lib.hid B
 clear hb B H1 H2
 go_wp2_with fail
 refine (cU.out _ H3.out).mono ?_
 rintro r w2 ⟨rfl,hb⟩
 have H5:=Lib.hid ((hb.cell (p:=⟨pb,po,none⟩) (by show pb < _; omega)).trans H3.out)
 have H6:=Lib.hid ((hb.frozen (p:=⟨pb,po,none⟩) (by show pb < _; omega)).trans H4.out)
 obtain⟨y1,c1',f1'⟩:=keepB hb z3 c1 f1
 obtain⟨y2,c2',f2'⟩:=keepB hb z2 c2 f2
 obtain⟨y3,c3',f3'⟩:=keepB hb z1 c3 f3
 have HB2:=Lib.hid (HB.out.trans (hb.mono HB.out.size))
 clear hb HB H3 H4 z1 z2 z3 c1 f1 c2 f2 c3 f3
 have J:Hid (Stood w pb po (w.heap.size+1) bl bh (w.heap.size+1+1) w2):=Lib.hid ⟨HB2.out,H5.out,H6.out,y2,c2',f2',y3,c3',f3'⟩
 have A2:=Lib.hid (And.intro y1 (And.intro c1' f1'))
 clear HB2 H5 H6 y1 y2 c1' f1' c2' f2' y3 c3' f3'
 have c1:=A2.out.2.1
 have c2:=J.out.kc
 go_wp2_with fail
 refine (cC.out _).mono ?_
 rintro r w3 ⟨rfl,hb⟩
 replace J:=Lib.hid (J.out.below hb)
 have A3:=Lib.hid (keepB hb A2.out.1 A2.out.2.1 A2.out.2.2)
 clear hb A2 c1 c2
 have c1:=A3.out.2.1
 have c2:=J.out.kc
 go_wp2_with fail
 refine (cD.out _).mono ?_
 rintro r w4 ⟨rfl,hb⟩
 replace J:=Lib.hid (J.out.below hb)
 have A4:=Lib.hid (keepB hb A3.out.1 A3.out.2.1 A3.out.2.2)
 clear hb A3 c1 c2
 have c1:=A4.out.2.1
 have c2:=J.out.kc
 go_wp2_with fail
 refine (cO.out _).mono ?_
 rintro r w9 ⟨rfl,hb⟩
 replace J:=Lib.hid (Stood.drew (J.out.below hb))
 clear hb A4 c1 c2
 have k1:w9.cell? ⟨w.heap.size+1,0,none⟩=_:=J.out.kc 0
 have k2:w9.cell? ⟨w.heap.size+1,1,none⟩=_:=J.out.kc 1
 go_wp2_with fail
 go_region_held3 (fun w'=>w'.cell? ⟨w.heap.size+1,0,none⟩=some (.float .f64 bl)∧w'.cell? ⟨w.heap.size+1,1,none⟩=some (.float .f64 bh)) (go_keep)
   (first
     | (go_at_call 75; refine (endOf_any _ _ _ _).mono ?_; rintro r w5 ⟨rfl,hb⟩; replace J:=Lib.hid (J.out.below hb); clear hb k1 k2; have k1:=J.out.kc 0; have k2:=J.out.kc 1)
     | (go_at_call 69; refine (cX.out _ J.out.pc J.out.pf).mono ?_; rintro r w6 ⟨rfl,hp⟩; have HP:=Lib.hid (Put.after J.out.base hp); clear k1 k2; obtain⟨x1,d1,g1⟩:=hp.block (k:=w.heap.size+1) J.out.kz (by show ¬ pb=w.heap.size+1; omega) J.out.kc J.out.kf; obtain⟨x3,d3,g3⟩:=hp.block (k:=w.heap.size+1+1) J.out.mz (by show ¬ pb=w.heap.size+1+1; omega) J.out.mc J.out.mf; have k1:=d1 0; have k2:=d1 1; clear hp))
 all_goals go_wp2
 all_goals exact bodyPost_ret (v:=.agg #[.float .f64 R.lo,.float .f64 R.hi]) (by simp [results,Tryz.results32,go_sem,d3]) rfl ⟨rfl,(Below.setCell HP.out (by show _≤w.heap.size+1+1; omega) _).setCell (by show _≤w.heap.size+1+1; omega) _⟩
theorem cMul_tf (al ah bl bh pb po:Nat) (w:World) (la:al < 18446744073709551616) (ha:ah < 18446744073709551616) (lb:bl < 18446744073709551616) (hb:bh < 18446744073709551616) (hc:w.cell? ⟨pb,po,none⟩=some (.int .i64 0)) (hf:w.frozen? ⟨pb,po,none⟩=false) (hr:ivR al ah=true) (hs:ivR bl bh=true) (h1':crossB al ah=true) (h2':crossB bl bh=false) :
   Calls Tryz.prog 32 #[.pointer (some ⟨pb,po,none⟩),.agg #[al,ah],.agg #[bl,bh]] w (Told (mulJ al ah bl bh) pb po w):=by
 have hz:pb < w.heap.size:=cell_lt hc
 have h1:(((w.alloc (.cells #[al,ah] 31)).alloc (.cells #[bl,bh] 31)).alloc (.cells #[(),()] 31)).cell? ⟨pb,po,none⟩=some (.int .i64 0):=((bel3 w _ _ _).cell hz).trans hc
 have h2:(((w.alloc (.cells #[al,ah] 31)).alloc (.cells #[bl,bh] 31)).alloc (.cells #[(),()] 31)).frozen? ⟨pb,po,none⟩=false:=((bel3 w _ _ _).frozen hz).trans hf
 have cT:=Lib.hid (fun w hc=>takes_ok al ah pb po w la ha hc hr)
 have cU:=Lib.hid (fun w hc=>takes_ok bl bh pb po w lb hb hc hs)
 have cC:=Lib.hid (fun w=>crosses_any al ah w la ha (ivR_parts hr).1 (ivR_parts hr).2.1)
 have cD:=Lib.hid (fun w=>crosses_any bl bh w lb hb (ivR_parts hs).1 (ivR_parts hs).2.1)
 rw [h1'] at cC
 rw [h2'] at cD
 have cO:=Lib.hid (fun w=>inOrder_any al ah bl bh w lb (ivR_parts hs).1)
 obtain⟨x1,x2,y1,y2⟩:=low_right al ah bl la ha (ivR_parts hr).1 (ivR_parts hr).2.1
 obtain⟨R,hR⟩:∃ R,R=mul1 al ah bl bh:=⟨_,rfl⟩
 have cX:Hid (∀ w,w.cell? ⟨pb,po,none⟩=some (.int .i64 0)→w.frozen? ⟨pb,po,none⟩=false→Calls Tryz.prog 69 #[.pointer (some ⟨pb,po,none⟩),.func (.func 76) #[.agg #[.float .f64 (lowOf al ah bl),.float .f64 (endW bl bh (ltB (lowOf al ah bl) 0))]] #[],.func (.func 76) #[.agg #[.float .f64 (highOf al ah bl),.float .f64 (endW bl bh (leB 0 (highOf al ah bl)))]] #[]] w (Told R pb po w)):=by
   intro w hc hf
   rw [hR]
   exact tight_product _ _ _ _ pb po w _ _ (Lib.hid (fun w=>end_product _ _ false w x1 (end_lt bl bh _ lb hb))) (Lib.hid (fun w=>end_product _ _ true w y1 (end_lt bl bh _ lb hb))) hc hf
 have o1:=lt_zero _ x1 x2
 have o2:=ge_zero _ y1 y2
 clear x1 x2 y1 y2
 generalize lowOf al ah bl=x at cO cX o1
 generalize highOf al ah bl=y at cO cX o2
 rw [←o1,←o2] at cX
 clear o1 o2
 have hI:mulJ al ah bl bh=R:=by rw [hR]; unfold mulJ; rw [if_neg (by rw [h2']; exact Bool.false_ne_true)]
 rw [hI]
 clear hI hR h1' h2'
 have H0:=Lib.hid hc
 have H1:=Lib.hid h1
 have H2:=Lib.hid h2
 clear h1 h2 hc hf hr hs la ha lb hb
 go_enter Tryz.func32,Tryz.ntmps32
 go_wp2_with fail
 refine (cT.out _ H1.out).mono ?_
 rintro r w1 ⟨rfl,hb⟩
 have H3:=Lib.hid ((hb.cell (p:=⟨pb,po,none⟩) (by show pb < _; simp; omega)).trans H1.out)
 have H4:=Lib.hid ((hb.frozen (p:=⟨pb,po,none⟩) (by show pb < _; simp; omega)).trans H2.out)
 obtain⟨z1,z2,z3,c1,f1,c2,f2,c3,f3,B⟩:=after3 hb
 have HB:=Lib.hid B
 clear hb B H1 H2
 go_wp2_with fail
 refine (cU.out _ H3.out).mono ?_
 rintro r w2 ⟨rfl,hb⟩
 have H5:=Lib.hid ((hb.cell (p:=⟨pb,po,none⟩) (by show pb < _; omega)).trans H3.out)
 have H6:=Lib.hid ((hb.frozen (p:=⟨pb,po,none⟩) (by show pb < _; omega)).trans H4.out)
 obtain⟨y1,c1',f1'⟩:=keepB hb z3 c1 f1
 obtain⟨y2,c2',f2'⟩:=keepB hb z2 c2 f2
 obtain⟨y3,c3',f3'⟩:=keepB hb z1 c3 f3
 have HB2:=Lib.hid (HB.out.trans (hb.mono HB.out.size))
 clear hb HB H3 H4 z1 z2 z3 c1 f1 c2 f2 c3 f3
 have J:Hid (Stood w pb po (w.heap.size+1) bl bh (w.heap.size+1+1) w2):=Lib.hid ⟨HB2.out,H5.out,H6.out,y2,c2',f2',y3,c3',f3'⟩
 have A2:=Lib.hid (And.intro y1 (And.intro c1' f1'))
 clear HB2 H5 H6 y1 y2 c1' f1' c2' f2' y3 c3' f3'
 have c1:=A2.out.2.1
 have c2:=J.out.kc
 go_wp2_with fail
 refine (cC.out _).mono ?_
 rintro r w3 ⟨rfl,hb⟩
 replace J:=Lib.hid (J.out.below hb)
 have A3:=Lib.hid (keepB hb A2.out.1 A2.out.2.1 A2.out.2.2)
 clear hb A2 c1 c2
 have c1:=A3.out.2.1
 have c2:=J.out.kc
 go_wp2_with fail
 refine (cD.out _).mono ?_
 rintro r w4 ⟨rfl,hb⟩
 replace J:=Lib.hid (J.out.below hb)
 have A4:=Lib.hid (keepB hb A3.out.1 A3.out.2.1 A3.out.2.2)
 clear hb A3 c1 c2
 have c1:=A4.out.2.1
 have c2:=J.out.kc
 go_wp2_with fail
 refine (cD.out _).mono ?_
 rintro r w5 ⟨rfl,hb⟩
 replace J:=Lib.hid (J.out.below hb)
 have A5:=Lib.hid (keepB hb A4.out.1 A4.out.2.1 A4.out.2.2)
 clear hb A4 c1 c2
 have c1:=A5.out.2.1
 have c2:=J.out.kc
 go_wp2_with fail
 refine (cO.out _).mono ?_
 rintro r w9 ⟨rfl,hb⟩
 replace J:=Lib.hid (Stood.drew (J.out.below hb))
 clear hb A5 c1 c2
 have k1:w9.cell? ⟨w.heap.size+1,0,none⟩=_:=J.out.kc 0
 have k2:w9.cell? ⟨w.heap.size+1,1,none⟩=_:=J.out.kc 1
 go_wp2_with fail
 go_region_held3 (fun w'=>w'.cell? ⟨w.heap.size+1,0,none⟩=some (.float .f64 bl)∧w'.cell? ⟨w.heap.size+1,1,none⟩=some (.float .f64 bh)) (go_keep)
   (first
     | (go_at_call 75; refine (endOf_any _ _ _ _).mono ?_; rintro r w5 ⟨rfl,hb⟩; replace J:=Lib.hid (J.out.below hb); clear hb k1 k2; have k1:=J.out.kc 0; have k2:=J.out.kc 1)
     | (go_at_call 69; refine (cX.out _ J.out.pc J.out.pf).mono ?_; rintro r w6 ⟨rfl,hp⟩; have HP:=Lib.hid (Put.after J.out.base hp); clear k1 k2; obtain⟨x1,d1,g1⟩:=hp.block (k:=w.heap.size+1) J.out.kz (by show ¬ pb=w.heap.size+1; omega) J.out.kc J.out.kf; obtain⟨x3,d3,g3⟩:=hp.block (k:=w.heap.size+1+1) J.out.mz (by show ¬ pb=w.heap.size+1+1; omega) J.out.mc J.out.mf; have k1:=d1 0; have k2:=d1 1; clear hp))
 all_goals go_wp2
 all_goals exact bodyPost_ret (v:=.agg #[.float .f64 R.lo,.float .f64 R.hi]) (by simp [results,Tryz.results32,go_sem,d3]) rfl ⟨rfl,(Below.setCell HP.out (by show _≤w.heap.size+1+1; omega) _).setCell (by show _≤w.heap.size+1+1; omega) _⟩
theorem cMul_ft (al ah bl bh pb po:Nat) (w:World) (la:al < 18446744073709551616) (ha:ah < 18446744073709551616) (lb:bl < 18446744073709551616) (hb:bh < 18446744073709551616) (hc:w.cell? ⟨pb,po,none⟩=some (.int .i64 0)) (hf:w.frozen? ⟨pb,po,none⟩=false) (hr:ivR al ah=true) (hs:ivR bl bh=true) (h1':crossB al ah=false) (h2':crossB bl bh=true) :
   Calls Tryz.prog 32 #[.pointer (some ⟨pb,po,none⟩),.agg #[al,ah],.agg #[bl,bh]] w (Told (mulJ al ah bl bh) pb po w):=by
 have hz:pb < w.heap.size:=cell_lt hc
 have h1:(((w.alloc (.cells #[al,ah] 31)).alloc (.cells #[bl,bh] 31)).alloc (.cells #[(),()] 31)).cell? ⟨pb,po,none⟩=some (.int .i64 0):=((bel3 w _ _ _).cell hz).trans hc
 have h2:(((w.alloc (.cells #[al,ah] 31)).alloc (.cells #[bl,bh] 31)).alloc (.cells #[(),()] 31)).frozen? ⟨pb,po,none⟩=false:=((bel3 w _ _ _).frozen hz).trans hf
 have cT:=Lib.hid (fun w hc=>takes_ok al ah pb po w la ha hc hr)
 have cU:=Lib.hid (fun w hc=>takes_ok bl bh pb po w lb hb hc hs)
 have cC:=Lib.hid (fun w=>crosses_any al ah w la ha (ivR_parts hr).1 (ivR_parts hr).2.1)
 have cD:=Lib.hid (fun w=>crosses_any bl bh w lb hb (ivR_parts hs).1 (ivR_parts hs).2.1)
 rw [h1'] at cC
 rw [h2'] at cD
 have cO:=Lib.hid (fun w=>inOrder_any bl bh al ah w la (ivR_parts hr).1)
 obtain⟨x1,x2,y1,y2⟩:=low_right bl bh al lb hb (ivR_parts hs).1 (ivR_parts hs).2.1
 obtain⟨R,hR⟩:∃ R,R=mul1 bl bh al ah:=⟨_,rfl⟩
 have cX:Hid (∀ w,w.cell? ⟨pb,po,none⟩=some (.int .i64 0)→w.frozen? ⟨pb,po,none⟩=false→Calls Tryz.prog 69 #[.pointer (some ⟨pb,po,none⟩),.func (.func 76) #[.agg #[.float .f64 (lowOf bl bh al),.float .f64 (endW al ah (ltB (lowOf bl bh al) 0))]] #[],.func (.func 76) #[.agg #[.float .f64 (highOf bl bh al),.float .f64 (endW al ah (leB 0 (highOf bl bh al)))]] #[]] w (Told R pb po w)):=by
   intro w hc hf
   rw [hR]
   exact tight_product _ _ _ _ pb po w _ _ (Lib.hid (fun w=>end_product _ _ false w x1 (end_lt al ah _ la ha))) (Lib.hid (fun w=>end_product _ _ true w y1 (end_lt al ah _ la ha))) hc hf
 have o1:=lt_zero _ x1 x2
 have o2:=ge_zero _ y1 y2
 clear x1 x2 y1 y2
 generalize lowOf bl bh al=x at cO cX o1
 generalize highOf bl bh al=y at cO cX o2
 rw [←o1,←o2] at cX
 clear o1 o2
 have hI:mulJ al ah bl bh=R:=by rw [hR]; unfold mulJ; rw [if_pos h2']
 rw [hI]
 clear hI hR h1' h2'
 have H0:=Lib.hid hc
 have H1:=Lib.hid h1
 have H2:=Lib.hid h2
 clear h1 h2 hc hf hr hs la ha lb hb
 go_enter Tryz.func32,Tryz.ntmps32
 go_wp2_with fail
 refine (cT.out _ H1.out).mono ?_
 rintro r w1 ⟨rfl,hb⟩
 have H3:=Lib.hid ((hb.cell (p:=⟨pb,po,none⟩) (by show pb < _; simp; omega)).trans H1.out)
 have H4:=Lib.hid ((hb.frozen (p:=⟨pb,po,none⟩) (by show pb < _; simp; omega)).trans H2.out)
 obtain⟨z1,z2,z3,c1,f1,c2,f2,c3,f3,B⟩:=after3 hb
 have HB:=Lib.hid B
 clear hb B H1 H2
 go_wp2_with fail
 refine (cU.out _ H3.out).mono ?_
 rintro r w2 ⟨rfl,hb⟩
 have H5:=Lib.hid ((hb.cell (p:=⟨pb,po,none⟩) (by show pb < _; omega)).trans H3.out)
 have H6:=Lib.hid ((hb.frozen (p:=⟨pb,po,none⟩) (by show pb < _; omega)).trans H4.out)
 obtain⟨y1,c1',f1'⟩:=keepB hb z3 c1 f1
 obtain⟨y2,c2',f2'⟩:=keepB hb z2 c2 f2
 obtain⟨y3,c3',f3'⟩:=keepB hb z1 c3 f3
 have HB2:=Lib.hid (HB.out.trans (hb.mono HB.out.size))
 clear hb HB H3 H4 z1 z2 z3 c1 f1 c2 f2 c3 f3
 have J:Hid (Stood w pb po (w.heap.size+1) bl bh (w.heap.size+1+1) w2):=Lib.hid ⟨HB2.out,H5.out,H6.out,y2,c2',f2',y3,c3',f3'⟩
 have A2:=Lib.hid (And.intro y1 (And.intro c1' f1'))
 clear HB2 H5 H6 y1 y2 c1' f1' c2' f2' y3 c3' f3'
 have c1:=A2.out.2.1
 have c2:=J.out.kc
 go_wp2_with fail
 refine (cC.out _).mono ?_
 rintro r w3 ⟨rfl,hb⟩
 replace J:=Lib.hid (J.out.below hb)
 have A3:=Lib.hid (keepB hb A2.out.1 A2.out.2.1 A2.out.2.2)
 clear hb A2 c1 c2
 have c1:=A3.out.2.1
 have c2:=J.out.kc
 go_wp2_with fail
 refine (cD.out _).mono ?_
 rintro r w4 ⟨rfl,hb⟩
 replace J:=Lib.hid (J.out.below hb)
 have A4:=Lib.hid (keepB hb A3.out.1 A3.out.2.1 A3.out.2.2)
 clear hb A3 c1 c2
 have c1:=A4.out.2.1
 have c2:=J.out.kc
 have g1:=A4.out.2.2
 have g2:=J.out.kf
 have ne1:¬ w.heap.size+1=w.heap.size:=by omega
 go_upto_region 10 with fail
 replace J:=Lib.hid (J.out.swap (a:=w.heap.size) al ah (by omega) (by omega) (by omega) (by omega) (by omega) (Nat.le_refl _) (by omega))
 have a1:∀ i,((((w4.setCell ⟨w.heap.size,0,none⟩ (.float .f64 bl)).setCell ⟨w.heap.size,1,none⟩ (.float .f64 bh)).setCell ⟨w.heap.size+1,0,none⟩ (.float .f64 al)).setCell ⟨w.heap.size+1,1,none⟩ (.float .f64 ah)).cell? ⟨w.heap.size,i,none⟩=#[Value.float .f64 bl,Value.float .f64 bh][i]?:=fun i=>(other2 _ _ _ _ _ (by show w.heap.size+1≠w.heap.size; omega)).trans (put2 c1 _ _ i)
 clear g1 g2 c1 c2
 generalize ((((w4.setCell ⟨w.heap.size,0,none⟩ (.float .f64 bl)).setCell ⟨w.heap.size,1,none⟩ (.float .f64 bh)).setCell ⟨w.heap.size+1,0,none⟩ (.float .f64 al)).setCell ⟨w.heap.size+1,1,none⟩ (.float .f64 ah))=w5 at *
 have c1:=a1
 have c2:=J.out.kc
 clear a1
 go_wp2_with fail
 refine (cO.out _).mono ?_
 rintro r w9 ⟨rfl,hb⟩
 replace J:=Lib.hid (Stood.drew (J.out.below hb))
 clear hb A4 c1 c2
 have k1:w9.cell? ⟨w.heap.size+1,0,none⟩=_:=J.out.kc 0
 have k2:w9.cell? ⟨w.heap.size+1,1,none⟩=_:=J.out.kc 1
 go_wp2_with fail
 go_region_held3 (fun w'=>w'.cell? ⟨w.heap.size+1,0,none⟩=some (.float .f64 al)∧w'.cell? ⟨w.heap.size+1,1,none⟩=some (.float .f64 ah)) (go_keep)
   (first
     | (go_at_call 75; refine (endOf_any _ _ _ _).mono ?_; rintro r w5 ⟨rfl,hb⟩; replace J:=Lib.hid (J.out.below hb); clear hb k1 k2; have k1:=J.out.kc 0; have k2:=J.out.kc 1)
     | (go_at_call 69; refine (cX.out _ J.out.pc J.out.pf).mono ?_; rintro r w6 ⟨rfl,hp⟩; have HP:=Lib.hid (Put.after J.out.base hp); clear k1 k2; obtain⟨x1,d1,g1⟩:=hp.block (k:=w.heap.size+1) J.out.kz (by show ¬ pb=w.heap.size+1; omega) J.out.kc J.out.kf; obtain⟨x3,d3,g3⟩:=hp.block (k:=w.heap.size+1+1) J.out.mz (by show ¬ pb=w.heap.size+1+1; omega) J.out.mc J.out.mf; have k1:=d1 0; have k2:=d1 1; clear hp))
 all_goals go_wp2
 all_goals exact bodyPost_ret (v:=.agg #[.float .f64 R.lo,.float .f64 R.hi]) (by simp [results,Tryz.results32,go_sem,d3]) rfl ⟨rfl,(Below.setCell HP.out (by show _≤w.heap.size+1+1; omega) _).setCell (by show _≤w.heap.size+1+1; omega) _⟩
end
section
open Go.RowKit
attribute [local go_sem] run_store_float
theorem Down.word {s:Nat} {T:Int} {c:Nat} {e:Int} (h:Down s T c e):c < 18446744073709551616∧rightB c=true:=by
 rcases h with ⟨_,h1,h2,_⟩ | ⟨_,h,_⟩
 · exact ⟨h1,h2⟩
 · subst h; exact ⟨by decide,right_0⟩
theorem Up.word {s:Nat} {T:Int} {c:Nat} {e:Int} (h:Up s T c e):c < 18446744073709551616∧rightB c=true:=by
 rcases h with ⟨_,h1,h2,_⟩ | ⟨_,h,_⟩
 · exact ⟨h1,h2⟩
 · subst h; exact ⟨by decide,right_0⟩
theorem end_right (bl bh:Nat) (up:Bool) (rb:rightB bl=true) (rh:rightB bh=true):rightB (endW bl bh up)=true:=by
 unfold endW
 cases up
 · exact rb
 · exact rh
def Res.fine (R:Res):Prop:=(R.lo < 18446744073709551616∧rightB R.lo=true)∧(R.hi < 18446744073709551616∧rightB R.hi=true)
theorem nil_fine (e:Int):(Res.mk e 0 0).fine:=⟨⟨show 0 < 18446744073709551616 by decide,right_0⟩,⟨show 0 < 18446744073709551616 by decide,right_0⟩⟩
theorem tight_fine (lo hi:Nat) (e f:Int) (h1:lo < 18446744073709551616∧rightB lo=true) (h2:hi < 18446744073709551616∧rightB hi=true):(tightR lo e hi f).fine:=by
 unfold tightR
 split
 · split
   · exact ⟨h1,h2⟩
   · exact nil_fine _
 · exact nil_fine _
theorem mul1_fine (al ah bl bh:Nat) (la:al < 18446744073709551616) (ha:ah < 18446744073709551616) (r1:rightB al=true) (r2:rightB ah=true) (r3:rightB bl=true) (r4:rightB bh=true):(mul1 al ah bl bh).fine:=by
 obtain⟨_,x2,_,y2⟩:=low_right al ah bl la ha r1 r2
 exact tight_fine _ _ _ _ ((mul_dir _ _ x2 (end_right bl bh _ r3 r4) false).1 rfl).word ((mul_dir _ _ y2 (end_right bl bh _ r3 r4) true).2 rfl).word
theorem mulJ_fine (al ah bl bh:Nat) (la:al < 18446744073709551616) (ha:ah < 18446744073709551616) (lb:bl < 18446744073709551616) (hb:bh < 18446744073709551616) (r1:rightB al=true) (r2:rightB ah=true) (r3:rightB bl=true) (r4:rightB bh=true):(mulJ al ah bl bh).fine:=by
 unfold mulJ
 split
 · exact mul1_fine _ _ _ _ lb hb r3 r4 r1 r2
 · exact mul1_fine _ _ _ _ la ha r1 r2 r3 r4
theorem step_fine (e:Int) (ok:Bool) (r:Res) (h:r.fine):(stepI e ok r).fine:=by
 unfold stepI
 split
 · split
   · exact h
   · exact nil_fine _
 · exact nil_fine _
theorem cross_one (a:Nat):crossB a a=false:=by
 unfold crossB ltB
 by_cases h:val a < val 0
 · rw [decide_eq_false (show ¬ val 0 < val a by omega),Bool.and_false]
 · rw [decide_eq_false h,Bool.false_and]
theorem ivR_one (a:Nat) (h:rightB a=true):ivR a a=true:=by
 unfold ivR leB
 rw [h,decide_eq_true (Int.le_refl _)]; rfl
theorem cMul_one (e:Int) (a bl bh pb po:Nat) (w:World) (la:a < 18446744073709551616) (lb:bl < 18446744073709551616) (hb:bh < 18446744073709551616) (hc:w.cell? ⟨pb,po,none⟩=some (.int .i64 e)) (hf:w.frozen? ⟨pb,po,none⟩=false) (hr:rightB a=true) (hs:ivR bl bh=true) :
   Calls Tryz.prog 32 #[.pointer (some ⟨pb,po,none⟩),.agg #[a,a],.agg #[bl,bh]] w (Told (stepI e true (mulJ a a bl bh)) pb po w):=by
 cases he:(e == 0)
 · rw [stepI_err _ _ _ he]; exact cMul_err e a a bl bh pb po w hc he
 · obtain rfl:e=0:=by simpa using he
   rw [stepI_ok]
   cases h2:crossB bl bh
   · exact cMul_ff a a bl bh pb po w la la lb hb hc hf (ivR_one a hr) hs (cross_one a) h2
   · exact cMul_ft a a bl bh pb po w la la lb hb hc hf (ivR_one a hr) hs (cross_one a) h2
structure Stand (w:World) (pb po:Nat) (e:Int) (al ah bl bh:Nat) (v:World):Prop where
 base:Put ⟨pb,po,none⟩ (.int .i64 e) w v
 pc:v.cell? ⟨pb,po,none⟩=some (.int .i64 e)
 pf:v.frozen? ⟨pb,po,none⟩=false
 az:w.heap.size < v.heap.size
 ac:∀ i,v.cell? ⟨w.heap.size,i,none⟩=#[Value.float .f64 al,Value.float .f64 ah][i]?
 af:∀ i,v.frozen? ⟨w.heap.size,i,none⟩=false
 bz:w.heap.size+1 < v.heap.size
 bc:∀ i,v.cell? ⟨w.heap.size+1,i,none⟩=#[Value.float .f64 bl,Value.float .f64 bh][i]?
 bf:∀ i,v.frozen? ⟨w.heap.size+1,i,none⟩=false
 mz:w.heap.size+1+1 < v.heap.size
 mc:∀ i,v.cell? ⟨w.heap.size+1+1,i,none⟩=#[Value.float .f64 0,Value.float .f64 0][i]?
 mf:∀ i,v.frozen? ⟨w.heap.size+1+1,i,none⟩=false
theorem Stand.below {w:World} {pb po:Nat} {e:Int} {al ah bl bh:Nat} {v v':World} (h:Stand w pb po e al ah bl bh v) (hb:Below v.heap.size v v'):Stand w pb po e al ah bl bh v':=by
 obtain⟨a1,a2,a3⟩:=keepB hb h.az h.ac h.af
 obtain⟨b1,b2,b3⟩:=keepB hb h.bz h.bc h.bf
 obtain⟨c1,c2,c3⟩:=keepB hb h.mz h.mc h.mf
 exact ⟨h.base.below hb,(hb.cell (cell_lt h.pc)).trans h.pc,(hb.frozen (cell_lt h.pc)).trans h.pf,a1,a2,a3,b1,b2,b3,c1,c2,c3⟩
theorem Stand.drew {w:World} {pb po:Nat} {e:Int} {al ah bl bh:Nat} {v:World} (h:Stand w pb po e al ah bl bh v):Stand w pb po e al ah bl bh v.drew:=⟨Below.drew h.base,h.pc,h.pf,h.az,h.ac,h.af,h.bz,h.bc,h.bf,h.mz,h.mc,h.mf⟩
theorem Stand.put {w:World} {pb po:Nat} {e f:Int} {al ah bl bh:Nat} {v v':World} (h:Stand w pb po e al ah bl bh v) (hw:pb < w.heap.size) (hb:Put ⟨pb,po,none⟩ (.int .i64 f) v v'):Stand w pb po f al ah bl bh v':=by
 obtain⟨a1,a2,a3⟩:=hb.block h.az (by show pb≠w.heap.size; omega) h.ac h.af
 obtain⟨b1,b2,b3⟩:=hb.block h.bz (by show pb≠w.heap.size+1; omega) h.bc h.bf
 obtain⟨c1,c2,c3⟩:=hb.block h.mz (by show pb≠w.heap.size+1+1; omega) h.mc h.mf
 exact ⟨h.base.trans hb,hb.cell h.pc,(hb.frozen (cell_lt h.pc)).trans h.pf,a1,a2,a3,b1,b2,b3,c1,c2,c3⟩
theorem far1 {a q:Nat} (h:a+1+1 < q):¬ q=a:=by omega
theorem far2 {a q:Nat} (h:a+1+1 < q):¬ q=a+1:=by omega
def Block (q:Nat) (x y:Value) (v:World):Prop:=q < v.heap.size∧(∀ i,v.cell? ⟨q,i,none⟩=#[x,y][i]?)∧∀ i,v.frozen? ⟨q,i,none⟩=false
theorem Block.below {q:Nat} {x y:Value} {v v':World} (h:Block q x y v) (hb:Below v.heap.size v v'):Block q x y v':=keepB hb h.1 h.2.1 h.2.2
theorem Block.drew {q:Nat} {x y:Value} {v:World} (h:Block q x y v):Block q x y v.drew:=h
theorem Block.put {q:Nat} {x y:Value} {v v':World} (h:Block q x y v) {pb po:Nat} {u:Value} (hq:pb≠q) (hb:Put ⟨pb,po,none⟩ u v v'):Block q x y v':=hb.block h.1 hq h.2.1 h.2.2
theorem Block.made (v:World) (x y:Value) (t:TypeId):Block v.heap.size x y (v.alloc (.cells #[x,y] t)):=⟨by simp,fun i=>World.cell?_alloc_at _ _ _ _ rfl,fun i=>World.frozen?_alloc_at _ _ _ _ rfl⟩
def MulCut (w:World) (pb po:Nat) (e:Int) (al ah bl bh lo hi:Nat) (p:Value) (wx:World):Prop:=
 ∃ q,p = .pointer (some ⟨q,0,none⟩)∧w.heap.size+1+1 < q∧Stand w pb po e al ah bl bh wx∧Block q (.float .f64 lo) (.float .f64 hi) wx
theorem Stand.set {w:World} {pb po:Nat} {e:Int} {al ah bl bh:Nat} {v:World} (h:Stand w pb po e al ah bl bh v) (hw:pb < w.heap.size) (q:Nat) (hq:w.heap.size+1+1 < q) (x y:Value):Stand w pb po e al ah bl bh ((v.setCell ⟨q,0,none⟩ x).setCell ⟨q,1,none⟩ y) where
 base:=(Below.setCell h.base (p:=⟨q,0,none⟩) (by show _≤q; omega) _).setCell (p:=⟨q,1,none⟩) (by show _≤q; omega) _
 pc:=by rw [other2 _ _ _ _ _ (by show q≠pb; omega)]; exact h.pc
 pf:=by rw [frozen_set,frozen_set]; exact h.pf
 az:=by rw [size_set,size_set]; exact h.az
 ac:=fun i=>by rw [other2 _ _ _ _ _ (by show q≠w.heap.size; omega)]; exact h.ac i
 af:=fun i=>by rw [frozen_set,frozen_set]; exact h.af i
 bz:=by rw [size_set,size_set]; exact h.bz
 bc:=fun i=>by rw [other2 _ _ _ _ _ (by show q≠w.heap.size+1; omega)]; exact h.bc i
 bf:=fun i=>by rw [frozen_set,frozen_set]; exact h.bf i
 mz:=by rw [size_set,size_set]; exact h.mz
 mc:=fun i=>by rw [other2 _ _ _ _ _ (by show q≠w.heap.size+1+1; omega)]; exact h.mc i
 mf:=fun i=>by rw [frozen_set,frozen_set]; exact h.mf i
theorem Block.set {q:Nat} {x y:Value} {v:World} (h:Block q x y v) (x' y':Value):Block q x' y' ((v.setCell ⟨q,0,none⟩ x').setCell ⟨q,1,none⟩ y'):=⟨by rw [size_set,size_set]; exact h.1,put2 h.2.1 _ _,fun i=>by rw [frozen_set,frozen_set]; exact h.2.2 i⟩
theorem cut_set {w:World} {pb po:Nat} {e:Int} {al ah bl bh:Nat} {v:World} {x y:Value} (h:Stand w pb po e al ah bl bh v) (hw:pb < w.heap.size) (q:Nat) (hq:w.heap.size+1+1 < q) (k:Block q x y v) (lo hi:Nat) :
   MulCut w pb po e al ah bl bh lo hi (.pointer (some ⟨q,0,none⟩)) ((v.setCell ⟨q,0,none⟩ (.float .f64 lo)).setCell ⟨q,1,none⟩ (.float .f64 hi)):=⟨q,rfl,hq,h.set hw q hq _ _,k.set _ _⟩
theorem cut_made {w:World} {pb po:Nat} {e:Int} {al ah bl bh:Nat} {v:World} (h:Stand w pb po e al ah bl bh v) (t:TypeId) (lo hi:Nat) :
   MulCut w pb po e al ah bl bh lo hi (.pointer (some ⟨v.heap.size,0,none⟩)) (v.alloc (.cells #[lo,hi] t)):=⟨_,rfl,h.mz,h.below (bel1 _ _),Block.made v _ _ t⟩
theorem cMul_tt (al ah bl bh pb po:Nat) (w:World) (la:al < 18446744073709551616) (ha:ah < 18446744073709551616) (lb:bl < 18446744073709551616) (hb:bh < 18446744073709551616) (hc:w.cell? ⟨pb,po,none⟩=some (.int .i64 0)) (hf:w.frozen? ⟨pb,po,none⟩=false) (hr:ivR al ah=true) (hs:ivR bl bh=true) (h1':crossB al ah=true) (h2':crossB bl bh=true) :
   Calls Tryz.prog 32 #[.pointer (some ⟨pb,po,none⟩),.agg #[al,ah],.agg #[bl,bh]] w (Told (mulI al ah bl bh) pb po w):=by
 have hz:pb < w.heap.size:=cell_lt hc
 have h1:(((w.alloc (.cells #[al,ah] 31)).alloc (.cells #[bl,bh] 31)).alloc (.cells #[(),()] 31)).cell? ⟨pb,po,none⟩=some (.int .i64 0):=((bel3 w _ _ _).cell hz).trans hc
 have h2:(((w.alloc (.cells #[al,ah] 31)).alloc (.cells #[bl,bh] 31)).alloc (.cells #[(),()] 31)).frozen? ⟨pb,po,none⟩=false:=((bel3 w _ _ _).frozen hz).trans hf
 have cT:=Lib.hid (fun w hc=>takes_ok al ah pb po w la ha hc hr)
 have cU:=Lib.hid (fun w hc=>takes_ok bl bh pb po w lb hb hc hs)
 have cC:=Lib.hid (fun w=>crosses_any al ah w la ha (ivR_parts hr).1 (ivR_parts hr).2.1)
 have cD:=Lib.hid (fun w=>crosses_any bl bh w lb hb (ivR_parts hs).1 (ivR_parts hs).2.1)
 rw [h1'] at cC
 rw [h2'] at cD
 obtain⟨r,er⟩:∃ r,r=mulJ al al bl bh:=⟨_,rfl⟩
 obtain⟨s,es⟩:∃ s,s=stepI r.e true (mulJ ah ah bl bh):=⟨_,rfl⟩
 have fr:r.fine:=by rw [er]; exact mulJ_fine al al bl bh la la lb hb (ivR_parts hr).1 (ivR_parts hr).1 (ivR_parts hs).1 (ivR_parts hs).2.1
 have fs:s.fine:=by rw [es]; exact step_fine _ _ _ (mulJ_fine ah ah bl bh ha ha lb hb (ivR_parts hr).2.1 (ivR_parts hr).2.1 (ivR_parts hs).1 (ivR_parts hs).2.1)
 have cM:Hid (∀ w,w.cell? ⟨pb,po,none⟩=some (.int .i64 0)→w.frozen? ⟨pb,po,none⟩=false→Calls Tryz.prog 32 #[.pointer (some ⟨pb,po,none⟩),.agg #[al,al],.agg #[bl,bh]] w (Told r pb po w)):=by
   intro w hc hf
   have:=cMul_one 0 al bl bh pb po w la lb hb hc hf (ivR_parts hr).1 hs
   rw [stepI_ok,←er] at this
   exact this
 have cN:Hid (∀ w,w.cell? ⟨pb,po,none⟩=some (.int .i64 r.e)→w.frozen? ⟨pb,po,none⟩=false→Calls Tryz.prog 32 #[.pointer (some ⟨pb,po,none⟩),.agg #[ah,ah],.agg #[bl,bh]] w (Told s pb po w)):=by
   intro w hc hf
   have:=cMul_one r.e ah bl bh pb po w ha lb hb hc hf (ivR_parts hr).2.1 hs
   rw [←es] at this
   exact this
 have cU':=Lib.hid (fun w=>hull_any r.lo r.hi s.lo s.hi w fr.1.1 fr.2.1 fs.1.1 fs.2.1 fr.1.2 fr.2.2 fs.1.2 fs.2.2)
 have cW:=Lib.hid (fun w hc=>works_any s.e pb po w hc)
 have hI:mulI al ah bl bh=joinR r (mulJ ah ah bl bh):=by rw [er]; unfold mulI; rw [if_pos (by rw [h1',h2']; rfl)]
 have hJ:mulI al ah bl bh=if s.e=0 then ⟨0,minW r.lo s.lo,maxW r.hi s.hi⟩ else ⟨s.e,0,0⟩:=by
   rw [hI,es]
   unfold joinR
   by_cases h:r.e=0
   · rw [if_pos h,h,stepI_ok]
   · have hh:stepI r.e true (mulJ ah ah bl bh)=⟨r.e,0,0⟩:=stepI_err _ _ _ (by simpa using h)
     rw [if_neg h,hh,if_neg h]
 obtain⟨R,hR⟩:∃ R,R=mulI al ah bl bh:=⟨_,rfl⟩
 rw [←hR] at hJ ⊢
 have HJ:=Lib.hid hJ
 clear hJ hI hR er es fr fs h1' h2'
 have H0:=Lib.hid hc
 have H1:=Lib.hid h1
 have H2:=Lib.hid h2
 clear h1 h2 hc hf hr hs la ha lb hb
 go_enter Tryz.func32,Tryz.ntmps32
 go_wp2_with fail
 refine (cT.out _ H1.out).mono ?_
 rintro r w1 ⟨rfl,hb⟩
 have H3:=Lib.hid ((hb.cell (p:=⟨pb,po,none⟩) (by show pb < _; simp; omega)).trans H1.out)
 have H4:=Lib.hid ((hb.frozen (p:=⟨pb,po,none⟩) (by show pb < _; simp; omega)).trans H2.out)
 obtain⟨z1,z2,z3,c1,f1,c2,f2,c3,f3,B⟩:=after3 hb
 have HB:=Lib.hid B
 clear hb B H1 H2
 go_wp2_with fail
 refine (cU.out _ H3.out).mono ?_
 rintro r w2 ⟨rfl,hb⟩
 have H5:=Lib.hid ((hb.cell (p:=⟨pb,po,none⟩) (by show pb < _; omega)).trans H3.out)
 have H6:=Lib.hid ((hb.frozen (p:=⟨pb,po,none⟩) (by show pb < _; omega)).trans H4.out)
 obtain⟨y1,c1',f1'⟩:=keepB hb z3 c1 f1
 obtain⟨y2,c2',f2'⟩:=keepB hb z2 c2 f2
 obtain⟨y3,c3',f3'⟩:=keepB hb z1 c3 f3
 have HB2:=Lib.hid (HB.out.trans (hb.mono HB.out.size))
 clear hb HB H3 H4 z1 z2 z3 c1 f1 c2 f2 c3 f3
 have J:Hid (Stand w pb po 0 al ah bl bh w2):=Lib.hid ⟨Put.of_below H0.out HB2.out,H5.out,H6.out,y1,c1',f1',y2,c2',f2',y3,c3',f3'⟩
 clear HB2 H5 H6 y1 y2 c1' f1' c2' f2' y3 c3' f3'
 have c1:=J.out.ac
 have c2:=J.out.bc
 go_wp2_with fail
 refine (cC.out _).mono ?_
 rintro r w3 ⟨rfl,hb⟩
 replace J:=Lib.hid (J.out.below hb)
 clear hb c1 c2
 have c1:=J.out.ac
 have c2:=J.out.bc
 go_wp2_with fail
 refine (cD.out _).mono ?_
 rintro r w4 ⟨rfl,hb⟩
 have J0:=Lib.hid (J.out.below hb)
 replace J:=Lib.hid J0.out.drew
 clear hb c1 c2
 have k1:w4.cell? ⟨w.heap.size,0,none⟩=_:=J.out.ac 0
 have k2:w4.cell? ⟨w.heap.size,1,none⟩=_:=J.out.ac 1
 have k3:w4.cell? ⟨w.heap.size+1,0,none⟩=_:=J.out.bc 0
 have k4:w4.cell? ⟨w.heap.size+1,1,none⟩=_:=J.out.bc 1
 have z1:w.heap.size < w4.heap.size:=J.out.az
 have z2:w.heap.size+1 < w4.heap.size:=J.out.bz
 have T0:Hid True:=trivial
 go_upto_region 4 with fail
 go_cut [7] (MulCut w pb po s.e al ah bl bh (minW r.lo s.lo) (maxW r.hi s.hi))
 case first =>
   go_region_held3 (fun w'=>w'.cell? ⟨w.heap.size,0,none⟩=some (.float .f64 al)∧w'.cell? ⟨w.heap.size,1,none⟩=some (.float .f64 ah)∧w'.cell? ⟨w.heap.size+1,0,none⟩=some (.float .f64 bl)∧w'.cell? ⟨w.heap.size+1,1,none⟩=some (.float .f64 bh)) (go_keep)
     (first
       | (go_at_call 72; have _t:=T0; refine (single_any _ _).mono ?_; rintro rr w5 ⟨rfl,hb⟩; (with_reducible have J':=Lib.hid (J.out.below hb)); clear J hb; have J:=J'; clear J'; clear k1 k2 k3 k4 z1 z2; have k1:=J.out.ac 0; have k2:=J.out.ac 1; have k3:=J.out.bc 0; have k4:=J.out.bc 1; have z1:=J.out.az; have z2:=J.out.bz)
       | (go_at_call 72; have _t:=T0; have _u:=J0; refine (single_any _ _).mono ?_; rintro rr w5 ⟨rfl,hb⟩; have hm:=J0.out.mz; have n1:=far1 hm; have n2:=far2 hm; (with_reducible have J':=Lib.hid (((J0.out.below (bel1 _ _)).drew).below hb)); have Q:=Lib.hid ((Block.made _ _ _ _).drew.below hb); have HQ:=Lib.hid hm; clear J J0 _u hb T0 _t hm; have J:=J'; clear J'; clear k1 k2 k3 k4 z1 z2; have k1:=J.out.ac 0; have k2:=J.out.ac 1; have k3:=J.out.bc 0; have k4:=J.out.bc 1; have z1:=J.out.az; have z2:=J.out.bz; have q0:=Q.out.2.1 0; have q1:=Q.out.2.1 1; have qf0:=Q.out.2.2 0; have qf1:=Q.out.2.2 1)
       | (go_at_call 72; have _t:=T0; refine (single_any _ _).mono ?_; rintro rr w5 ⟨rfl,hb⟩; have hm:=J.out.mz; (try dsimp only [World.drew] at hm); have n1:=far1 hm; have n2:=far2 hm; have J':=Lib.hid ((J.out.below (bel1 _ _)).below hb); have Q:=Lib.hid ((Block.made _ _ _ _).below hb); have HQ:=Lib.hid hm; clear J hb T0 _t hm; have J:=J'; clear J'; clear k1 k2 k3 k4 z1 z2; have k1:=J.out.ac 0; have k2:=J.out.ac 1; have k3:=J.out.bc 0; have k4:=J.out.bc 1; have z1:=J.out.az; have z2:=J.out.bz; have q0:=Q.out.2.1 0; have q1:=Q.out.2.1 1; have qf0:=Q.out.2.2 0; have qf1:=Q.out.2.2 1)
       | (go_at_call 72; refine (single_any _ _).mono ?_; rintro rr w5 ⟨rfl,hb⟩; have J':=Lib.hid (J.out.below hb); have Q':=Lib.hid (Q.out.below hb); clear J Q hb q0 q1 qf0 qf1; have J:=J'; have Q:=Q'; clear J' Q'; clear k1 k2 k3 k4 z1 z2; have k1:=J.out.ac 0; have k2:=J.out.ac 1; have k3:=J.out.bc 0; have k4:=J.out.bc 1; have z1:=J.out.az; have z2:=J.out.bz; have q0:=Q.out.2.1 0; have q1:=Q.out.2.1 1; have qf0:=Q.out.2.2 0; have qf1:=Q.out.2.2 1)
       | (go_at_call 32; have _t:=T0; (with_reducible refine (cM.out _ J.out.pc J.out.pf).mono ?_); rintro rr w5 ⟨rfl,hp⟩; have J':=Lib.hid (J.out.put hz hp); clear J hp; have J:=J'; clear J'; clear k1 k2 k3 k4 z1 z2; have k1:=J.out.ac 0; have k2:=J.out.ac 1; have k3:=J.out.bc 0; have k4:=J.out.bc 1; have z1:=J.out.az; have z2:=J.out.bz)
       | (go_at_call 32; have _t:=T0; (with_reducible refine (cM.out _ (J.out.below (bel1 _ _)).pc (J.out.below (bel1 _ _)).pf).mono ?_); rintro rr w5 ⟨rfl,hp⟩; have hm:=J.out.mz; (try dsimp only [World.drew] at hm); have n1:=far1 hm; have n2:=far2 hm; have J':=Lib.hid ((J.out.below (bel1 _ _)).put hz hp); have Q:=Lib.hid ((Block.made _ _ _ _).put (by omega) hp); have HQ:=Lib.hid hm; clear J hp T0 _t hm; have J:=J'; clear J'; clear k1 k2 k3 k4 z1 z2; have k1:=J.out.ac 0; have k2:=J.out.ac 1; have k3:=J.out.bc 0; have k4:=J.out.bc 1; have z1:=J.out.az; have z2:=J.out.bz; have q0:=Q.out.2.1 0; have q1:=Q.out.2.1 1; have qf0:=Q.out.2.2 0; have qf1:=Q.out.2.2 1)
       | (go_at_call 32; (with_reducible refine (cM.out _ J.out.pc J.out.pf).mono ?_); rintro rr w5 ⟨rfl,hp⟩; have J':=Lib.hid (J.out.put hz hp); have hm:=HQ.out; have Q':=Lib.hid (Q.out.put (by omega) hp); clear J Q hp q0 q1 qf0 qf1 hm; have J:=J'; have Q:=Q'; clear J' Q'; clear k1 k2 k3 k4 z1 z2; have k1:=J.out.ac 0; have k2:=J.out.ac 1; have k3:=J.out.bc 0; have k4:=J.out.bc 1; have z1:=J.out.az; have z2:=J.out.bz; have q0:=Q.out.2.1 0; have q1:=Q.out.2.1 1; have qf0:=Q.out.2.2 0; have qf1:=Q.out.2.2 1)
       | (go_at_call 32; have _t:=T0; (with_reducible refine (cN.out _ J.out.pc J.out.pf).mono ?_); rintro rr w5 ⟨rfl,hp⟩; have J':=Lib.hid (J.out.put hz hp); clear J hp; have J:=J'; clear J'; clear k1 k2 k3 k4 z1 z2; have k1:=J.out.ac 0; have k2:=J.out.ac 1; have k3:=J.out.bc 0; have k4:=J.out.bc 1; have z1:=J.out.az; have z2:=J.out.bz)
       | (go_at_call 32; have _t:=T0; (with_reducible refine (cN.out _ (J.out.below (bel1 _ _)).pc (J.out.below (bel1 _ _)).pf).mono ?_); rintro rr w5 ⟨rfl,hp⟩; have hm:=J.out.mz; (try dsimp only [World.drew] at hm); have n1:=far1 hm; have n2:=far2 hm; have J':=Lib.hid ((J.out.below (bel1 _ _)).put hz hp); have Q:=Lib.hid ((Block.made _ _ _ _).put (by omega) hp); have HQ:=Lib.hid hm; clear J hp T0 _t hm; have J:=J'; clear J'; clear k1 k2 k3 k4 z1 z2; have k1:=J.out.ac 0; have k2:=J.out.ac 1; have k3:=J.out.bc 0; have k4:=J.out.bc 1; have z1:=J.out.az; have z2:=J.out.bz; have q0:=Q.out.2.1 0; have q1:=Q.out.2.1 1; have qf0:=Q.out.2.2 0; have qf1:=Q.out.2.2 1)
       | (go_at_call 32; (with_reducible refine (cN.out _ J.out.pc J.out.pf).mono ?_); rintro rr w5 ⟨rfl,hp⟩; have J':=Lib.hid (J.out.put hz hp); have hm:=HQ.out; have Q':=Lib.hid (Q.out.put (by omega) hp); clear J Q hp q0 q1 qf0 qf1 hm; have J:=J'; have Q:=Q'; clear J' Q'; clear k1 k2 k3 k4 z1 z2; have k1:=J.out.ac 0; have k2:=J.out.ac 1; have k3:=J.out.bc 0; have k4:=J.out.bc 1; have z1:=J.out.az; have z2:=J.out.bz; have q0:=Q.out.2.1 0; have q1:=Q.out.2.1 1; have qf0:=Q.out.2.2 0; have qf1:=Q.out.2.2 1)
       | (go_at_call 65; have _t:=T0; refine (cU'.out _).mono ?_; rintro rr w5 ⟨rfl,hb⟩; (with_reducible have J':=Lib.hid (J.out.below hb)); clear J hb; have J:=J'; clear J'; clear k1 k2 k3 k4 z1 z2; have k1:=J.out.ac 0; have k2:=J.out.ac 1; have k3:=J.out.bc 0; have k4:=J.out.bc 1; have z1:=J.out.az; have z2:=J.out.bz)
       | (go_at_call 65; have _t:=T0; refine (cU'.out _).mono ?_; rintro rr w5 ⟨rfl,hb⟩; have hm:=J.out.mz; (try dsimp only [World.drew] at hm); have n1:=far1 hm; have n2:=far2 hm; have J':=Lib.hid ((J.out.below (bel1 _ _)).below hb); have Q:=Lib.hid ((Block.made _ _ _ _).below hb); have HQ:=Lib.hid hm; clear J hb T0 _t hm; have J:=J'; clear J'; clear k1 k2 k3 k4 z1 z2; have k1:=J.out.ac 0; have k2:=J.out.ac 1; have k3:=J.out.bc 0; have k4:=J.out.bc 1; have z1:=J.out.az; have z2:=J.out.bz; have q0:=Q.out.2.1 0; have q1:=Q.out.2.1 1; have qf0:=Q.out.2.2 0; have qf1:=Q.out.2.2 1)
       | (go_at_call 65; refine (cU'.out _).mono ?_; rintro rr w5 ⟨rfl,hb⟩; have J':=Lib.hid (J.out.below hb); have Q':=Lib.hid (Q.out.below hb); clear J Q hb q0 q1 qf0 qf1; have J:=J'; have Q:=Q'; clear J' Q'; clear k1 k2 k3 k4 z1 z2; have k1:=J.out.ac 0; have k2:=J.out.ac 1; have k3:=J.out.bc 0; have k4:=J.out.bc 1; have z1:=J.out.az; have z2:=J.out.bz; have q0:=Q.out.2.1 0; have q1:=Q.out.2.1 1; have qf0:=Q.out.2.2 0; have qf1:=Q.out.2.2 1))
   all_goals (go_wp2_with fail; go_meet)
   all_goals first | exact cut_made J.out _ _ _ | exact cut_set J.out hz _ HQ.out Q.out _ _
 case rest =>
   obtain⟨q,rfl,hq,hJ,hQ⟩:=hcut
   have J2:=Lib.hid hJ
   have q1:=hQ.2.1
   have q2:=hQ.2.2
   have m1:=hJ.mc
   have m2:=hJ.mf
   clear hJ hQ J J0 k1 k2 k3 k4 z1 z2 T0 cM cN cU' cC cD cT cU
   go_wp2_with fail
   refine (cW.out _ J2.out.pc).mono ?_
   rintro rr w6 ⟨rfl,rfl⟩
   cases he:(s.e == 0)
   · have E:Hid (R=⟨s.e,0,0⟩):=by show R=_; rw [HJ.out,if_neg (by simpa using he)]
     go_wp2
     rw [E.out]
     exact bodyPost_ret (v:=.agg #[.float .f64 0,.float .f64 0]) (by simp [results,Tryz.results32,go_sem,m1]) rfl ⟨rfl,(Below.setCell J2.out.base (by show _≤w.heap.size+1+1; omega) _).setCell (by show _≤w.heap.size+1+1; omega) _⟩
   · have E:Hid (R=⟨0,minW r.lo s.lo,maxW r.hi s.hi⟩∧s.e=0):=by
       have hs:s.e=0:=by simpa using he
       exact And.intro (by rw [HJ.out,if_pos hs]) hs
     go_wp2
     rw [E.out.1]
     refine bodyPost_ret (v:=.agg #[.float .f64 (minW r.lo s.lo),.float .f64 (maxW r.hi s.hi)]) (by simp [results,Tryz.results32,go_sem,m1]) rfl ⟨rfl,?_⟩
     have hb:=J2.out.base
     rw [E.out.2] at hb
     exact (Below.setCell hb (by show _≤w.heap.size+1+1; omega) _).setCell (by show _≤w.heap.size+1+1; omega) _
theorem cMul_any (e:Int) (al ah bl bh pb po:Nat) (w:World) (la:al < 18446744073709551616) (ha:ah < 18446744073709551616) (lb:bl < 18446744073709551616) (hb:bh < 18446744073709551616) (hc:w.cell? ⟨pb,po,none⟩=some (.int .i64 e)) (hf:w.frozen? ⟨pb,po,none⟩=false) :
   Calls Tryz.prog 32 #[.pointer (some ⟨pb,po,none⟩),.agg #[al,ah],.agg #[bl,bh]] w (Told (stepI e (ivR al ah&&ivR bl bh) (mulI al ah bl bh)) pb po w):=by
 cases he:(e == 0)
 · rw [stepI_err _ _ _ he]; exact cMul_err e al ah bl bh pb po w hc he
 · obtain rfl:e=0:=by simpa using he
   cases hr:ivR al ah
   · rw [Bool.false_and,stepI_bad]; exact cMul_bad1 al ah bl bh pb po w la ha hc hf hr
   · cases hs:ivR bl bh
     · rw [Bool.and_false,stepI_bad]; exact cMul_bad2 al ah bl bh pb po w la ha lb hb hc hf hr hs
     · rw [Bool.and_true,stepI_ok]
       cases h1:crossB al ah
       · have hI:mulI al ah bl bh=mulJ al ah bl bh:=by unfold mulI; rw [if_neg (by rw [h1]; exact Bool.false_ne_true)]
         rw [hI]
         cases h2:crossB bl bh
         · exact cMul_ff al ah bl bh pb po w la ha lb hb hc hf hr hs h1 h2
         · exact cMul_ft al ah bl bh pb po w la ha lb hb hc hf hr hs h1 h2
       · cases h2:crossB bl bh
         · have hI:mulI al ah bl bh=mulJ al ah bl bh:=by unfold mulI; rw [if_neg (by rw [h1,h2]; exact Bool.false_ne_true)]
           rw [hI]
           exact cMul_tf al ah bl bh pb po w la ha lb hb hc hf hr hs h1 h2
         · exact cMul_tt al ah bl bh pb po w la ha lb hb hc hf hr hs h1 h2
end
end Go.Proofs.YtnaomilkgfkegaaGreat
