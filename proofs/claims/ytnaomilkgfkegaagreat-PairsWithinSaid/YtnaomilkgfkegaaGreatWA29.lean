/- What the claim stands on, part 30: MiC. -/
import Derived.Test.YtnaomilkgfkegaaGreatWA16
import Derived.Test.YtnaomilkgfkegaaGreatWA28
import Derived.LoopN
import Derived.BigQuiet
set_option maxHeartbeats 4000000
set_option maxRecDepth 100000
namespace Go.Proofs.YtnaomilkgfkegaaGreat
section
open Go.RowKit
attribute [local go_sem] run_store_float
def or5 (a b c d e:Int):Int:=if (a != 0)=true then a else if (b != 0)=true then b else if (c != 0)=true then c else if (d != 0)=true then d else e
theorem cmpOr_any (a b c d e:Int) (q:Nat) (w:World) (h:Has1 w (q,#[.int .i64 a,.int .i64 b,.int .i64 c,.int .i64 d,.int .i64 e])) :
  Calls Tryz.prog 36 #[.slice (some ⟨q,0,none⟩) 5 5] w fun r w'=>r = .returned (.int .i64 (or5 a b c d e))∧Below w.heap.size w w':=by
 have k0:w.cell? ⟨q,0,none⟩=some (.int .i64 a):=h.2.1 0;have k1:w.cell? ⟨q,1,none⟩=some (.int .i64 b):=h.2.1 1;have k2:w.cell? ⟨q,2,none⟩=some (.int .i64 c):=h.2.1 2;have k3:w.cell? ⟨q,3,none⟩=some (.int .i64 d):=h.2.1 3;have k4:w.cell? ⟨q,4,none⟩=some (.int .i64 e):=h.2.1 4;clear h;go_enter Tryz.func36,Tryz.ntmps36;go_wp2;refine wp_loop_rounds 6 ?_;rw [rounds_succ]
 cases za:(a != 0)
 rotate_left
 ·go_wp2
  go_ret;exact ⟨by simp only [or5,za]; rfl,Below.refl _ _⟩
 go_wp2_with fail;rw [rounds_succ]
 cases zb:(b != 0)
 rotate_left
 ·go_wp2
  go_ret;exact ⟨by simp only [or5,za,zb]; rfl,Below.refl _ _⟩
 go_wp2_with fail;rw [rounds_succ]
 cases zc:(c != 0)
 rotate_left
 ·go_wp2
  go_ret;exact ⟨by simp only [or5,za,zb,zc]; rfl,Below.refl _ _⟩
 go_wp2_with fail;rw [rounds_succ]
 cases zd:(d != 0)
 rotate_left
 ·go_wp2
  go_ret;exact ⟨by simp only [or5,za,zb,zc,zd]; rfl,Below.refl _ _⟩
 go_wp2_with fail;rw [rounds_succ]
 cases ze:(e != 0)
 rotate_left
 ·go_wp2
  go_ret;exact ⟨by simp only [or5,za,zb,zc,zd]; rfl,Below.refl _ _⟩
 go_wp2_with fail
 have e0:e=0:=by simpa using ze
 rw [rounds_succ];go_wp2;go_ret;exact ⟨by simp only [or5,za,zb,zc,zd,e0]; rfl,Below.refl _ _⟩
def Gd (xs:List Ar) (N:Nat) (lb:Array Value) (W:World):Prop:=∀ w1,Below W.heap.size W w1→SeqStopsK Fence.wide 7 Tryz.prog 215 lb enA Kc (fun ys=>ys=xs) (fun pre=>pre <+: xs) N w1
theorem Has1.row {w w1:World} {b:Nat} {vs:Array Value} (h:Has1 w (b,vs)) (hb:Below w.heap.size w w1):Row w1 b vs:=Row.kc (fun i _ e=>(h.2.1 i).trans e) (.of_below hb)
theorem check_all {xs:List Ar} {N:Nat} (lb:Array Value) (w:World) (h:Gd xs N lb w):Calls Tryz.prog 203 #[.func (.func 215) #[] lb] w (Rt (.int .i64 (if xs.any bad then 2 else 0)) w):=mcheck_walk w h
theorem args0_any {e1 e2 e3 e4 e5 e6:Ar} (q1:e1.ls=13830554455654793216∧e1.gs=4607182418800017408) (q2:e2.ls=13830554455654793216∧e2.gs=4607182418800017408) (q3:e3.ls=0∧e3.gs=4607182418800017408) (q4:e4.ls=13830554455654793216∧e4.gs=4607182418800017408) (q5:e5.ls=13830554455654793216∧e5.gs=4607182418800017408) (q6:e6.ls=0∧e6.gs=4607182418800017408) (w:World) :
  Calls Tryz.prog 204 #[.agg #[e1.lo,e1.hi,e2.lo,e2.hi,e3.lo,e3.hi],.agg #[e4.lo,e4.hi,e5.lo,e5.hi,e6.lo,e6.hi],.slice none 0 0] w fun r w'=>(∃ lb,r = .returned (.func (.func 215) #[] lb)∧Gd [e1,e2,e3,e4,e5,e6] 6 lb w')∧Below w.heap.size w w':=by
 have M:=Hd (((((((Own.nil w).made #[e1.lo,e1.hi,e2.lo,e2.hi,e3.lo,e3.hi] 33).made #[e4.lo,e4.hi,e5.lo,e5.hi,e6.lo,e6.hi] 33).made #[.slice none 0 0] 147).made #[(13830554455654793216:Nat),(4607182418800017408:Nat)] 205).made #[(),(4607182418800017408:Nat)] 205).made #[(4584664420663164928:Nat),(4607182418800017408:Nat)] 205);simp only [World.size_alloc] at M;go_enter Tryz.func204,Tryz.ntmps204;go_wp2;go_ret;exact ⟨⟨_,rfl,fun w1 hb=>arg0_stops Fence.wide 7 trivial rfl (by decide) q1 q2 q3 q4 q5 q6 ((M.o.nth 5 rfl).row hb) ((M.o.nth 4 rfl).row hb) ((M.o.nth 2 rfl).row hb) ((M.o.nth 1 rfl).row hb) ((M.o.nth 3 rfl).row hb)⟩,M.o.base⟩
theorem args1_any {e1 e2 e3 e4 e5 e6 e7:Ar} (q1:e1.ls=13830554455654793216∧e1.gs=4607182418800017408) (q2:e2.ls=13830554455654793216∧e2.gs=4607182418800017408) (q3:e3.ls=0∧e3.gs=4607182418800017408) (q4:e4.ls=13830554455654793216∧e4.gs=4607182418800017408) (q5:e5.ls=13830554455654793216∧e5.gs=4607182418800017408) (q6:e6.ls=0∧e6.gs=4607182418800017408) (q7:e7.ls=4584664420663164928∧e7.gs=4607182418800017408) (q:Nat) (w:World) (hq:Has1 w (q,#[e7.lo,e7.hi])) :
  Calls Tryz.prog 204 #[.agg #[e1.lo,e1.hi,e2.lo,e2.hi,e3.lo,e3.hi],.agg #[e4.lo,e4.hi,e5.lo,e5.hi,e6.lo,e6.hi],.slice (some ⟨q,0,none⟩) 1 1] w fun r w'=>(∃ lb,r = .returned (.func (.func 215) #[] lb)∧Gd [e1,e2,e3,e4,e5,e6,e7] 7 lb w')∧Below w.heap.size w w':=by
 have M:=Hd (((((((Own.nil w).made #[e1.lo,e1.hi,e2.lo,e2.hi,e3.lo,e3.hi] 33).made #[e4.lo,e4.hi,e5.lo,e5.hi,e6.lo,e6.hi] 33).made #[.slice (some ⟨q,0,none⟩) 1 1] 147).made #[(13830554455654793216:Nat),(4607182418800017408:Nat)] 205).made #[(),(4607182418800017408:Nat)] 205).made #[(4584664420663164928:Nat),(4607182418800017408:Nat)] 205);simp only [World.size_alloc] at M;go_enter Tryz.func204,Tryz.ntmps204;go_wp2;go_ret;exact ⟨⟨_,rfl,fun w1 hb=>arg1_stops Fence.wide 7 trivial rfl (by decide) q1 q2 q3 q4 q5 q6 q7 ((M.o.nth 5 rfl).row hb) ((M.o.nth 4 rfl).row hb) ((M.o.nth 2 rfl).row hb) ((M.o.nth 1 rfl).row hb) ((M.o.nth 3 rfl).row hb) ((M.o.nth 0 rfl).row hb) ((hq.below M.o.base).row hb)⟩,M.o.base⟩
end
end Go.Proofs.YtnaomilkgfkegaaGreat
