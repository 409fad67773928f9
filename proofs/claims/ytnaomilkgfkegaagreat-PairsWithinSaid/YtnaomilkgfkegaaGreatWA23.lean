/- What the claim stands on, part 24: OrW. -/
import Derived.Test.YtnaomilkgfkegaaGreatWA16
import Derived.Deep.RegionHeld3
import Derived.LoopN
import Derived.BigQuiet
set_option maxHeartbeats 16000000
set_option maxRecDepth 100000
namespace Go.Proofs.YtnaomilkgfkegaaGreat
section
open Go.RowKit
attribute [local go_sem] run_store_float
section
variable {P:Program} {ops:Array Oper} {Q:Exit→Act→World→Prop} {md:Region.Mode} {S:World→Prop}
theorem lp_ccccc_1 {a0:Act} {B v:World} {l:List (Nat×Array Value)} (_:Hid (Own B l v)) {w0:World} {L0:Array Bool} (c1 c2 c3 c4 c5 m1:Nat) (slots:List Nat) (N:Nat) (J:List (Nat×Array Value)→Act→Nat→List (Option Nat)→Act→World→Prop) (hok:latOkP [false,false,false,false,false] md ops L0 [c1,c2,c3,c4,c5] [m1]=true)
  (hsl:(slots.all fun s=>decide (s < a0.tmps.size))=true) (h0:∀ A:Act,(∀ s,s∈slots→s < A.tmps.size)→J l A 0 (List.replicate 1 none) A w0)
  (hS:∀ k p a w,J l a0 k p a w→S w)
  (k1:∀ p a w,J l a0 0 p a w→wpOp P ops Q c1 (fun b v=>J l a0 1 p b v) a w)
  (k2:∀ p a w,J l a0 1 p a w→wpOp P ops Q c2 (fun b v=>J l a0 2 p b v) a w)
  (k3:∀ p a w,J l a0 2 p a w→wpOp P ops Q c3 (fun b v=>J l a0 3 p b v) a w)
  (k4:∀ p a w,J l a0 3 p a w→wpOp P ops Q c4 (fun b v=>J l a0 4 p b v) a w)
  (k5:∀ p a w,J l a0 4 p a w→wpOp P ops Q c5 (fun b v=>J l a0 5 p b v) a w)
  (n1:∀ k p a w,p[0]? = some none→J l a0 k p a w→wpOp P ops Q m1 (fun b v=>∃ q,J l a0 k (p.set 0 (some q)) b v) a w)
  (fin:∀ q1 a w,J l a0 5 [some q1] a w→wpAnyV P md ops Q S [] N (lstOf L0 [c1,c2,c3,c4,c5] [m1] 5 [true]) a w) :
  wpAnyV P md ops Q S [] (N+6) L0 a0 w0:=by
 refine latP_from (pl:=[false,false,false,false,false]) [c1,c2,c3,c4,c5] [m1] slots N 6 (J l) hok rfl hsl h0 hS (fun k i p a w hk hn hJ=>?_) (fun k i p a w hk hn hJ=>?_) (fun k m i p a w hm hp hJ=>?_) (fun p a w hp hall hJ=>?_)
 ·rcases k with _ | _ | _ | _ | _ | k
  ·obtain rfl:c1=i:=by simpa using hk
   exact k1 p a w hJ
  ·obtain rfl:c2=i:=by simpa using hk
   exact k2 p a w hJ
  ·obtain rfl:c3=i:=by simpa using hk
   exact k3 p a w hJ
  ·obtain rfl:c4=i:=by simpa using hk
   exact k4 p a w hJ
  ·obtain rfl:c5=i:=by simpa using hk
   exact k5 p a w hJ
  ·simp at hk
 ·rcases k with _ | _ | _ | _ | _ | k
  ·exact absurd hn (by decide)
  ·exact absurd hn (by decide)
  ·exact absurd hn (by decide)
  ·exact absurd hn (by decide)
  ·exact absurd hn (by decide)
  ·simp at hk
 ·rcases m with _ | m
  ·obtain rfl:m1=i:=by simpa using hm
   exact n1 k p a w hp hJ
  ·simp at hm
 ·obtain⟨q1,rfl⟩:=fin_one hp hall
  exact fin q1 a w hJ
theorem lp_cc_1 {a0:Act} {B v:World} {l:List (Nat×Array Value)} (_:Hid (Own B l v)) {w0:World} {L0:Array Bool} (c1 c2 m1:Nat) (slots:List Nat) (N:Nat) (J:List (Nat×Array Value)→Act→Nat→List (Option Nat)→Act→World→Prop) (hok:latOkP [false,false] md ops L0 [c1,c2] [m1]=true)
  (hsl:(slots.all fun s=>decide (s < a0.tmps.size))=true) (h0:∀ A:Act,(∀ s,s∈slots→s < A.tmps.size)→J l A 0 (List.replicate 1 none) A w0)
  (hS:∀ k p a w,J l a0 k p a w→S w)
  (k1:∀ p a w,J l a0 0 p a w→wpOp P ops Q c1 (fun b v=>J l a0 1 p b v) a w)
  (k2:∀ p a w,J l a0 1 p a w→wpOp P ops Q c2 (fun b v=>J l a0 2 p b v) a w)
  (n1:∀ k p a w,p[0]? = some none→J l a0 k p a w→wpOp P ops Q m1 (fun b v=>∃ q,J l a0 k (p.set 0 (some q)) b v) a w)
  (fin:∀ q1 a w,J l a0 2 [some q1] a w→wpAnyV P md ops Q S [] N (lstOf L0 [c1,c2] [m1] 2 [true]) a w) :
  wpAnyV P md ops Q S [] (N+3) L0 a0 w0:=by
 refine latP_from (pl:=[false,false]) [c1,c2] [m1] slots N 3 (J l) hok rfl hsl h0 hS (fun k i p a w hk hn hJ=>?_) (fun k i p a w hk hn hJ=>?_) (fun k m i p a w hm hp hJ=>?_) (fun p a w hp hall hJ=>?_)
 ·rcases k with _ | _ | k
  ·obtain rfl:c1=i:=by simpa using hk
   exact k1 p a w hJ
  ·obtain rfl:c2=i:=by simpa using hk
   exact k2 p a w hJ
  ·simp at hk
 ·rcases k with _ | _ | k
  ·exact absurd hn (by decide)
  ·exact absurd hn (by decide)
  ·simp at hk
 ·rcases m with _ | m
  ·obtain rfl:m1=i:=by simpa using hm
   exact n1 k p a w hp hJ
  ·simp at hm
 ·obtain⟨q1,rfl⟩:=fin_one hp hall
  exact fin q1 a w hJ
theorem opx_cccc_1 {a0:Act} {B v:World} {l:List (Nat×Array Value)} {x:Nat×Array Value} (_:Hid (Own B (x :: l) v)) {w0:World} {L0:Array Bool} (c1 c2 c3 c4 m1:Nat) (slots:List Nat) (N:Nat) (J:List (Nat×Array Value)→Act→Nat→List (Option Nat)→Act→World→Prop) (hok:latOkP [false,false,false,false] md ops L0 [c1,c2,c3,c4] [m1]=true)
  (hsl:(slots.all fun s=>decide (s < a0.tmps.size))=true) (h0:∀ A:Act,(∀ s,s∈slots→s < A.tmps.size)→J l A 0 (List.replicate 1 none) A w0)
  (hS:∀ k p a w,J l a0 k p a w→S w)
  (k1:∀ p a w,J l a0 0 p a w→wpOp P ops Q c1 (fun b v=>J l a0 1 p b v) a w)
  (k2:∀ p a w,J l a0 1 p a w→wpOp P ops Q c2 (fun b v=>J l a0 2 p b v) a w)
  (k3:∀ p a w,J l a0 2 p a w→wpOp P ops Q c3 (fun b v=>J l a0 3 p b v) a w)
  (k4:∀ p a w,J l a0 3 p a w→wpOp P ops Q c4 (fun b v=>J l a0 4 p b v) a w)
  (n1:∀ k p a w,p[0]? = some none→J l a0 k p a w→wpOp P ops Q m1 (fun b v=>∃ q,J l a0 k (p.set 0 (some q)) b v) a w)
  (fin:∀ q1 a w,J l a0 4 [some q1] a w→wpAnyV P md ops Q S [] N (lstOf L0 [c1,c2,c3,c4] [m1] 4 [true]) a w) :
  wpAnyV P md ops Q S [] (N+5) L0 a0 w0:=by
 refine latP_from (pl:=[false,false,false,false]) [c1,c2,c3,c4] [m1] slots N 5 (J l) hok rfl hsl h0 hS (fun k i p a w hk hn hJ=>?_) (fun k i p a w hk hn hJ=>?_) (fun k m i p a w hm hp hJ=>?_) (fun p a w hp hall hJ=>?_)
 ·rcases k with _ | _ | _ | _ | k
  ·obtain rfl:c1=i:=by simpa using hk
   exact k1 p a w hJ
  ·obtain rfl:c2=i:=by simpa using hk
   exact k2 p a w hJ
  ·obtain rfl:c3=i:=by simpa using hk
   exact k3 p a w hJ
  ·obtain rfl:c4=i:=by simpa using hk
   exact k4 p a w hJ
  ·simp at hk
 ·rcases k with _ | _ | _ | _ | k
  ·exact absurd hn (by decide)
  ·exact absurd hn (by decide)
  ·exact absurd hn (by decide)
  ·exact absurd hn (by decide)
  ·simp at hk
 ·rcases m with _ | m
  ·obtain rfl:m1=i:=by simpa using hm
   exact n1 k p a w hp hJ
  ·simp at hm
 ·obtain⟨q1,rfl⟩:=fin_one hp hall
  exact fin q1 a w hJ
end
theorem moved_walk {li gr x m z:Nat} (w:World)
  (m_m:(∀ ts t w,(Builtin.max_ ts t #[x,li]).run Tryz.prog w = .ok (m:Value) w))
  (m_z:(∀ ts t w,(Builtin.min_ ts t #[m,gr]).run Tryz.prog w = .ok (z:Value) w)) :
  Calls Tryz.prog 214 #[.agg #[li,gr],x] w fun r w'=>r = .returned (z:Value)∧Below w.heap.size w w':=by
 have M:=Hd ((Own.nil w).made #[li,gr] 187);have eqF:=eq_floats;go_enter Tryz.func214,Tryz.ntmps214;obtain⟨k1,k2⟩:=(M.o.nth 0 rfl).two;go_wp2;go_ret;exact ⟨rfl,M.o.base⟩
theorem oclamped_walk {li gr al ah rl rh:Nat} (w:World)
  (c1:CH 214 #[.agg #[li,gr],al] (rl:Value))
  (c2:CH 214 #[.agg #[li,gr],ah] (rh:Value)) :
  Calls Tryz.prog 200 #[.agg #[li,gr],.agg #[al,ah]] w (Rt (.agg #[rl,rh]) w):=by
 have M:=Hd ((((Own.nil w).made #[li,gr] 187).made #[al,ah] 31).made #[(),()] 31);simp only [World.size_alloc] at M;have eqF:=eq_floats;go_enter Tryz.func200,Tryz.ntmps200;go_upto_region 1 with fail;replace M:=Hd M.o.drew;revert M;generalize (((w.alloc (.cells #[li,gr] 187)).alloc (.cells #[al,ah] 31)).alloc (.cells #[(),()] 31))=W0_;intro M;refine wp_region_noPanic ?_;refine tails_region (S:=fun w'=>(Cf w' w.heap.size 0 li∧Cf w' w.heap.size 1 gr)∧(Cf w' (w.heap.size+1) 0 al∧Cf w' (w.heap.size+1) 1 ah)) [] (by kernel_rfl) ?_ (fun hS=>?_)
 ·exact ⟨(M.o.nth 2 rfl).two,(M.o.nth 1 rfl).two⟩
 refine tk (x:=?_) 0 rfl (by kernel_rfl) ⟨by rfl,?_⟩ (fun _ _ _ h=>h) hS ?_
 rotate_left; focus (intro w hSw; (try dsimp only at hSw); go_simp; try with_reducible rfl)
 refine tk (x:=?_) 1 rfl (by kernel_rfl) ⟨by rfl,?_⟩ (fun _ _ _ h=>h) hS ?_
 rotate_left; focus (intro w hSw; (try dsimp only at hSw); go_simp; try with_reducible rfl)
 refine tk (x:=?_) 2 rfl (by kernel_rfl) ⟨by rfl,?_⟩ (fun _ _ _ h=>h) hS ?_
 rotate_left; focus (intro w hSw; (try dsimp only at hSw); go_simp; try with_reducible rfl)
 refine tk (x:=?_) 4 rfl (by kernel_rfl) ⟨by rfl,?_⟩ (fun _ _ _ h=>h) hS ?_
 rotate_left; focus (intro w hSw; (try dsimp only at hSw); go_simp; try with_reducible rfl)
 refine tk (x:=?_) 5 rfl (by kernel_rfl) ⟨by rfl,?_⟩ (fun _ _ _ h=>h) hS ?_
 rotate_left; focus (intro w hSw; (try dsimp only at hSw); go_simp; try with_reducible rfl)
 refine tk (x:=?_) 6 rfl (by kernel_rfl) ⟨by rfl,?_⟩ (fun _ _ _ h=>h) hS ?_
 rotate_left; focus (intro w hSw; (try dsimp only at hSw); go_simp; try with_reducible rfl)
 conv=>arg 9; simp only [Act.put,go_sem]
 refine tn [] 3 fun K hK=>?_
 go_simp;refine (c1.out _).mono ?_;rintro rr w1_ ⟨rfl,hb⟩;replace M:=Hd (M.o.below hb);clear hb
 try go_wp2_with fail
 refine hK.out _ _ (Or.inr ⟨(M.o.nth 2 rfl).two,(M.o.nth 1 rfl).two⟩) (fun hHeld=>?_);clear hK K hHeld;replace hS:=(And.intro (M.o.nth 2 rfl).two (M.o.nth 1 rfl).two)
 refine tn [] 7 fun K hK=>?_
 go_simp;refine (c2.out _).mono ?_;rintro rr w2_ ⟨rfl,hb⟩;replace M:=Hd (M.o.below hb);clear hb
 try go_wp2_with fail
 refine hK.out _ _ (Or.inr ⟨(M.o.nth 2 rfl).two,(M.o.nth 1 rfl).two⟩) (fun hHeld=>?_);clear hK K hHeld;replace hS:=(And.intro (M.o.nth 2 rfl).two (M.o.nth 1 rfl).two);refine tk (x:=?_) 8 rfl (by kernel_rfl) ⟨by rfl,?_⟩ (fun _ _ _ h=>h) hS ?_
 rotate_left; focus (intro w hSw; (try dsimp only at hSw); go_simp; try with_reducible rfl)
 refine tn [] 9 fun K hK=>?_
 have kc:=(M.o.nth 0 rfl).2.1;have kf:=(M.o.nth 0 rfl).2.2;replace M:=Hd (M.o.set2 0 rfl rl rh);dsimp only [List.set] at M;go_simp;refine hK.out _ _ (Or.inr ⟨(M.o.nth 2 rfl).two,(M.o.nth 1 rfl).two⟩) (fun hHeld=>?_);clear hK K hHeld kc kf;refine tails_done (by kernel_rfl) ?_ _;refine NoPanic.normal ?_;clear hS;revert M;generalize ((w2_.setCell ⟨(w.heap.size+1+1),0,none⟩ (rl:Value)).setCell ⟨(w.heap.size+1+1),1,none⟩ (rh:Value))=W3_;intro M;go_wp2;obtain⟨f1,f2⟩:=(M.o.nth 0 rfl).two;exact bodyPost_ret (v:=.agg #[.float .f64 rl,.float .f64 rh]) (by simp [results,Tryz.results200,go_sem,f1,f2]) rfl ⟨rfl,M.o.base⟩
theorem olimits_walk (w:World):Calls Tryz.prog 212 #[] w (Rt (.agg #[(),(4607182418800017408:Nat),(),(4607182418800017408:Nat),(),(4607182418800017408:Nat),(),(4607182418800017408:Nat),(13830554455654793216:Nat),(4607182418800017408:Nat)]) w):=by
 have M:=Hd (((Own.nil w).made #[(),(4607182418800017408:Nat),(),(4607182418800017408:Nat),(),(4607182418800017408:Nat),(),(4607182418800017408:Nat),(13830554455654793216:Nat),(4607182418800017408:Nat)] 201).made #[(),(4607182418800017408:Nat)] 187);simp only [World.size_alloc] at M;go_enter Tryz.func212,Tryz.ntmps212;go_wp2;obtain⟨f1,f2,f3,f4,f5,f6,f7,f8,f9,f10⟩:=(M.o.nth 1 rfl).ten;exact bodyPost_ret (v:=.agg #[.float .f64 0,.float .f64 4607182418800017408,.float .f64 0,.float .f64 4607182418800017408,.float .f64 0,.float .f64 4607182418800017408,.float .f64 0,.float .f64 4607182418800017408,.float .f64 13830554455654793216,.float .f64 4607182418800017408]) (by simp [results,Tryz.results212,go_sem]) rfl ⟨rfl,M.o.base⟩
def opJ2 (w:World) (xl xh tl th gl gh:Nat) (l:RowL) (a0:Act) (k:Nat) (p:List (Option Nat)) (a:Act) (v:World):Prop:=
 ∃ y1 y2 y3 y4 y5 z1:Value,a=((((((a0.put (some 12) y1).put (some 14) y2).put (some 18) y3).put (some 19) y4).put (some 20) y5).put (some 7) z1)∧(0 < k→y1 = .agg #[(4614256656552045848:Nat),(4614256656552045849:Nat)])∧(1 < k→y2 = .agg #[xl,xh])∧(2 < k→y3 = .agg #[(4613937818241073152:Nat),(4613937818241073152:Nat)])∧(3 < k→y4 = .agg #[tl,th])∧(4 < k→y5 = .agg #[gl,gh])∧(∀ q,p[0]? = some (some q)→z1 = .pointer (some ⟨q,0,none⟩))∧OwnF w l [#[(),()]] p v
section
variable {w v:World} {xl xh tl th gl gh:Nat} {l:RowL} {a0 a:Act} {p:List (Option Nat)}
theorem opJ2_0 (h:opJ2 w xl xh tl th gl gh l a0 0 p a v):∃ y1 y2 y3 y4 y5 z1:Value,a=((((((a0.put (some 12) y1).put (some 14) y2).put (some 18) y3).put (some 19) y4).put (some 20) y5).put (some 7) z1)∧(∀ q,p[0]? = some (some q)→z1 = .pointer (some ⟨q,0,none⟩))∧OwnF w l [#[(),()]] p v:=by
 obtain⟨y1,y2,y3,y4,y5,z1,ha,E1,E2,E3,E4,E5,G1,h⟩:=h;exact ⟨y1,y2,y3,y4,y5,z1,ha,G1,h⟩
theorem opJ2_1 (h:opJ2 w xl xh tl th gl gh l a0 1 p a v):∃ y2 y3 y4 y5 z1:Value,a=((((((a0.put (some 12) (.agg #[(4614256656552045848:Nat),(4614256656552045849:Nat)])).put (some 14) y2).put (some 18) y3).put (some 19) y4).put (some 20) y5).put (some 7) z1)∧(∀ q,p[0]? = some (some q)→z1 = .pointer (some ⟨q,0,none⟩))∧OwnF w l [#[(),()]] p v:=by
 obtain⟨y1,y2,y3,y4,y5,z1,ha,E1,E2,E3,E4,E5,G1,h⟩:=h;obtain rfl:=E1 (by decide);exact ⟨y2,y3,y4,y5,z1,ha,G1,h⟩
theorem opJ2_2 (h:opJ2 w xl xh tl th gl gh l a0 2 p a v):∃ y3 y4 y5 z1:Value,a=((((((a0.put (some 12) (.agg #[(4614256656552045848:Nat),(4614256656552045849:Nat)])).put (some 14) (.agg #[xl,xh])).put (some 18) y3).put (some 19) y4).put (some 20) y5).put (some 7) z1)∧(∀ q,p[0]? = some (some q)→z1 = .pointer (some ⟨q,0,none⟩))∧OwnF w l [#[(),()]] p v:=by
 obtain⟨y1,y2,y3,y4,y5,z1,ha,E1,E2,E3,E4,E5,G1,h⟩:=h;obtain rfl:=E1 (by decide);obtain rfl:=E2 (by decide);exact ⟨y3,y4,y5,z1,ha,G1,h⟩
theorem opJ2_3 (h:opJ2 w xl xh tl th gl gh l a0 3 p a v):∃ y4 y5 z1:Value,a=((((((a0.put (some 12) (.agg #[(4614256656552045848:Nat),(4614256656552045849:Nat)])).put (some 14) (.agg #[xl,xh])).put (some 18) (.agg #[(4613937818241073152:Nat),(4613937818241073152:Nat)])).put (some 19) y4).put (some 20) y5).put (some 7) z1)∧(∀ q,p[0]? = some (some q)→z1 = .pointer (some ⟨q,0,none⟩))∧OwnF w l [#[(),()]] p v:=by
 obtain⟨y1,y2,y3,y4,y5,z1,ha,E1,E2,E3,E4,E5,G1,h⟩:=h;obtain rfl:=E1 (by decide);obtain rfl:=E2 (by decide);obtain rfl:=E3 (by decide);exact ⟨y4,y5,z1,ha,G1,h⟩
theorem opJ2_4 (h:opJ2 w xl xh tl th gl gh l a0 4 p a v):∃ y5 z1:Value,a=((((((a0.put (some 12) (.agg #[(4614256656552045848:Nat),(4614256656552045849:Nat)])).put (some 14) (.agg #[xl,xh])).put (some 18) (.agg #[(4613937818241073152:Nat),(4613937818241073152:Nat)])).put (some 19) (.agg #[tl,th])).put (some 20) y5).put (some 7) z1)∧(∀ q,p[0]? = some (some q)→z1 = .pointer (some ⟨q,0,none⟩))∧OwnF w l [#[(),()]] p v:=by
 obtain⟨y1,y2,y3,y4,y5,z1,ha,E1,E2,E3,E4,E5,G1,h⟩:=h;obtain rfl:=E1 (by decide);obtain rfl:=E2 (by decide);obtain rfl:=E3 (by decide);obtain rfl:=E4 (by decide);exact ⟨y5,z1,ha,G1,h⟩
theorem opJ2_fin {q1:Nat} (h:opJ2 w xl xh tl th gl gh l a0 5 [some q1] a v):a=((((((a0.put (some 12) (.agg #[(4614256656552045848:Nat),(4614256656552045849:Nat)])).put (some 14) (.agg #[xl,xh])).put (some 18) (.agg #[(4613937818241073152:Nat),(4613937818241073152:Nat)])).put (some 19) (.agg #[tl,th])).put (some 20) (.agg #[gl,gh])).put (some 7) (.pointer (some ⟨q1,0,none⟩)))∧OwnF w l [#[(),()]] [some q1] v:=by
 obtain⟨y1,y2,y3,y4,y5,z1,ha,E1,E2,E3,E4,E5,G1,h⟩:=h;obtain rfl:=E1 (by decide);obtain rfl:=E2 (by decide);obtain rfl:=E3 (by decide);obtain rfl:=E4 (by decide);obtain rfl:=E5 (by decide);obtain rfl:=G1 _ rfl;exact ⟨ha,h⟩
end
theorem opair_walk {sl sh xl xh tl th gl gh ml mh ql qh al ah bl bh:Nat} {pb:Nat} (w:World) (hC:Hid (Has1 w (pb,#[true])))
  (d1:Hid (∀ v,Has1 v (pb,#[true])→Calls Tryz.prog 35 #[.pointer (some ⟨pb,0,none⟩),(4611686018427387904:Nat)] v (Rt (.agg #[(4611686018427387904:Nat),(4611686018427387904:Nat)]) v)))
  (c2:CH 162 #[] (.agg #[(4614256656552045848:Nat),(4614256656552045849:Nat)]))
  (d3:Hid (∀ v,Has1 v (pb,#[true])→Calls Tryz.prog 60 #[.pointer (some ⟨pb,0,none⟩),.agg #[(4614256656552045848:Nat),(4614256656552045849:Nat)],.agg #[(4611686018427387904:Nat),(4611686018427387904:Nat)]] v (Rt (.agg #[xl,xh]) v)))
  (d4:Hid (∀ v,Has1 v (pb,#[true])→Calls Tryz.prog 35 #[.pointer (some ⟨pb,0,none⟩),(4613937818241073152:Nat)] v (Rt (.agg #[(4613937818241073152:Nat),(4613937818241073152:Nat)]) v)))
  (d5:Hid (∀ v,Has1 v (pb,#[true])→Calls Tryz.prog 60 #[.pointer (some ⟨pb,0,none⟩),.agg #[(4611686018427387904:Nat),(4611686018427387904:Nat)],.agg #[(4613937818241073152:Nat),(4613937818241073152:Nat)]] v (Rt (.agg #[tl,th]) v)))
  (d6:Hid (∀ v,Has1 v (pb,#[true])→Calls Tryz.prog 34 #[.pointer (some ⟨pb,0,none⟩),.agg #[xl,xh],.agg #[tl,th]] v (Rt (.agg #[gl,gh]) v)))
  (d7:Hid (∀ v,Has1 v (pb,#[true])→Calls Tryz.prog 35 #[.pointer (some ⟨pb,0,none⟩),(4607182418800017408:Nat)] v (Rt (.agg #[(4607182418800017408:Nat),(4607182418800017408:Nat)]) v)))
  (d9:Hid (∀ v,Has1 v (pb,#[true])→Calls Tryz.prog 32 #[.pointer (some ⟨pb,0,none⟩),.agg #[gl,gh],.agg #[sl,sh]] v (Rt (.agg #[ml,mh]) v)))
  (d10:Hid (∀ v,Has1 v (pb,#[true])→Calls Tryz.prog 103 #[.pointer (some ⟨pb,0,none⟩),.agg #[(4614256656552045848:Nat),(4614256656552045849:Nat)],.agg #[ml,mh]] v (Rt (.agg #[ql,qh]) v)))
  (d11:Hid (∀ v,Has1 v (pb,#[true])→Calls Tryz.prog 60 #[.pointer (some ⟨pb,0,none⟩),.agg #[(4607182418800017408:Nat),(4607182418800017408:Nat)],.agg #[ql,qh]] v (Rt (.agg #[al,ah]) v)))
  (d12:Hid (∀ v,Has1 v (pb,#[true])→Calls Tryz.prog 32 #[.pointer (some ⟨pb,0,none⟩),.agg #[sl,sh],.agg #[al,ah]] v (Rt (.agg #[bl,bh]) v))) :
  Calls Tryz.prog 198 #[.pointer (some ⟨pb,0,none⟩),.agg #[sl,sh]] w (Rt (.tuple #[.agg #[al,ah],.agg #[bl,bh]]) w):=by
 have M:=Hd ((((Own.nil w).made #[sl,sh] 31).made #[(),()] 31).made #[(),()] 31);simp only [World.size_alloc] at M;have eqF:=eq_floats;go_enter Tryz.func198,Tryz.ntmps198;go_wp2_with fail;refine (d1.out _ (hC.out.below M.o.base)).mono ?_;rintro r w1_ ⟨rfl,hb⟩;replace M:=Hd (M.o.below hb);clear hb;replace M:=Hd (M.o.made #[(4611686018427387904:Nat),(4611686018427387904:Nat)] 31);go_upto_region 2 with fail;replace M:=Hd M.o.drew;revert M;generalize (w1_.alloc (.cells #[(4611686018427387904:Nat),(4611686018427387904:Nat)] 31))=W2_;intro M;refine wp_region_noPanic ?_;refine tails_region (S:=fun w'=>(Cf w' w1_.heap.size 0 4611686018427387904∧Cf w' w1_.heap.size 1 4611686018427387904)) [] (by kernel_rfl) ?_ (fun hS=>?_)
 ·exact (M.o.nth 0 rfl).two
 refine tk (x:=?_) 0 rfl (by kernel_rfl) ⟨by rfl,?_⟩ (fun _ _ _ h=>h) hS ?_
 rotate_left; focus (intro w hSw; (try dsimp only at hSw); go_simp; try with_reducible rfl)
 refine tk (x:=?_) 1 rfl (by kernel_rfl) ⟨by rfl,?_⟩ (fun _ _ _ h=>h) hS ?_
 rotate_left; focus (intro w hSw; (try dsimp only at hSw); go_simp; try with_reducible rfl)
 refine tk (x:=?_) 3 rfl (by kernel_rfl) ⟨by rfl,?_⟩ (fun _ _ _ h=>h) hS ?_
 rotate_left; focus (intro w hSw; (try dsimp only at hSw); go_simp; try with_reducible rfl)
 refine tk (x:=?_) 5 rfl (by kernel_rfl) ⟨by rfl,?_⟩ (fun _ _ _ h=>h) hS ?_
 rotate_left; focus (intro w hSw; (try dsimp only at hSw); go_simp; try with_reducible rfl)
 refine tk (x:=?_) 6 rfl (by kernel_rfl) ⟨by rfl,?_⟩ (fun _ _ _ h=>h) hS ?_
 rotate_left; focus (intro w hSw; (try dsimp only at hSw); go_simp; try with_reducible rfl)
 refine tk (x:=?_) 7 rfl (by kernel_rfl) ⟨by rfl,?_⟩ (fun _ _ _ h=>h) hS ?_
 rotate_left; focus (intro w hSw; (try dsimp only at hSw); go_simp; try with_reducible rfl)
 conv=>arg 9; simp only [Act.put,go_sem]
 refine lp_ccccc_1 M 2 4 8 9 10 11 [12,14,18,19,20,7] 1 (opJ2 w xl xh tl th gl gh) (by kernel_rfl) (by kernel_rfl) ?_ ?_ ?_ ?_ ?_ ?_ ?_ ?_ ?_
 ·intro A hA
  obtain⟨y1,hq1⟩:=put_ex (hA 12 (by simp));obtain⟨y2,hq2⟩:=put_ex (hA 14 (by simp));obtain⟨y3,hq3⟩:=put_ex (hA 18 (by simp));obtain⟨y4,hq4⟩:=put_ex (hA 19 (by simp));obtain⟨y5,hq5⟩:=put_ex (hA 20 (by simp));obtain⟨z1,hq6⟩:=put_ex (hA 7 (by simp));exact ⟨y1,y2,y3,y4,y5,z1,by rw [hq1,hq2,hq3,hq4,hq5,hq6],by omega,by omega,by omega,by omega,by omega,by simp,OwnF.start M.out 1⟩
 ·rintro k p a v ⟨y1,y2,y3,y4,y5,z1,_,_,_,_,_,_,_,h⟩
  exact (h.own.nth 0 rfl).two
 ·intro p a v hJ
  refine os fun K hK=>?_
  obtain⟨y1,y2,y3,y4,y5,z1,ha,gg1,h⟩:=opJ2_0 hJ;have h:=Hd h;clear hJ;subst ha;go_simp;refine (c2.out _).mono ?_;rintro rr w5 ⟨rfl,hp⟩
  try go_wp2_with fail
  refine hK.out _ _ ⟨_,y2,y3,y4,y5,z1,?_,fun _=>rfl,by omega,by omega,by omega,by omega,gg1,h.out.below hp⟩;kernel_rfl
 ·intro p a v hJ
  refine os fun K hK=>?_
  obtain⟨y2,y3,y4,y5,z1,ha,gg1,h⟩:=opJ2_1 hJ;have h:=Hd h;clear hJ;subst ha;go_simp;refine (d3.out _ (hC.out.below h.out.own.base)).mono ?_;rintro rr w5 ⟨rfl,hp⟩
  try go_wp2_with fail
  refine hK.out _ _ ⟨_,_,y3,y4,y5,z1,?_,fun _=>rfl,fun _=>rfl,by omega,by omega,by omega,gg1,h.out.below hp⟩;kernel_rfl
 ·intro p a v hJ
  refine os fun K hK=>?_
  obtain⟨y3,y4,y5,z1,ha,gg1,h⟩:=opJ2_2 hJ;have h:=Hd h;clear hJ;subst ha;go_simp;refine (d4.out _ (hC.out.below h.out.own.base)).mono ?_;rintro rr w5 ⟨rfl,hp⟩
  try go_wp2_with fail
  refine hK.out _ _ ⟨_,_,_,y4,y5,z1,?_,fun _=>rfl,fun _=>rfl,fun _=>rfl,by omega,by omega,gg1,h.out.below hp⟩;kernel_rfl
 ·intro p a v hJ
  refine os fun K hK=>?_
  obtain⟨y4,y5,z1,ha,gg1,h⟩:=opJ2_3 hJ;have h:=Hd h;clear hJ;subst ha;go_simp;refine (d5.out _ (hC.out.below h.out.own.base)).mono ?_;rintro rr w5 ⟨rfl,hp⟩
  try go_wp2_with fail
  refine hK.out _ _ ⟨_,_,_,_,y5,z1,?_,fun _=>rfl,fun _=>rfl,fun _=>rfl,fun _=>rfl,by omega,gg1,h.out.below hp⟩;kernel_rfl
 ·intro p a v hJ
  refine os fun K hK=>?_
  obtain⟨y5,z1,ha,gg1,h⟩:=opJ2_4 hJ;have h:=Hd h;clear hJ;subst ha;go_simp;refine (d6.out _ (hC.out.below h.out.own.base)).mono ?_;rintro rr w5 ⟨rfl,hp⟩
  try go_wp2_with fail
  refine hK.out _ _ ⟨_,_,_,_,_,z1,?_,fun _=>rfl,fun _=>rfl,fun _=>rfl,fun _=>rfl,fun _=>rfl,gg1,h.out.below hp⟩;kernel_rfl
 ·intro k p a v hp hJ
  refine os fun K hK=>?_
  obtain⟨y1,y2,y3,y4,y5,z1,ha,ee1,ee2,ee3,ee4,ee5,gg1,h⟩:=hJ;have h:=Hd h;subst ha;go_simp;refine hK.out _ _ ⟨v.heap.size,y1,y2,y3,y4,y5,.pointer (some ⟨v.heap.size,0,none⟩),?_,ee1,ee2,ee3,ee4,ee5,fun q hq=>ptr_set hq,h.out.alloc hp rfl _⟩;kernel_rfl
 intro p2_1 a v hJ;obtain⟨rfl,h⟩:=opJ2_fin hJ;clear hJ;replace M:=Hd h.fin1;clear h
 refine tn [] 12 fun K hK=>?_
 have kc:=(M.o.nth 0 rfl).2.1;have kf:=(M.o.nth 0 rfl).2.2;replace M:=Hd (M.o.set2 0 rfl gl gh);dsimp only [List.set] at M;go_simp;refine hK.out _ _ (Or.inr (M.o.nth 1 rfl).two) (fun hHeld=>?_);clear hK K hHeld kc kf;refine tails_done (by kernel_rfl) ?_ _;refine NoPanic.normal ?_;clear hS;revert M;generalize ((v.setCell ⟨p2_1,0,none⟩ (gl:Value)).setCell ⟨p2_1,1,none⟩ (gh:Value))=W3_;intro M;go_upto_region 3 with fail;replace M:=Hd M.o.drew;refine wp_region_noPanic ?_;refine tails_region (S:=fun w'=>(Cf w' p2_1 0 gl∧Cf w' p2_1 1 gh)∧(Cf w' w.heap.size 0 sl∧Cf w' w.heap.size 1 sh)) [] (by kernel_rfl) ?_ (fun hS=>?_)
 ·exact ⟨(M.o.nth 0 rfl).two,(M.o.nth 4 rfl).two⟩
 refine tk (x:=?_) 0 rfl (by kernel_rfl) ⟨by rfl,?_⟩ (fun _ _ _ h=>h) hS ?_
 rotate_left; focus (intro w hSw; (try dsimp only at hSw); go_simp; try with_reducible rfl)
 refine tk (x:=?_) 1 rfl (by kernel_rfl) ⟨by rfl,?_⟩ (fun _ _ _ h=>h) hS ?_
 rotate_left; focus (intro w hSw; (try dsimp only at hSw); go_simp; try with_reducible rfl)
 refine tk (x:=?_) 3 rfl (by kernel_rfl) ⟨by rfl,?_⟩ (fun _ _ _ h=>h) hS ?_
 rotate_left; focus (intro w hSw; (try dsimp only at hSw); go_simp; try with_reducible rfl)
 refine tk (x:=?_) 5 rfl (by kernel_rfl) ⟨by rfl,?_⟩ (fun _ _ _ h=>h) hS ?_
 rotate_left; focus (intro w hSw; (try dsimp only at hSw); go_simp; try with_reducible rfl)
 refine tk (x:=?_) 6 rfl (by kernel_rfl) ⟨by rfl,?_⟩ (fun _ _ _ h=>h) hS ?_
 rotate_left; focus (intro w hSw; (try dsimp only at hSw); go_simp; try with_reducible rfl)
 refine tk (x:=?_) 7 rfl (by kernel_rfl) ⟨by rfl,?_⟩ (fun _ _ _ h=>h) hS ?_
 rotate_left; focus (intro w hSw; (try dsimp only at hSw); go_simp; try with_reducible rfl)
 conv=>arg 9; simp only [Act.put,go_sem]
 refine tn [] 2 fun K hK=>?_
 go_simp;refine (d7.out _ (hC.out.below M.o.base)).mono ?_;rintro rr w4_ ⟨rfl,hb⟩;replace M:=Hd (M.o.below hb);clear hb
 try go_wp2_with fail
 refine hK.out _ _ (Or.inr ⟨(M.o.nth 0 rfl).two,(M.o.nth 4 rfl).two⟩) (fun hHeld=>?_);clear hK K hHeld;replace hS:=(And.intro (M.o.nth 0 rfl).two (M.o.nth 4 rfl).two)
 refine tn [] 4 fun K hK=>?_
 go_simp;refine (c2.out _).mono ?_;rintro rr w5_ ⟨rfl,hb⟩;replace M:=Hd (M.o.below hb);clear hb
 try go_wp2_with fail
 refine hK.out _ _ (Or.inr ⟨(M.o.nth 0 rfl).two,(M.o.nth 4 rfl).two⟩) (fun hHeld=>?_);clear hK K hHeld;replace hS:=(And.intro (M.o.nth 0 rfl).two (M.o.nth 4 rfl).two)
 refine tn [] 8 fun K hK=>?_
 go_simp;refine (d9.out _ (hC.out.below M.o.base)).mono ?_;rintro rr w6_ ⟨rfl,hb⟩;replace M:=Hd (M.o.below hb);clear hb
 try go_wp2_with fail
 refine hK.out _ _ (Or.inr ⟨(M.o.nth 0 rfl).two,(M.o.nth 4 rfl).two⟩) (fun hHeld=>?_);clear hK K hHeld;replace hS:=(And.intro (M.o.nth 0 rfl).two (M.o.nth 4 rfl).two)
 refine tn [] 9 fun K hK=>?_
 go_simp;refine (d10.out _ (hC.out.below M.o.base)).mono ?_;rintro rr w7_ ⟨rfl,hb⟩;replace M:=Hd (M.o.below hb);clear hb
 try go_wp2_with fail
 refine hK.out _ _ (Or.inr ⟨(M.o.nth 0 rfl).two,(M.o.nth 4 rfl).two⟩) (fun hHeld=>?_);clear hK K hHeld;replace hS:=(And.intro (M.o.nth 0 rfl).two (M.o.nth 4 rfl).two)
 refine tn [] 10 fun K hK=>?_
 go_simp;refine (d11.out _ (hC.out.below M.o.base)).mono ?_;rintro rr w8_ ⟨rfl,hb⟩;replace M:=Hd (M.o.below hb);clear hb
 try go_wp2_with fail
 refine hK.out _ _ (Or.inr ⟨(M.o.nth 0 rfl).two,(M.o.nth 4 rfl).two⟩) (fun hHeld=>?_);clear hK K hHeld;replace hS:=(And.intro (M.o.nth 0 rfl).two (M.o.nth 4 rfl).two)
 refine tn [] 11 fun K hK=>?_
 have kc:=(M.o.nth 3 rfl).2.1;have kf:=(M.o.nth 3 rfl).2.2;replace M:=Hd (M.o.set2 3 rfl al ah);dsimp only [List.set] at M;go_simp;refine hK.out _ _ (Or.inr ⟨(M.o.nth 0 rfl).two,(M.o.nth 4 rfl).two⟩) (fun hHeld=>?_);clear hK K hHeld kc kf;refine tails_done (by kernel_rfl) ?_ _;refine NoPanic.normal ?_;clear hS;revert M;generalize ((w8_.setCell ⟨(w.heap.size+1),0,none⟩ (al:Value)).setCell ⟨(w.heap.size+1),1,none⟩ (ah:Value))=W9_;intro M;go_upto_region 4 with fail;replace M:=Hd M.o.drew;refine wp_region_noPanic ?_;refine tails_region (S:=fun w'=>(Cf w' (w.heap.size+1) 0 al∧Cf w' (w.heap.size+1) 1 ah)∧(Cf w' w.heap.size 0 sl∧Cf w' w.heap.size 1 sh)) [5,6] (by kernel_rfl) ?_ (fun hS=>?_)
 ·exact ⟨(M.o.nth 3 rfl).two,(M.o.nth 4 rfl).two⟩
 refine tails_take (T:=[5,6]) (i:=0) (o:=_) (x:=?_) rfl (by kernel_rfl) (by kernel_rfl) (by kernel_rfl) (by kernel_rfl) (fun _ _ _ h=>h) (Or.inl ⟨by rfl,?_⟩) hS ?_
 rotate_left; focus (intro w hSw; (try dsimp only at hSw); go_simp; try with_reducible rfl)
 refine tails_take (T:=[5,6]) (i:=1) (o:=_) (x:=?_) rfl (by kernel_rfl) (by kernel_rfl) (by kernel_rfl) (by kernel_rfl) (fun _ _ _ h=>h) (Or.inl ⟨by rfl,?_⟩) hS ?_
 rotate_left; focus (intro w hSw; (try dsimp only at hSw); go_simp; try with_reducible rfl)
 refine tails_take (T:=[5,6]) (i:=2) (o:=_) (x:=?_) rfl (by kernel_rfl) (by kernel_rfl) (by kernel_rfl) (by kernel_rfl) (fun _ _ _ h=>h) (Or.inl ⟨by rfl,?_⟩) hS ?_
 rotate_left; focus (intro w hSw; (try dsimp only at hSw); go_simp; try with_reducible rfl)
 refine tails_take (T:=[5,6]) (i:=3) (o:=_) (x:=?_) rfl (by kernel_rfl) (by kernel_rfl) (by kernel_rfl) (by kernel_rfl) (fun _ _ _ h=>h) (Or.inl ⟨by rfl,?_⟩) hS ?_
 rotate_left; focus (intro w hSw; (try dsimp only at hSw); go_simp; try with_reducible rfl)
 conv=>arg 9; simp only [Act.put,go_sem]
 refine tn [5,6] 4 fun K hK=>?_
 go_simp;refine (d12.out _ (hC.out.below M.o.base)).mono ?_;rintro rr w10_ ⟨rfl,hb⟩;replace M:=Hd (M.o.below hb);clear hb
 try go_wp2_with fail
 refine hK.out _ _ (Or.inr ⟨(M.o.nth 3 rfl).two,(M.o.nth 4 rfl).two⟩) (fun hHeld=>?_);clear hK K hHeld;replace hS:=(And.intro (M.o.nth 3 rfl).two (M.o.nth 4 rfl).two)
 refine tn [5,6] 5 fun K hK=>?_
 have kc:=(M.o.nth 3 rfl).2.1;have kf:=(M.o.nth 3 rfl).2.2;replace M:=Hd (M.o.set2 3 rfl al ah);dsimp only [List.set] at M;go_simp;refine hK.out _ _ (Or.inl (by decide)) (fun hHeld=>?_);clear hK K hHeld kc kf
 refine tn [5,6] 6 fun K hK=>?_
 have kc:=(M.o.nth 2 rfl).2.1;have kf:=(M.o.nth 2 rfl).2.2;replace M:=Hd (M.o.set2 2 rfl bl bh);dsimp only [List.set] at M;go_simp;refine hK.out _ _ (Or.inl (by decide)) (fun hHeld=>?_);clear hK K hHeld kc kf;refine tails_done (by kernel_rfl) ?_ _;refine NoPanic.normal ?_;clear hS;revert M;generalize ((((w10_.setCell ⟨(w.heap.size+1),0,none⟩ (al:Value)).setCell ⟨(w.heap.size+1),1,none⟩ (ah:Value)).setCell ⟨(w.heap.size+1+1),0,none⟩ (bl:Value)).setCell ⟨(w.heap.size+1+1),1,none⟩ (bh:Value))=W11_;intro M;go_wp2;obtain⟨f1,f2⟩:=(M.o.nth 3 rfl).two;obtain⟨f3,f4⟩:=(M.o.nth 2 rfl).two;exact bodyPost_ret (v:=.tuple #[.agg #[.float .f64 al,.float .f64 ah],.agg #[.float .f64 bl,.float .f64 bh]]) (by simp [results,Tryz.results198,go_sem,f1,f2,f3,f4]) rfl ⟨rfl,M.o.base⟩
def os0J1 (w:World) (ml mh sl sh:Nat) (l:RowL) (a0:Act) (k:Nat) (p:List (Option Nat)) (a:Act) (v:World):Prop:=
 ∃ y1 y2 z1:Value,a=(((a0.put (some 15) y1).put (some 16) y2).put (some 9) z1)∧(0 < k→y1 = .agg #[ml,mh])∧(1 < k→y2 = .agg #[sl,sh])∧(∀ q,p[0]? = some (some q)→z1 = .pointer (some ⟨q,0,none⟩))∧OwnF w l [#[(),()]] p v
section
variable {w v:World} {ml mh sl sh:Nat} {l:RowL} {a0 a:Act} {p:List (Option Nat)}
theorem os0J1_0 (h:os0J1 w ml mh sl sh l a0 0 p a v):∃ y1 y2 z1:Value,a=(((a0.put (some 15) y1).put (some 16) y2).put (some 9) z1)∧(∀ q,p[0]? = some (some q)→z1 = .pointer (some ⟨q,0,none⟩))∧OwnF w l [#[(),()]] p v:=by
 obtain⟨y1,y2,z1,ha,E1,E2,G1,h⟩:=h;exact ⟨y1,y2,z1,ha,G1,h⟩
theorem os0J1_1 (h:os0J1 w ml mh sl sh l a0 1 p a v):∃ y2 z1:Value,a=(((a0.put (some 15) (.agg #[ml,mh])).put (some 16) y2).put (some 9) z1)∧(∀ q,p[0]? = some (some q)→z1 = .pointer (some ⟨q,0,none⟩))∧OwnF w l [#[(),()]] p v:=by
 obtain⟨y1,y2,z1,ha,E1,E2,G1,h⟩:=h;obtain rfl:=E1 (by decide);exact ⟨y2,z1,ha,G1,h⟩
theorem os0J1_fin {q1:Nat} (h:os0J1 w ml mh sl sh l a0 2 [some q1] a v):a=(((a0.put (some 15) (.agg #[ml,mh])).put (some 16) (.agg #[sl,sh])).put (some 9) (.pointer (some ⟨q1,0,none⟩)))∧OwnF w l [#[(),()]] [some q1] v:=by
 obtain⟨y1,y2,z1,ha,E1,E2,G1,h⟩:=h;obtain rfl:=E1 (by decide);obtain rfl:=E2 (by decide);obtain rfl:=G1 _ rfl;exact ⟨ha,h⟩
end
theorem oslope_low {il ih ol oh dl dh ml mh sl sh rl rh:Nat} {pb:Nat} (w:World) (hC:Hid (Has1 w (pb,#[true])))
  (d1:Hid (∀ v,Has1 v (pb,#[true])→Calls Tryz.prog 32 #[.pointer (some ⟨pb,0,none⟩),.agg #[il,ih],.agg #[ol,oh]] v (Rt (.agg #[ml,mh]) v)))
  (d2:Hid (∀ v,Has1 v (pb,#[true])→Calls Tryz.prog 34 #[.pointer (some ⟨pb,0,none⟩),.agg #[dl,dh],.agg #[ml,mh]] v (Rt (.agg #[sl,sh]) v)))
  (o_gtrsh_0:((FloatKind.f64.format.order sh 0 == some Ordering.gt)=false))
  (c3:CH 200 #[.agg #[(13830554455654793216:Nat),(4607182418800017408:Nat)],.agg #[sl,sh]] (.agg #[rl,rh])) :
  Calls Tryz.prog 199 #[.pointer (some ⟨pb,0,none⟩),.agg #[il,ih],.agg #[ol,oh],.agg #[dl,dh]] w (Rt (.agg #[rl,rh]) w):=by
 have M:=Hd (((((Own.nil w).made #[il,ih] 31).made #[ol,oh] 31).made #[dl,dh] 31).made #[(),()] 31);simp only [World.size_alloc] at M;have eqF:=eq_floats;go_enter Tryz.func199,Tryz.ntmps199;go_upto_region 1 with fail;replace M:=Hd M.o.drew;revert M;generalize ((((w.alloc (.cells #[il,ih] 31)).alloc (.cells #[ol,oh] 31)).alloc (.cells #[dl,dh] 31)).alloc (.cells #[(),()] 31))=W0_;intro M;refine wp_region_noPanic ?_;refine tails_region (S:=fun w'=>(Cf w' (w.heap.size+1+1) 0 dl∧Cf w' (w.heap.size+1+1) 1 dh)∧(Cf w' w.heap.size 0 il∧Cf w' w.heap.size 1 ih)∧(Cf w' (w.heap.size+1) 0 ol∧Cf w' (w.heap.size+1) 1 oh)) [] (by kernel_rfl) ?_ (fun hS=>?_)
 ·exact ⟨(M.o.nth 1 rfl).two,(M.o.nth 3 rfl).two,(M.o.nth 2 rfl).two⟩
 refine tk (x:=?_) 0 rfl (by kernel_rfl) ⟨by rfl,?_⟩ (fun _ _ _ h=>h) hS ?_
 rotate_left; focus (intro w hSw; (try dsimp only at hSw); go_simp; try with_reducible rfl)
 refine tk (x:=?_) 1 rfl (by kernel_rfl) ⟨by rfl,?_⟩ (fun _ _ _ h=>h) hS ?_
 rotate_left; focus (intro w hSw; (try dsimp only at hSw); go_simp; try with_reducible rfl)
 refine tk (x:=?_) 2 rfl (by kernel_rfl) ⟨by rfl,?_⟩ (fun _ _ _ h=>h) hS ?_
 rotate_left; focus (intro w hSw; (try dsimp only at hSw); go_simp; try with_reducible rfl)
 refine tk (x:=?_) 3 rfl (by kernel_rfl) ⟨by rfl,?_⟩ (fun _ _ _ h=>h) hS ?_
 rotate_left; focus (intro w hSw; (try dsimp only at hSw); go_simp; try with_reducible rfl)
 refine tk (x:=?_) 4 rfl (by kernel_rfl) ⟨by rfl,?_⟩ (fun _ _ _ h=>h) hS ?_
 rotate_left; focus (intro w hSw; (try dsimp only at hSw); go_simp; try with_reducible rfl)
 conv=>arg 9; simp only [Act.put,go_sem]
 refine lp_cc_1 M 5 6 7 [15,16,9] 1 (os0J1 w ml mh sl sh) (by kernel_rfl) (by kernel_rfl) ?_ ?_ ?_ ?_ ?_ ?_
 ·intro A hA
  obtain⟨y1,hq1⟩:=put_ex (hA 15 (by simp));obtain⟨y2,hq2⟩:=put_ex (hA 16 (by simp));obtain⟨z1,hq3⟩:=put_ex (hA 9 (by simp));exact ⟨y1,y2,z1,by rw [hq1,hq2,hq3],by omega,by omega,by simp,OwnF.start M.out 1⟩
 ·rintro k p a v ⟨y1,y2,z1,_,_,_,_,h⟩
  exact ⟨(h.own.nth 1 rfl).two,(h.own.nth 3 rfl).two,(h.own.nth 2 rfl).two⟩
 ·intro p a v hJ
  refine os fun K hK=>?_
  obtain⟨y1,y2,z1,ha,gg1,h⟩:=os0J1_0 hJ;have h:=Hd h;clear hJ;subst ha;go_simp;refine (d1.out _ (hC.out.below h.out.own.base)).mono ?_;rintro rr w5 ⟨rfl,hp⟩
  try go_wp2_with fail
  refine hK.out _ _ ⟨_,y2,z1,?_,fun _=>rfl,by omega,gg1,h.out.below hp⟩;kernel_rfl
 ·intro p a v hJ
  refine os fun K hK=>?_
  obtain⟨y2,z1,ha,gg1,h⟩:=os0J1_1 hJ;have h:=Hd h;clear hJ;subst ha;go_simp;refine (d2.out _ (hC.out.below h.out.own.base)).mono ?_;rintro rr w5 ⟨rfl,hp⟩
  try go_wp2_with fail
  refine hK.out _ _ ⟨_,_,z1,?_,fun _=>rfl,fun _=>rfl,gg1,h.out.below hp⟩;kernel_rfl
 ·intro k p a v hp hJ
  refine os fun K hK=>?_
  obtain⟨y1,y2,z1,ha,ee1,ee2,gg1,h⟩:=hJ;have h:=Hd h;subst ha;go_simp;refine hK.out _ _ ⟨v.heap.size,y1,y2,.pointer (some ⟨v.heap.size,0,none⟩),?_,ee1,ee2,fun q hq=>ptr_set hq,h.out.alloc hp rfl _⟩;kernel_rfl
 intro p1_1 a v hJ;obtain⟨rfl,h⟩:=os0J1_fin hJ;clear hJ;replace M:=Hd h.fin1;clear h
 refine tn [] 8 fun K hK=>?_
 have kc:=(M.o.nth 0 rfl).2.1;have kf:=(M.o.nth 0 rfl).2.2;replace M:=Hd (M.o.set2 0 rfl sl sh);dsimp only [List.set] at M;go_simp;refine hK.out _ _ (Or.inr ⟨(M.o.nth 2 rfl).two,(M.o.nth 4 rfl).two,(M.o.nth 3 rfl).two⟩) (fun hHeld=>?_);clear hK K hHeld kc kf;refine tails_done (by kernel_rfl) ?_ _;refine NoPanic.normal ?_;clear hS;revert M;generalize ((v.setCell ⟨p1_1,0,none⟩ (sl:Value)).setCell ⟨p1_1,1,none⟩ (sh:Value))=W1_;intro M;obtain⟨k1,k2⟩:=(M.o.nth 0 rfl).two;obtain⟨k3,k4⟩:=(M.o.nth 0 rfl).two;go_wp2_with fail;refine (c3.out _).mono ?_;rintro r w2_ ⟨rfl,hb⟩;replace M:=Hd (M.o.below hb);clear hb;clear k1 k2 k3 k4;have kc:=(M.o.nth 1 rfl).2.1;have kf:=(M.o.nth 1 rfl).2.2;replace M:=Hd (M.o.set2 1 rfl rl rh);dsimp only [List.set] at M;go_wp2;obtain⟨f1,f2⟩:=(M.o.nth 1 rfl).two;exact bodyPost_ret (v:=.agg #[.float .f64 rl,.float .f64 rh]) (by simp [results,Tryz.results199,go_sem,f1,f2]) rfl ⟨rfl,M.o.base⟩
def os1J1 (w:World) (ml mh sl sh:Nat) (l:RowL) (a0:Act) (k:Nat) (p:List (Option Nat)) (a:Act) (v:World):Prop:=
 ∃ y1 y2 z1:Value,a=(((a0.put (some 15) y1).put (some 16) y2).put (some 9) z1)∧(0 < k→y1 = .agg #[ml,mh])∧(1 < k→y2 = .agg #[sl,sh])∧(∀ q,p[0]? = some (some q)→z1 = .pointer (some ⟨q,0,none⟩))∧OwnF w l [#[(),()]] p v
section
variable {w v:World} {ml mh sl sh:Nat} {l:RowL} {a0 a:Act} {p:List (Option Nat)}
theorem os1J1_0 (h:os1J1 w ml mh sl sh l a0 0 p a v):∃ y1 y2 z1:Value,a=(((a0.put (some 15) y1).put (some 16) y2).put (some 9) z1)∧(∀ q,p[0]? = some (some q)→z1 = .pointer (some ⟨q,0,none⟩))∧OwnF w l [#[(),()]] p v:=by
 obtain⟨y1,y2,z1,ha,E1,E2,G1,h⟩:=h;exact ⟨y1,y2,z1,ha,G1,h⟩
theorem os1J1_1 (h:os1J1 w ml mh sl sh l a0 1 p a v):∃ y2 z1:Value,a=(((a0.put (some 15) (.agg #[ml,mh])).put (some 16) y2).put (some 9) z1)∧(∀ q,p[0]? = some (some q)→z1 = .pointer (some ⟨q,0,none⟩))∧OwnF w l [#[(),()]] p v:=by
 obtain⟨y1,y2,z1,ha,E1,E2,G1,h⟩:=h;obtain rfl:=E1 (by decide);exact ⟨y2,z1,ha,G1,h⟩
theorem os1J1_fin {q1:Nat} (h:os1J1 w ml mh sl sh l a0 2 [some q1] a v):a=(((a0.put (some 15) (.agg #[ml,mh])).put (some 16) (.agg #[sl,sh])).put (some 9) (.pointer (some ⟨q1,0,none⟩)))∧OwnF w l [#[(),()]] [some q1] v:=by
 obtain⟨y1,y2,z1,ha,E1,E2,G1,h⟩:=h;obtain rfl:=E1 (by decide);obtain rfl:=E2 (by decide);obtain rfl:=G1 _ rfl;exact ⟨ha,h⟩
end
theorem oslope_high {il ih ol oh dl dh ml mh sl sh xl xh gl gh rl rh:Nat} {e:Int} {pb:Nat} (w:World) (hC:Hid (Has1 w (pb,#[true])))
  (d1:Hid (∀ v,Has1 v (pb,#[true])→Calls Tryz.prog 32 #[.pointer (some ⟨pb,0,none⟩),.agg #[il,ih],.agg #[ol,oh]] v (Rt (.agg #[ml,mh]) v)))
  (d2:Hid (∀ v,Has1 v (pb,#[true])→Calls Tryz.prog 34 #[.pointer (some ⟨pb,0,none⟩),.agg #[dl,dh],.agg #[ml,mh]] v (Rt (.agg #[sl,sh]) v)))
  (o_gtrsh_0:((FloatKind.f64.format.order sh 0 == some Ordering.gt)=true))
  (d3:Hid (∀ v,Has1 v (pb,#[true])→Calls Tryz.prog 33 #[.pointer (some ⟨pb,0,none⟩),.agg #[il,ih],.agg #[ol,oh]] v (Rt (.agg #[xl,xh]) v)))
  (d4:Hid (∀ v,Has1 v (pb,#[true])→Calls Tryz.prog 213 #[.pointer (some ⟨pb,0,none⟩),.agg #[sl,sh],.agg #[xl,xh]] v fun r w'=>r = .returned (.agg #[gl,gh])∧Put ⟨pb,0,none⟩ (.int .i64 e) v w'))
  (c5:CH 200 #[.agg #[(13830554455654793216:Nat),(4607182418800017408:Nat)],.agg #[gl,gh]] (.agg #[rl,rh])) :
  Calls Tryz.prog 199 #[.pointer (some ⟨pb,0,none⟩),.agg #[il,ih],.agg #[ol,oh],.agg #[dl,dh]] w fun r w'=>r = .returned (.agg #[rl,rh])∧Put ⟨pb,0,none⟩ (.int .i64 e) w w':=by
 have M:=Hd (((((Own.nil w).made #[il,ih] 31).made #[ol,oh] 31).made #[dl,dh] 31).made #[(),()] 31);simp only [World.size_alloc] at M;have eqF:=eq_floats;go_enter Tryz.func199,Tryz.ntmps199;go_upto_region 1 with fail;replace M:=Hd M.o.drew;revert M;generalize ((((w.alloc (.cells #[il,ih] 31)).alloc (.cells #[ol,oh] 31)).alloc (.cells #[dl,dh] 31)).alloc (.cells #[(),()] 31))=W0_;intro M;refine wp_region_noPanic ?_;refine tails_region (S:=fun w'=>(Cf w' (w.heap.size+1+1) 0 dl∧Cf w' (w.heap.size+1+1) 1 dh)∧(Cf w' w.heap.size 0 il∧Cf w' w.heap.size 1 ih)∧(Cf w' (w.heap.size+1) 0 ol∧Cf w' (w.heap.size+1) 1 oh)) [] (by kernel_rfl) ?_ (fun hS=>?_)
 ·exact ⟨(M.o.nth 1 rfl).two,(M.o.nth 3 rfl).two,(M.o.nth 2 rfl).two⟩
 refine tk (x:=?_) 0 rfl (by kernel_rfl) ⟨by rfl,?_⟩ (fun _ _ _ h=>h) hS ?_
 rotate_left; focus (intro w hSw; (try dsimp only at hSw); go_simp; try with_reducible rfl)
 refine tk (x:=?_) 1 rfl (by kernel_rfl) ⟨by rfl,?_⟩ (fun _ _ _ h=>h) hS ?_
 rotate_left; focus (intro w hSw; (try dsimp only at hSw); go_simp; try with_reducible rfl)
 refine tk (x:=?_) 2 rfl (by kernel_rfl) ⟨by rfl,?_⟩ (fun _ _ _ h=>h) hS ?_
 rotate_left; focus (intro w hSw; (try dsimp only at hSw); go_simp; try with_reducible rfl)
 refine tk (x:=?_) 3 rfl (by kernel_rfl) ⟨by rfl,?_⟩ (fun _ _ _ h=>h) hS ?_
 rotate_left; focus (intro w hSw; (try dsimp only at hSw); go_simp; try with_reducible rfl)
 refine tk (x:=?_) 4 rfl (by kernel_rfl) ⟨by rfl,?_⟩ (fun _ _ _ h=>h) hS ?_
 rotate_left; focus (intro w hSw; (try dsimp only at hSw); go_simp; try with_reducible rfl)
 conv=>arg 9; simp only [Act.put,go_sem]
 refine lp_cc_1 M 5 6 7 [15,16,9] 1 (os1J1 w ml mh sl sh) (by kernel_rfl) (by kernel_rfl) ?_ ?_ ?_ ?_ ?_ ?_
 ·intro A hA
  obtain⟨y1,hq1⟩:=put_ex (hA 15 (by simp));obtain⟨y2,hq2⟩:=put_ex (hA 16 (by simp));obtain⟨z1,hq3⟩:=put_ex (hA 9 (by simp));exact ⟨y1,y2,z1,by rw [hq1,hq2,hq3],by omega,by omega,by simp,OwnF.start M.out 1⟩
 ·rintro k p a v ⟨y1,y2,z1,_,_,_,_,h⟩
  exact ⟨(h.own.nth 1 rfl).two,(h.own.nth 3 rfl).two,(h.own.nth 2 rfl).two⟩
 ·intro p a v hJ
  refine os fun K hK=>?_
  obtain⟨y1,y2,z1,ha,gg1,h⟩:=os1J1_0 hJ;have h:=Hd h;clear hJ;subst ha;go_simp;refine (d1.out _ (hC.out.below h.out.own.base)).mono ?_;rintro rr w5 ⟨rfl,hp⟩
  try go_wp2_with fail
  refine hK.out _ _ ⟨_,y2,z1,?_,fun _=>rfl,by omega,gg1,h.out.below hp⟩;kernel_rfl
 ·intro p a v hJ
  refine os fun K hK=>?_
  obtain⟨y2,z1,ha,gg1,h⟩:=os1J1_1 hJ;have h:=Hd h;clear hJ;subst ha;go_simp;refine (d2.out _ (hC.out.below h.out.own.base)).mono ?_;rintro rr w5 ⟨rfl,hp⟩
  try go_wp2_with fail
  refine hK.out _ _ ⟨_,_,z1,?_,fun _=>rfl,fun _=>rfl,gg1,h.out.below hp⟩;kernel_rfl
 ·intro k p a v hp hJ
  refine os fun K hK=>?_
  obtain⟨y1,y2,z1,ha,ee1,ee2,gg1,h⟩:=hJ;have h:=Hd h;subst ha;go_simp;refine hK.out _ _ ⟨v.heap.size,y1,y2,.pointer (some ⟨v.heap.size,0,none⟩),?_,ee1,ee2,fun q hq=>ptr_set hq,h.out.alloc hp rfl _⟩;kernel_rfl
 intro p1_1 a v hJ;obtain⟨rfl,h⟩:=os1J1_fin hJ;clear hJ;replace M:=Hd h.fin1;clear h
 refine tn [] 8 fun K hK=>?_
 have kc:=(M.o.nth 0 rfl).2.1;have kf:=(M.o.nth 0 rfl).2.2;replace M:=Hd (M.o.set2 0 rfl sl sh);dsimp only [List.set] at M;go_simp;refine hK.out _ _ (Or.inr ⟨(M.o.nth 2 rfl).two,(M.o.nth 4 rfl).two,(M.o.nth 3 rfl).two⟩) (fun hHeld=>?_);clear hK K hHeld kc kf;refine tails_done (by kernel_rfl) ?_ _;refine NoPanic.normal ?_;clear hS;revert M;generalize ((v.setCell ⟨p1_1,0,none⟩ (sl:Value)).setCell ⟨p1_1,1,none⟩ (sh:Value))=W1_;intro M;obtain⟨k1,k2⟩:=(M.o.nth 0 rfl).two;go_upto_region 3 with fail;clear k1 k2;replace M:=Hd M.o.drew;refine wp_region_noPanic ?_;refine tails_region (S:=fun w'=>(Cf w' p1_1 0 sl∧Cf w' p1_1 1 sh)∧(Cf w' w.heap.size 0 il∧Cf w' w.heap.size 1 ih)∧(Cf w' (w.heap.size+1) 0 ol∧Cf w' (w.heap.size+1) 1 oh)) [7] (by kernel_rfl) ?_ (fun hS=>?_)
 ·exact ⟨(M.o.nth 0 rfl).two,(M.o.nth 4 rfl).two,(M.o.nth 3 rfl).two⟩
 refine tails_take (T:=[7]) (i:=0) (o:=_) (x:=?_) rfl (by kernel_rfl) (by kernel_rfl) (by kernel_rfl) (by kernel_rfl) (fun _ _ _ h=>h) (Or.inl ⟨by rfl,?_⟩) hS ?_
 rotate_left; focus (intro w hSw; (try dsimp only at hSw); go_simp; try with_reducible rfl)
 refine tails_take (T:=[7]) (i:=1) (o:=_) (x:=?_) rfl (by kernel_rfl) (by kernel_rfl) (by kernel_rfl) (by kernel_rfl) (fun _ _ _ h=>h) (Or.inl ⟨by rfl,?_⟩) hS ?_
 rotate_left; focus (intro w hSw; (try dsimp only at hSw); go_simp; try with_reducible rfl)
 refine tails_take (T:=[7]) (i:=2) (o:=_) (x:=?_) rfl (by kernel_rfl) (by kernel_rfl) (by kernel_rfl) (by kernel_rfl) (fun _ _ _ h=>h) (Or.inl ⟨by rfl,?_⟩) hS ?_
 rotate_left; focus (intro w hSw; (try dsimp only at hSw); go_simp; try with_reducible rfl)
 refine tails_take (T:=[7]) (i:=3) (o:=_) (x:=?_) rfl (by kernel_rfl) (by kernel_rfl) (by kernel_rfl) (by kernel_rfl) (fun _ _ _ h=>h) (Or.inl ⟨by rfl,?_⟩) hS ?_
 rotate_left; focus (intro w hSw; (try dsimp only at hSw); go_simp; try with_reducible rfl)
 refine tails_take (T:=[7]) (i:=4) (o:=_) (x:=?_) rfl (by kernel_rfl) (by kernel_rfl) (by kernel_rfl) (by kernel_rfl) (fun _ _ _ h=>h) (Or.inl ⟨by rfl,?_⟩) hS ?_
 rotate_left; focus (intro w hSw; (try dsimp only at hSw); go_simp; try with_reducible rfl)
 conv=>arg 9; simp only [Act.put,go_sem]
 refine tn [7] 5 fun K hK=>?_
 go_simp;refine (d3.out _ (hC.out.below M.o.base)).mono ?_;rintro rr w2_ ⟨rfl,hb⟩;replace M:=Hd (M.o.below hb);clear hb
 try go_wp2_with fail
 refine hK.out _ _ (Or.inr ⟨(M.o.nth 0 rfl).two,(M.o.nth 4 rfl).two,(M.o.nth 3 rfl).two⟩) (fun hHeld=>?_);clear hK K hHeld;replace hS:=(And.intro (M.o.nth 0 rfl).two (And.intro (M.o.nth 4 rfl).two (M.o.nth 3 rfl).two))
 refine tn [7] 6 fun K hK=>?_
 go_simp;refine (d4.out _ (hC.out.below M.o.base)).mono ?_;rintro rr w3_ ⟨rfl,hb⟩;replace M:=Hd (M.o.rebase hC.out.1 hb);replace hC:=Hd (hC.out.other (.int .i64 e));clear hb
 try go_wp2_with fail
 refine hK.out _ _ (Or.inr ⟨(M.o.nth 0 rfl).two,(M.o.nth 4 rfl).two,(M.o.nth 3 rfl).two⟩) (fun hHeld=>?_);clear hK K hHeld;replace hS:=(And.intro (M.o.nth 0 rfl).two (And.intro (M.o.nth 4 rfl).two (M.o.nth 3 rfl).two))
 refine tn [7] 7 fun K hK=>?_
 have kc:=(M.o.nth 0 rfl).2.1;have kf:=(M.o.nth 0 rfl).2.2;replace M:=Hd (M.o.set2 0 rfl gl gh);dsimp only [List.set] at M;go_simp;refine hK.out _ _ (Or.inl (by decide)) (fun hHeld=>?_);clear hK K hHeld kc kf;refine tails_done (by kernel_rfl) ?_ _;refine NoPanic.normal ?_;clear hS;revert M;generalize ((w3_.setCell ⟨p1_1,0,none⟩ (gl:Value)).setCell ⟨p1_1,1,none⟩ (gh:Value))=W4_;intro M;obtain⟨k1,k2⟩:=(M.o.nth 0 rfl).two;go_wp2_with fail;refine (c5.out _).mono ?_;rintro r w5_ ⟨rfl,hb⟩;replace M:=Hd (M.o.below hb);clear hb;clear k1 k2;have kc:=(M.o.nth 1 rfl).2.1;have kf:=(M.o.nth 1 rfl).2.2;replace M:=Hd (M.o.set2 1 rfl rl rh);dsimp only [List.set] at M;go_wp2;obtain⟨f1,f2⟩:=(M.o.nth 1 rfl).two;exact bodyPost_ret (v:=.agg #[.float .f64 rl,.float .f64 rh]) (by simp [results,Tryz.results199,go_sem,f1,f2]) rfl ⟨rfl,M.o.put⟩
theorem steep_pos {al ah gl gh m rl rh:Nat} {e:Int} {pb:Nat} (w:World) (hC:Hid (Has1 w (pb,#[true])))
  (m_m:(∀ ts t w,(Builtin.max_ ts t #[al,()]).run Tryz.prog w = .ok (m:Value) w))
  (d1:Hid (∀ v,Has1 v (pb,#[true])→Calls Tryz.prog 60 #[.pointer (some ⟨pb,0,none⟩),.agg #[m,ah],.agg #[gl,gh]] v fun r w'=>r = .returned (.agg #[rl,rh])∧Put ⟨pb,0,none⟩ (.int .i64 e) v w'))
  (o_geqal_0:(((FloatKind.f64.format.order al 0 == some Ordering.gt) || (FloatKind.f64.format.order al 0 == some Ordering.eq))=true)) :
  Calls Tryz.prog 213 #[.pointer (some ⟨pb,0,none⟩),.agg #[al,ah],.agg #[gl,gh]] w fun r w'=>r = .returned (.agg #[rl,rh])∧Put ⟨pb,0,none⟩ (.int .i64 e) w w':=by
 have M:=Hd ((((Own.nil w).made #[al,ah] 31).made #[gl,gh] 31).made #[(),()] 31);simp only [World.size_alloc] at M;have eqF:=eq_floats;go_enter Tryz.func213,Tryz.ntmps213;obtain⟨k1,k2⟩:=(M.o.nth 2 rfl).two;obtain⟨k3,k4⟩:=(M.o.nth 1 rfl).two;go_wp2_with fail;refine (d1.out _ (hC.out.below M.o.base)).mono ?_;rintro r w1_ ⟨rfl,hb⟩;replace M:=Hd (M.o.rebase hC.out.1 hb);replace hC:=Hd (hC.out.other (.int .i64 e));clear hb;clear k1 k2 k3 k4;replace M:=Hd (M.o.made #[rl,rh] 31);obtain⟨k1,k2⟩:=(M.o.nth 3 rfl).two;have kc:=(M.o.nth 1 rfl).2.1;have kf:=(M.o.nth 1 rfl).2.2;replace M:=Hd (M.o.set2 1 rfl rl rh);dsimp only [List.set] at M;obtain⟨k5,k6⟩:=(M.o.nth 0 rfl).two;go_wp2;obtain⟨f1,f2⟩:=(M.o.nth 1 rfl).two;exact bodyPost_ret (v:=.agg #[.float .f64 rl,.float .f64 rh]) (by simp [results,Tryz.results213,go_sem,f1,f2]) rfl ⟨rfl,M.o.put⟩
theorem steep_err {al ah gl gh m rl rh:Nat} {e:Int} {pb:Nat} (w:World) (hC:Hid (Has1 w (pb,#[true])))
  (m_m:(∀ ts t w,(Builtin.max_ ts t #[al,()]).run Tryz.prog w = .ok (m:Value) w))
  (d1:Hid (∀ v,Has1 v (pb,#[true])→Calls Tryz.prog 60 #[.pointer (some ⟨pb,0,none⟩),.agg #[m,ah],.agg #[gl,gh]] v fun r w'=>r = .returned (.agg #[rl,rh])∧Put ⟨pb,0,none⟩ (.int .i64 e) v w'))
  (o_geqal_0:(((FloatKind.f64.format.order al 0 == some Ordering.gt) || (FloatKind.f64.format.order al 0 == some Ordering.eq))=false))
  (hne:(e != 0)=true) :
  Calls Tryz.prog 213 #[.pointer (some ⟨pb,0,none⟩),.agg #[al,ah],.agg #[gl,gh]] w fun r w'=>r = .returned (.agg #[rl,rh])∧Put ⟨pb,0,none⟩ (.int .i64 e) w w':=by
 have M:=Hd ((((Own.nil w).made #[al,ah] 31).made #[gl,gh] 31).made #[(),()] 31);simp only [World.size_alloc] at M;have eqF:=eq_floats;go_enter Tryz.func213,Tryz.ntmps213;obtain⟨k1,k2⟩:=(M.o.nth 2 rfl).two;obtain⟨k3,k4⟩:=(M.o.nth 1 rfl).two;go_wp2_with fail;refine (d1.out _ (hC.out.below M.o.base)).mono ?_;rintro r w1_ ⟨rfl,hb⟩;replace M:=Hd (M.o.rebase hC.out.1 hb);replace hC:=Hd (hC.out.other (.int .i64 e));clear hb;clear k1 k2 k3 k4;replace M:=Hd (M.o.made #[rl,rh] 31);obtain⟨k1,k2⟩:=(M.o.nth 3 rfl).two;go_wp2_with fail;refine (err_any e _ 0 _ (hC.out.below M.o.base).pc).mono ?_;rintro r w2_ ⟨rfl,rfl⟩;clear k1 k2;have kc:=(M.o.nth 1 rfl).2.1;have kf:=(M.o.nth 1 rfl).2.2;replace M:=Hd (M.o.set2 1 rfl rl rh);dsimp only [List.set] at M;obtain⟨k3,k4⟩:=(M.o.nth 0 rfl).two;go_wp2;obtain⟨f1,f2⟩:=(M.o.nth 1 rfl).two;exact bodyPost_ret (v:=.agg #[.float .f64 rl,.float .f64 rh]) (by simp [results,Tryz.results213,go_sem,f1,f2]) rfl ⟨rfl,M.o.put⟩
theorem steep_mid {al ah gl gh m rl rh hl hh:Nat} {pb:Nat} (w:World) (hC:Hid (Has1 w (pb,#[true])))
  (m_m:(∀ ts t w,(Builtin.max_ ts t #[al,()]).run Tryz.prog w = .ok (m:Value) w))
  (d1:Hid (∀ v,Has1 v (pb,#[true])→Calls Tryz.prog 60 #[.pointer (some ⟨pb,0,none⟩),.agg #[m,ah],.agg #[gl,gh]] v (Rt (.agg #[rl,rh]) v)))
  (o_geqal_0:(((FloatKind.f64.format.order al 0 == some Ordering.gt) || (FloatKind.f64.format.order al 0 == some Ordering.eq))=false))
  (c3:CH 65 #[.agg #[al,()],.agg #[rl,rh]] (.agg #[hl,hh])) :
  Calls Tryz.prog 213 #[.pointer (some ⟨pb,0,none⟩),.agg #[al,ah],.agg #[gl,gh]] w (Rt (.agg #[hl,hh]) w):=by
 have M:=Hd ((((Own.nil w).made #[al,ah] 31).made #[gl,gh] 31).made #[(),()] 31);simp only [World.size_alloc] at M;have eqF:=eq_floats;go_enter Tryz.func213,Tryz.ntmps213;obtain⟨k1,k2⟩:=(M.o.nth 2 rfl).two;obtain⟨k3,k4⟩:=(M.o.nth 1 rfl).two;go_wp2_with fail;refine (d1.out _ (hC.out.below M.o.base)).mono ?_;rintro r w1_ ⟨rfl,hb⟩;replace M:=Hd (M.o.below hb);clear hb;clear k1 k2 k3 k4;replace M:=Hd (M.o.made #[rl,rh] 31);obtain⟨k1,k2⟩:=(M.o.nth 3 rfl).two;go_wp2_with fail;refine (err_any 0 _ 0 _ (hC.out.below M.o.base).pc).mono ?_;rintro r w2_ ⟨rfl,rfl⟩;clear k1 k2;obtain⟨k1,k2⟩:=(M.o.nth 3 rfl).two;obtain⟨k3,k4⟩:=(M.o.nth 0 rfl).two;go_wp2_with fail;refine (c3.out _).mono ?_;rintro r w3_ ⟨rfl,hb⟩;replace M:=Hd (M.o.below hb);clear hb;clear k1 k2 k3 k4;have kc:=(M.o.nth 1 rfl).2.1;have kf:=(M.o.nth 1 rfl).2.2;replace M:=Hd (M.o.set2 1 rfl hl hh);dsimp only [List.set] at M;go_wp2;obtain⟨f1,f2⟩:=(M.o.nth 1 rfl).two
 exact bodyPost_ret (v:=.agg #[.float .f64 hl,.float .f64 hh]) (by simp [results,Tryz.results213,go_sem,f1,f2]) rfl ⟨rfl,M.o.base⟩
def oV0J6 (w:World) (pb:Nat) (tl th ml mh nl nh xl xh:Nat) (ek:Nat→Int) (l:RowL) (a0:Act) (k:Nat) (p:List (Option Nat)) (a:Act) (v:World):Prop:=
 ∃ y1 y2 y3 y4 z1:Value,a=(((((a0.put (some 39) y1).put (some 40) y2).put (some 41) y3).put (some 42) y4).put (some 16) z1)∧(0 < k→y1 = .agg #[tl,th])∧(1 < k→y2 = .agg #[ml,mh])∧(2 < k→y3 = .agg #[nl,nh])∧(3 < k→y4 = .agg #[xl,xh])∧(∀ q,p[0]? = some (some q)→z1 = .pointer (some ⟨q,0,none⟩))∧OwnF w ((pb,#[.int .i64 (ek k)]) :: l) [#[(),()]] p v
section
variable {w v:World} {pb:Nat} {tl th ml mh nl nh xl xh:Nat} {ek:Nat→Int} {l:RowL} {a0 a:Act} {p:List (Option Nat)}
theorem oV0J6_0 (h:oV0J6 w pb tl th ml mh nl nh xl xh ek l a0 0 p a v):∃ y1 y2 y3 y4 z1:Value,a=(((((a0.put (some 39) y1).put (some 40) y2).put (some 41) y3).put (some 42) y4).put (some 16) z1)∧(∀ q,p[0]? = some (some q)→z1 = .pointer (some ⟨q,0,none⟩))∧OwnF w ((pb,#[.int .i64 (ek 0)]) :: l) [#[(),()]] p v:=by
 obtain⟨y1,y2,y3,y4,z1,ha,E1,E2,E3,E4,G1,h⟩:=h;exact ⟨y1,y2,y3,y4,z1,ha,G1,h⟩
theorem oV0J6_1 (h:oV0J6 w pb tl th ml mh nl nh xl xh ek l a0 1 p a v):∃ y2 y3 y4 z1:Value,a=(((((a0.put (some 39) (.agg #[tl,th])).put (some 40) y2).put (some 41) y3).put (some 42) y4).put (some 16) z1)∧(∀ q,p[0]? = some (some q)→z1 = .pointer (some ⟨q,0,none⟩))∧OwnF w ((pb,#[.int .i64 (ek 1)]) :: l) [#[(),()]] p v:=by
 obtain⟨y1,y2,y3,y4,z1,ha,E1,E2,E3,E4,G1,h⟩:=h;obtain rfl:=E1 (by decide);exact ⟨y2,y3,y4,z1,ha,G1,h⟩
theorem oV0J6_2 (h:oV0J6 w pb tl th ml mh nl nh xl xh ek l a0 2 p a v):∃ y3 y4 z1:Value,a=(((((a0.put (some 39) (.agg #[tl,th])).put (some 40) (.agg #[ml,mh])).put (some 41) y3).put (some 42) y4).put (some 16) z1)∧(∀ q,p[0]? = some (some q)→z1 = .pointer (some ⟨q,0,none⟩))∧OwnF w ((pb,#[.int .i64 (ek 2)]) :: l) [#[(),()]] p v:=by
 obtain⟨y1,y2,y3,y4,z1,ha,E1,E2,E3,E4,G1,h⟩:=h;obtain rfl:=E1 (by decide);obtain rfl:=E2 (by decide);exact ⟨y3,y4,z1,ha,G1,h⟩
theorem oV0J6_3 (h:oV0J6 w pb tl th ml mh nl nh xl xh ek l a0 3 p a v):∃ y4 z1:Value,a=(((((a0.put (some 39) (.agg #[tl,th])).put (some 40) (.agg #[ml,mh])).put (some 41) (.agg #[nl,nh])).put (some 42) y4).put (some 16) z1)∧(∀ q,p[0]? = some (some q)→z1 = .pointer (some ⟨q,0,none⟩))∧OwnF w ((pb,#[.int .i64 (ek 3)]) :: l) [#[(),()]] p v:=by
 obtain⟨y1,y2,y3,y4,z1,ha,E1,E2,E3,E4,G1,h⟩:=h;obtain rfl:=E1 (by decide);obtain rfl:=E2 (by decide);obtain rfl:=E3 (by decide);exact ⟨y4,z1,ha,G1,h⟩
theorem oV0J6_fin {q1:Nat} (h:oV0J6 w pb tl th ml mh nl nh xl xh ek l a0 4 [some q1] a v):a=(((((a0.put (some 39) (.agg #[tl,th])).put (some 40) (.agg #[ml,mh])).put (some 41) (.agg #[nl,nh])).put (some 42) (.agg #[xl,xh])).put (some 16) (.pointer (some ⟨q1,0,none⟩)))∧OwnF w ((pb,#[.int .i64 (ek 4)]) :: l) [#[(),()]] [some q1] v:=by
 obtain⟨y1,y2,y3,y4,z1,ha,E1,E2,E3,E4,G1,h⟩:=h;obtain rfl:=E1 (by decide);obtain rfl:=E2 (by decide);obtain rfl:=E3 (by decide);obtain rfl:=E4 (by decide);obtain rfl:=G1 _ rfl;exact ⟨ha,h⟩
end
theorem oValue_ok {rl rh sl sh il ih ol oh dl dh al ah bl bh tl th ml mh nl nh xl xh zl zh:Nat} {e:Int} (w:World)
  (c1:CH 197 #[.agg #[rl,rh,sl,sh,il,ih,ol,oh,dl,dh]] (.int .i64 0))
  (d2:Hid (∀ pb v,Has1 v (pb,#[true])→Calls Tryz.prog 198 #[.pointer (some ⟨pb,0,none⟩),.agg #[sl,sh]] v (Rt (.tuple #[.agg #[al,ah],.agg #[bl,bh]]) v)))
  (d3:Hid (∀ pb v,Has1 v (pb,#[true])→Calls Tryz.prog 199 #[.pointer (some ⟨pb,0,none⟩),.agg #[il,ih],.agg #[ol,oh],.agg #[dl,dh]] v fun r w'=>r = .returned (.agg #[tl,th])∧Put ⟨pb,0,none⟩ (.int .i64 e) v w'))
  (d4:Hid (∀ pb v,Has1 v (pb,#[.int .i64 e])→Calls Tryz.prog 32 #[.pointer (some ⟨pb,0,none⟩),.agg #[bl,bh],.agg #[tl,th]] v fun r w'=>r = .returned (.agg #[ml,mh])∧Put ⟨pb,0,none⟩ (.int .i64 e) v w'))
  (d5:Hid (∀ pb v,Has1 v (pb,#[.int .i64 e])→Calls Tryz.prog 103 #[.pointer (some ⟨pb,0,none⟩),.agg #[al,ah],.agg #[ml,mh]] v fun r w'=>r = .returned (.agg #[nl,nh])∧Put ⟨pb,0,none⟩ (.int .i64 e) v w'))
  (d6:Hid (∀ pb v,Has1 v (pb,#[.int .i64 e])→Calls Tryz.prog 32 #[.pointer (some ⟨pb,0,none⟩),.agg #[rl,rh],.agg #[nl,nh]] v fun r w'=>r = .returned (.agg #[xl,xh])∧Put ⟨pb,0,none⟩ (.int .i64 e) v w'))
  (c7:CH 200 #[.agg #[(),(4607182418800017408:Nat)],.agg #[xl,xh]] (.agg #[zl,zh])) :
  Calls Tryz.prog 185 #[.agg #[rl,rh],.agg #[sl,sh],.agg #[il,ih],.agg #[ol,oh],.agg #[dl,dh]] w (Rt (.tuple #[.agg #[zl,zh],.int .i64 e]) w):=by
 have M:=Hd (((((((Own.nil w).made #[rl,rh] 31).made #[sl,sh] 31).made #[il,ih] 31).made #[ol,oh] 31).made #[dl,dh] 31).made #[(),()] 31);simp only [World.size_alloc] at M;have eqF:=eq_floats;go_enter Tryz.func185,Tryz.ntmps185;obtain⟨k1,k2⟩:=(M.o.nth 5 rfl).two;obtain⟨k3,k4⟩:=(M.o.nth 4 rfl).two;obtain⟨k5,k6⟩:=(M.o.nth 3 rfl).two;obtain⟨k7,k8⟩:=(M.o.nth 2 rfl).two;obtain⟨k9,k10⟩:=(M.o.nth 1 rfl).two;go_wp2_with fail;refine (c1.out _).mono ?_;rintro r w1_ ⟨rfl,hb⟩;replace M:=Hd (M.o.below hb);clear hb;clear k1 k2 k3 k4 k5 k6 k7 k8 k9 k10;replace M:=Hd (M.o.made #[true] 74);obtain⟨k1,k2⟩:=(M.o.nth 5 rfl).two;go_wp2_with fail;refine (d2.out _ _ (M.o.nth 0 rfl)).mono ?_;rintro r w2_ ⟨rfl,hb⟩;replace M:=Hd (M.o.below hb);clear hb;clear k1 k2;replace M:=Hd (M.o.made #[al,ah] 31).front;replace M:=Hd (M.o.made #[bl,bh] 31).front;simp only [World.size_alloc] at M;go_upto_region 6 with fail;replace M:=Hd M.o.drew
 revert M;generalize ((w2_.alloc (.cells #[al,ah] 31)).alloc (.cells #[bl,bh] 31))=W3_;intro M;refine wp_region_noPanic ?_;refine tails_region (S:=fun w'=>(Cf w' w.heap.size 0 rl∧Cf w' w.heap.size 1 rh)∧(Cf w' w2_.heap.size 0 al∧Cf w' w2_.heap.size 1 ah)∧(Cf w' (w2_.heap.size+1) 0 bl∧Cf w' (w2_.heap.size+1) 1 bh)∧(Cf w' (w.heap.size+1+1) 0 il∧Cf w' (w.heap.size+1+1) 1 ih)∧(Cf w' (w.heap.size+1+1+1) 0 ol∧Cf w' (w.heap.size+1+1+1) 1 oh)∧(Cf w' (w.heap.size+1+1+1+1) 0 dl∧Cf w' (w.heap.size+1+1+1+1) 1 dh)) [] (by kernel_rfl) ?_ (fun hS=>?_)
 ·exact ⟨(M.o.nth 8 rfl).two,(M.o.nth 2 rfl).two,(M.o.nth 1 rfl).two,(M.o.nth 6 rfl).two,(M.o.nth 5 rfl).two,(M.o.nth 4 rfl).two⟩
 refine tk (x:=?_) 0 rfl (by kernel_rfl) ⟨by rfl,?_⟩ (fun _ _ _ h=>h) hS ?_
 rotate_left; focus (intro w hSw; (try dsimp only at hSw); go_simp; try with_reducible rfl)
 refine tk (x:=?_) 1 rfl (by kernel_rfl) ⟨by rfl,?_⟩ (fun _ _ _ h=>h) hS ?_
 rotate_left; focus (intro w hSw; (try dsimp only at hSw); go_simp; try with_reducible rfl)
 refine tk (x:=?_) 2 rfl (by kernel_rfl) ⟨by rfl,?_⟩ (fun _ _ _ h=>h) hS ?_
 rotate_left; focus (intro w hSw; (try dsimp only at hSw); go_simp; try with_reducible rfl)
 refine tk (x:=?_) 3 rfl (by kernel_rfl) ⟨by rfl,?_⟩ (fun _ _ _ h=>h) hS ?_
 rotate_left; focus (intro w hSw; (try dsimp only at hSw); go_simp; try with_reducible rfl)
 refine tk (x:=?_) 4 rfl (by kernel_rfl) ⟨by rfl,?_⟩ (fun _ _ _ h=>h) hS ?_
 rotate_left; focus (intro w hSw; (try dsimp only at hSw); go_simp; try with_reducible rfl)
 refine tk (x:=?_) 5 rfl (by kernel_rfl) ⟨by rfl,?_⟩ (fun _ _ _ h=>h) hS ?_
 rotate_left; focus (intro w hSw; (try dsimp only at hSw); go_simp; try with_reducible rfl)
 conv=>arg 9; simp only [Act.put,go_sem]
 refine opx_cccc_1 M 6 7 8 9 10 [39,40,41,42,16] 1 (oV0J6 w w1_.heap.size tl th ml mh nl nh xl xh (fun k=>[0,e,e,e,e].getD k 0)) (by kernel_rfl) (by kernel_rfl) ?_ ?_ ?_ ?_ ?_ ?_ ?_ ?_
 ·intro A hA
  obtain⟨y1,hq1⟩:=put_ex (hA 39 (by simp));obtain⟨y2,hq2⟩:=put_ex (hA 40 (by simp));obtain⟨y3,hq3⟩:=put_ex (hA 41 (by simp));obtain⟨y4,hq4⟩:=put_ex (hA 42 (by simp));obtain⟨z1,hq5⟩:=put_ex (hA 16 (by simp));exact ⟨y1,y2,y3,y4,z1,by rw [hq1,hq2,hq3,hq4,hq5],by omega,by omega,by omega,by omega,by simp,OwnF.start M.out 1⟩
 ·rintro k p a v ⟨y1,y2,y3,y4,z1,_,_,_,_,_,_,h⟩
  exact ⟨(h.own.nth 8 rfl).two,(h.own.nth 2 rfl).two,(h.own.nth 1 rfl).two,(h.own.nth 6 rfl).two,(h.own.nth 5 rfl).two,(h.own.nth 4 rfl).two⟩
 ·intro p a v hJ
  refine os fun K hK=>?_
  obtain⟨y1,y2,y3,y4,z1,ha,gg1,h⟩:=oV0J6_0 hJ;have h:=Hd h;clear hJ;subst ha;go_simp;refine (d3.out _ _ (h.out.own.nth 0 rfl)).mono ?_;rintro rr w5 ⟨rfl,hp⟩
  try go_wp2_with fail
  refine hK.out _ _ ⟨_,y2,y3,y4,z1,?_,fun _=>rfl,by omega,by omega,by omega,gg1,h.out.putHead hp⟩;kernel_rfl
 ·intro p a v hJ
  refine os fun K hK=>?_
  obtain⟨y2,y3,y4,z1,ha,gg1,h⟩:=oV0J6_1 hJ;have h:=Hd h;clear hJ;subst ha;go_simp;refine (d4.out _ _ (h.out.own.nth 0 rfl)).mono ?_;rintro rr w5 ⟨rfl,hp⟩
  try go_wp2_with fail
  refine hK.out _ _ ⟨_,_,y3,y4,z1,?_,fun _=>rfl,fun _=>rfl,by omega,by omega,gg1,h.out.putHead hp⟩;kernel_rfl
 ·intro p a v hJ
  refine os fun K hK=>?_
  obtain⟨y3,y4,z1,ha,gg1,h⟩:=oV0J6_2 hJ;have h:=Hd h;clear hJ;subst ha;go_simp;refine (d5.out _ _ (h.out.own.nth 0 rfl)).mono ?_;rintro rr w5 ⟨rfl,hp⟩
  try go_wp2_with fail
  refine hK.out _ _ ⟨_,_,_,y4,z1,?_,fun _=>rfl,fun _=>rfl,fun _=>rfl,by omega,gg1,h.out.putHead hp⟩;kernel_rfl
 ·intro p a v hJ
  refine os fun K hK=>?_
  obtain⟨y4,z1,ha,gg1,h⟩:=oV0J6_3 hJ;have h:=Hd h;clear hJ;subst ha;go_simp;refine (d6.out _ _ (h.out.own.nth 0 rfl)).mono ?_;rintro rr w5 ⟨rfl,hp⟩
  try go_wp2_with fail
  refine hK.out _ _ ⟨_,_,_,_,z1,?_,fun _=>rfl,fun _=>rfl,fun _=>rfl,fun _=>rfl,gg1,h.out.putHead hp⟩;kernel_rfl
 ·intro k p a v hp hJ
  refine os fun K hK=>?_
  obtain⟨y1,y2,y3,y4,z1,ha,ee1,ee2,ee3,ee4,gg1,h⟩:=hJ;have h:=Hd h;subst ha;go_simp;refine hK.out _ _ ⟨v.heap.size,y1,y2,y3,y4,.pointer (some ⟨v.heap.size,0,none⟩),?_,ee1,ee2,ee3,ee4,fun q hq=>ptr_set hq,h.out.alloc hp rfl _⟩;kernel_rfl
 intro p6_1 a v hJ;obtain⟨rfl,h⟩:=oV0J6_fin hJ;clear hJ;replace M:=Hd h.fin1;clear h
 refine tn [] 11 fun K hK=>?_
 have kc:=(M.o.nth 0 rfl).2.1;have kf:=(M.o.nth 0 rfl).2.2;replace M:=Hd (M.o.set2 0 rfl xl xh);dsimp only [List.set] at M;go_simp;refine hK.out _ _ (Or.inr ⟨(M.o.nth 9 rfl).two,(M.o.nth 3 rfl).two,(M.o.nth 2 rfl).two,(M.o.nth 7 rfl).two,(M.o.nth 6 rfl).two,(M.o.nth 5 rfl).two⟩) (fun hHeld=>?_);clear hK K hHeld kc kf;refine tails_done (by kernel_rfl) ?_ _;refine NoPanic.normal ?_;clear hS;replace M:Hid (Own w [(w1_.heap.size,#[.int .i64 e]),(p6_1,#[xl,xh]),((w2_.heap.size+1),#[bl,bh]),(w2_.heap.size,#[al,ah]),((w.heap.size+1+1+1+1+1),#[(),()]),((w.heap.size+1+1+1+1),#[dl,dh]),((w.heap.size+1+1+1),#[ol,oh]),((w.heap.size+1+1),#[il,ih]),((w.heap.size+1),#[sl,sh]),(w.heap.size,#[rl,rh])] _):=Hd M.o.front;revert M;generalize ((v.setCell ⟨p6_1,0,none⟩ (xl:Value)).setCell ⟨p6_1,1,none⟩ (xh:Value))=W4_;intro M;obtain⟨k1,k2⟩:=(M.o.nth 1 rfl).two;go_wp2_with fail;refine (c7.out _).mono ?_;rintro r w5_ ⟨rfl,hb⟩
 replace M:=Hd (M.o.below hb);clear hb;clear k1 k2;go_wp2_with fail;refine (err_any e _ 0 _ (M.o.nth 0 rfl).pc).mono ?_;rintro r w6_ ⟨rfl,rfl⟩;have kc:=(M.o.nth 4 rfl).2.1;have kf:=(M.o.nth 4 rfl).2.2;replace M:=Hd (M.o.set2 4 rfl zl zh);dsimp only [List.set] at M;go_wp2;obtain⟨f1,f2⟩:=(M.o.nth 4 rfl).two;exact bodyPost_ret (v:=.tuple #[.agg #[.float .f64 zl,.float .f64 zh],.int .i64 e]) (by simp [results,Tryz.results185,go_sem,f1,f2]) rfl ⟨rfl,M.o.base⟩
end
section
open Go.RowKit
attribute [local go_sem] run_store_float
theorem ocheck_walk (a0 b0 a1 b1 a2 b2 a3 b3 a4 b4:Nat) (R0 R1 R2 R3 R4 p0 g0 p1 g1 p2 g2 p3 g3 p4 g4:Bool) (w:World)
  (c0:CH 46 #[.agg #[a0,b0]] (.bool R0))
  (c1:CH 46 #[.agg #[a1,b1]] (.bool R1))
  (c2:CH 46 #[.agg #[a2,b2]] (.bool R2))
  (c3:CH 46 #[.agg #[a3,b3]] (.bool R3))
  (c4:CH 46 #[.agg #[a4,b4]] (.bool R4))
  (o0:(FloatKind.f64.format.order a0 0 == some Ordering.lt)=p0) (u0:(FloatKind.f64.format.order b0 4607182418800017408 == some Ordering.gt)=g0)
  (o1:(FloatKind.f64.format.order a1 0 == some Ordering.lt)=p1) (u1:(FloatKind.f64.format.order b1 4607182418800017408 == some Ordering.gt)=g1)
  (o2:(FloatKind.f64.format.order a2 0 == some Ordering.lt)=p2) (u2:(FloatKind.f64.format.order b2 4607182418800017408 == some Ordering.gt)=g2)
  (o3:(FloatKind.f64.format.order a3 0 == some Ordering.lt)=p3) (u3:(FloatKind.f64.format.order b3 4607182418800017408 == some Ordering.gt)=g3)
  (o4:(FloatKind.f64.format.order a4 13830554455654793216 == some Ordering.lt)=p4) (u4:(FloatKind.f64.format.order b4 4607182418800017408 == some Ordering.gt)=g4)
  (cL:CH 212 #[] (.agg #[(),(4607182418800017408:Nat),(),(4607182418800017408:Nat),(),(4607182418800017408:Nat),(),(4607182418800017408:Nat),(13830554455654793216:Nat),(4607182418800017408:Nat)]))
  : Calls Tryz.prog 197 #[.agg #[a0,b0,a1,b1,a2,b2,a3,b3,a4,b4]] w fun r w'=>r = .returned (.int .i64 (if (R0&&R1&&R2&&R3&&R4)=true then (if (p0 || g0 || p1 || g1 || p2 || g2 || p3 || g3 || p4 || g4)=true then 2 else 0) else 20))∧Below w.heap.size w w':=by
 have M:=Hd ((Own.nil w).made #[a0,b0,a1,b1,a2,b2,a3,b3,a4,b4] 183)
 have j0:∀ w,(Instr.index 183 (.agg #[a0,b0,a1,b1,a2,b2,a3,b3,a4,b4]) (.int .i64 0)).run Tryz.prog w = .ok (.agg #[a0,b0]) w:=fun _=>by kernel_rfl
 have l0:∀ w,(Instr.index 201 (.agg #[(),(4607182418800017408:Nat),(),(4607182418800017408:Nat),(),(4607182418800017408:Nat),(),(4607182418800017408:Nat),(13830554455654793216:Nat),(4607182418800017408:Nat)]) (.int .i64 0)).run Tryz.prog w = .ok (.agg #[(),(4607182418800017408:Nat)]) w:=fun _=>by kernel_rfl
 have j1:∀ w,(Instr.index 183 (.agg #[a0,b0,a1,b1,a2,b2,a3,b3,a4,b4]) (.int .i64 1)).run Tryz.prog w = .ok (.agg #[a1,b1]) w:=fun _=>by kernel_rfl
 have l1:∀ w,(Instr.index 201 (.agg #[(),(4607182418800017408:Nat),(),(4607182418800017408:Nat),(),(4607182418800017408:Nat),(),(4607182418800017408:Nat),(13830554455654793216:Nat),(4607182418800017408:Nat)]) (.int .i64 1)).run Tryz.prog w = .ok (.agg #[(),(4607182418800017408:Nat)]) w:=fun _=>by kernel_rfl
 have j2:∀ w,(Instr.index 183 (.agg #[a0,b0,a1,b1,a2,b2,a3,b3,a4,b4]) (.int .i64 2)).run Tryz.prog w = .ok (.agg #[a2,b2]) w:=fun _=>by kernel_rfl
 have l2:∀ w,(Instr.index 201 (.agg #[(),(4607182418800017408:Nat),(),(4607182418800017408:Nat),(),(4607182418800017408:Nat),(),(4607182418800017408:Nat),(13830554455654793216:Nat),(4607182418800017408:Nat)]) (.int .i64 2)).run Tryz.prog w = .ok (.agg #[(),(4607182418800017408:Nat)]) w:=fun _=>by kernel_rfl
 have j3:∀ w,(Instr.index 183 (.agg #[a0,b0,a1,b1,a2,b2,a3,b3,a4,b4]) (.int .i64 3)).run Tryz.prog w = .ok (.agg #[a3,b3]) w:=fun _=>by kernel_rfl
 have l3:∀ w,(Instr.index 201 (.agg #[(),(4607182418800017408:Nat),(),(4607182418800017408:Nat),(),(4607182418800017408:Nat),(),(4607182418800017408:Nat),(13830554455654793216:Nat),(4607182418800017408:Nat)]) (.int .i64 3)).run Tryz.prog w = .ok (.agg #[(),(4607182418800017408:Nat)]) w:=fun _=>by kernel_rfl
 have j4:∀ w,(Instr.index 183 (.agg #[a0,b0,a1,b1,a2,b2,a3,b3,a4,b4]) (.int .i64 4)).run Tryz.prog w = .ok (.agg #[a4,b4]) w:=fun _=>by kernel_rfl
 have l4:∀ w,(Instr.index 201 (.agg #[(),(4607182418800017408:Nat),(),(4607182418800017408:Nat),(),(4607182418800017408:Nat),(),(4607182418800017408:Nat),(13830554455654793216:Nat),(4607182418800017408:Nat)]) (.int .i64 4)).run Tryz.prog w = .ok (.agg #[(13830554455654793216:Nat),(4607182418800017408:Nat)]) w:=fun _=>by kernel_rfl
 obtain⟨k0,k1,k2,k3,k4,k5,k6,k7,k8,k9⟩:=(M.o.nth 0 rfl).ten;go_enter Tryz.func197,Tryz.ntmps197;go_wp2_with fail;refine wp_loop_rounds 6 ?_;rw [rounds_succ];go_wp2_with fail;replace M:=Hd (M.o.made #[a0,b0] 31);refine (c0.out _).mono ?_;rintro r w0 ⟨rfl,hb⟩;replace M:=Hd (M.o.below hb);clear hb k0 k1 k2 k3 k4 k5 k6 k7 k8 k9 c0 j0;obtain⟨k0,k1,k2,k3,k4,k5,k6,k7,k8,k9⟩:=(M.o.nth 1 rfl).ten
 cases R0
 ·go_wp2
  go_ret;exact ⟨rfl,M.o.base⟩
 ·go_wp2_with fail
  rw [rounds_succ];go_wp2_with fail;replace M:=Hd (M.o.made #[a1,b1] 31);refine (c1.out _).mono ?_;rintro r w1 ⟨rfl,hb⟩;replace M:=Hd (M.o.below hb);clear hb k0 k1 k2 k3 k4 k5 k6 k7 k8 k9 c1 j1;obtain⟨k0,k1,k2,k3,k4,k5,k6,k7,k8,k9⟩:=(M.o.nth 2 rfl).ten
  cases R1
  ·go_wp2
   go_ret;exact ⟨rfl,M.o.base⟩
  ·go_wp2_with fail
   rw [rounds_succ];go_wp2_with fail;replace M:=Hd (M.o.made #[a2,b2] 31);refine (c2.out _).mono ?_;rintro r w2 ⟨rfl,hb⟩;replace M:=Hd (M.o.below hb);clear hb k0 k1 k2 k3 k4 k5 k6 k7 k8 k9 c2 j2;obtain⟨k0,k1,k2,k3,k4,k5,k6,k7,k8,k9⟩:=(M.o.nth 3 rfl).ten
   cases R2
   ·go_wp2
    go_ret;exact ⟨rfl,M.o.base⟩
   ·go_wp2_with fail
    rw [rounds_succ];go_wp2_with fail;replace M:=Hd (M.o.made #[a3,b3] 31);refine (c3.out _).mono ?_;rintro r w3 ⟨rfl,hb⟩;replace M:=Hd (M.o.below hb);clear hb k0 k1 k2 k3 k4 k5 k6 k7 k8 k9 c3 j3;obtain⟨k0,k1,k2,k3,k4,k5,k6,k7,k8,k9⟩:=(M.o.nth 4 rfl).ten
    cases R3
    ·go_wp2
     go_ret;exact ⟨rfl,M.o.base⟩
    ·go_wp2_with fail
     rw [rounds_succ];go_wp2_with fail;replace M:=Hd (M.o.made #[a4,b4] 31);refine (c4.out _).mono ?_;rintro r w4 ⟨rfl,hb⟩;replace M:=Hd (M.o.below hb);clear hb k0 k1 k2 k3 k4 k5 k6 k7 k8 k9 c4 j4;obtain⟨k0,k1,k2,k3,k4,k5,k6,k7,k8,k9⟩:=(M.o.nth 5 rfl).ten
     cases R4
     ·go_wp2
      go_ret;exact ⟨rfl,M.o.base⟩
     ·go_wp2_with fail
      rw [rounds_succ];go_wp2_with fail;refine (cL.out _).mono ?_;rintro r wl ⟨rfl,hb⟩;replace M:=Hd (M.o.below hb);clear hb cL k0 k1 k2 k3 k4 k5 k6 k7 k8 k9;obtain⟨k0,k1,k2,k3,k4,k5,k6,k7,k8,k9⟩:=(M.o.nth 5 rfl).ten;go_wp2_with fail;refine wp_loop_rounds 6 ?_;rw [rounds_succ];go_upto_region 10 with fail;replace M:=Hd (M.o.made #[(),(4607182418800017408:Nat)] 187);clear k0 k1 k2 k3 k4 k5 k6 k7 k8 k9 l0;obtain⟨k0,k1,k2,k3,k4,k5,k6,k7,k8,k9⟩:=(M.o.nth 6 rfl).ten;obtain⟨m0,m1⟩:=(M.o.nth 0 rfl).two
      cases p0
      rotate_left
      ·go_quiet (fail)
       go_wp2;go_ret;exact ⟨by simp,(M.o.drewN _).base⟩
      cases g0
      rotate_left
      ·go_quiet (fail)
       go_wp2;go_ret;exact ⟨by simp,(M.o.drewN _).base⟩
      go_quiet (fail)
      go_wp2_with fail;clear m0 m1 o0 u0;replace M:=Hd (M.o.drewN nq);rw [rounds_succ];go_upto_region 10 with fail;replace M:=Hd (M.o.made #[(),(4607182418800017408:Nat)] 187);clear k0 k1 k2 k3 k4 k5 k6 k7 k8 k9 l1;obtain⟨k0,k1,k2,k3,k4,k5,k6,k7,k8,k9⟩:=(M.o.nth 7 rfl).ten;obtain⟨m0,m1⟩:=(M.o.nth 0 rfl).two
      cases p1
      rotate_left
      ·go_quiet (fail)
       go_wp2;go_ret;exact ⟨by simp,(M.o.drewN _).base⟩
      cases g1
      rotate_left
      ·go_quiet (fail)
       go_wp2;go_ret;exact ⟨by simp,(M.o.drewN _).base⟩
      go_quiet (fail)
      go_wp2_with fail;clear m0 m1 o1 u1;replace M:=Hd (M.o.drewN nq);rw [rounds_succ];go_upto_region 10 with fail;replace M:=Hd (M.o.made #[(),(4607182418800017408:Nat)] 187);clear k0 k1 k2 k3 k4 k5 k6 k7 k8 k9 l2;obtain⟨k0,k1,k2,k3,k4,k5,k6,k7,k8,k9⟩:=(M.o.nth 8 rfl).ten;obtain⟨m0,m1⟩:=(M.o.nth 0 rfl).two
      cases p2
      rotate_left
      ·go_quiet (fail)
       go_wp2;go_ret;exact ⟨by simp,(M.o.drewN _).base⟩
      cases g2
      rotate_left
      ·go_quiet (fail)
       go_wp2;go_ret;exact ⟨by simp,(M.o.drewN _).base⟩
      go_quiet (fail)
      go_wp2_with fail;clear m0 m1 o2 u2;replace M:=Hd (M.o.drewN nq);rw [rounds_succ];go_upto_region 10 with fail;replace M:=Hd (M.o.made #[(),(4607182418800017408:Nat)] 187);clear k0 k1 k2 k3 k4 k5 k6 k7 k8 k9 l3;obtain⟨k0,k1,k2,k3,k4,k5,k6,k7,k8,k9⟩:=(M.o.nth 9 rfl).ten;obtain⟨m0,m1⟩:=(M.o.nth 0 rfl).two
      cases p3
      rotate_left
      ·go_quiet (fail)
       go_wp2;go_ret;exact ⟨by simp,(M.o.drewN _).base⟩
      cases g3
      rotate_left
      ·go_quiet (fail)
       go_wp2;go_ret;exact ⟨by simp,(M.o.drewN _).base⟩
      go_quiet (fail)
      go_wp2_with fail;clear m0 m1 o3 u3;replace M:=Hd (M.o.drewN nq);rw [rounds_succ];go_upto_region 10 with fail;replace M:=Hd (M.o.made #[(13830554455654793216:Nat),(4607182418800017408:Nat)] 187);clear k0 k1 k2 k3 k4 k5 k6 k7 k8 k9 l4;obtain⟨k0,k1,k2,k3,k4,k5,k6,k7,k8,k9⟩:=(M.o.nth 10 rfl).ten;obtain⟨m0,m1⟩:=(M.o.nth 0 rfl).two
      cases p4
      rotate_left
      ·go_quiet (fail)
       go_wp2;go_ret;exact ⟨by simp,(M.o.drewN _).base⟩
      cases g4
      rotate_left
      ·go_quiet (fail)
       go_wp2;go_ret;exact ⟨by simp,(M.o.drewN _).base⟩
      go_quiet (fail)
      go_wp2_with fail;clear m0 m1 o4 u4;replace M:=Hd (M.o.drewN nq);rw [rounds_succ];go_wp2;go_ret;exact ⟨rfl,M.o.base⟩
end
end Go.Proofs.YtnaomilkgfkegaaGreat
