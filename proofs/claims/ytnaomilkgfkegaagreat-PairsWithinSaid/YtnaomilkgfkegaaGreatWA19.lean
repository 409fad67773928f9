/- What the claim stands on, part 20: PaB. -/
import Derived.Test.YtnaomilkgfkegaaGreatWA18
import Derived.Deep.RegionHeld3
set_option maxHeartbeats 16000000
set_option maxRecDepth 100000
namespace Go.Proofs.YtnaomilkgfkegaaGreat
section
open Go.RowKit
attribute [local go_sem] run_store_float run_store_fun run_store_nilfun
section
variable {P:Program} {ops:Array Oper} {Q:Exit→Act→World→Prop} {md:Region.Mode} {S:World→Prop}
theorem lp_ccppp_1 {a0:Act} {B v:World} {l:List (Nat×Array Value)} (_:Hid (Own B l v)) {w0:World} {L0:Array Bool} (c1 c2 c3 c4 c5 m1:Nat) (slots:List Nat) (N:Nat) (J:List (Nat×Array Value)→Act→Nat→List (Option Nat)→Act→World→Prop) (hok:latOkP [false,false,true,true,true] md ops L0 [c1,c2,c3,c4,c5] [m1]=true)
  (hsl:(slots.all fun s=>decide (s < a0.tmps.size))=true) (h0:∀ A:Act,(∀ s,s∈slots→s < A.tmps.size)→J l A 0 (List.replicate 1 none) A w0)
  (hS:∀ k p a w,J l a0 k p a w→S w)
  (k1:∀ p a w,J l a0 0 p a w→wpOp P ops Q c1 (fun b v=>J l a0 1 p b v) a w)
  (k2:∀ p a w,J l a0 1 p a w→wpOp P ops Q c2 (fun b v=>J l a0 2 p b v) a w)
  (k3:∀ p a w,J l a0 2 p a w→∃ o x,ops[c3]? = some o∧YieldsIf P ops S o x a∧(∀ c a w,Q (.panic c) (a.put o.dst x) w→Q (.panic c) a w)∧J l a0 3 p (a.put o.dst x) w)
  (k4:∀ p a w,J l a0 3 p a w→∃ o x,ops[c4]? = some o∧YieldsIf P ops S o x a∧(∀ c a w,Q (.panic c) (a.put o.dst x) w→Q (.panic c) a w)∧J l a0 4 p (a.put o.dst x) w)
  (k5:∀ p a w,J l a0 4 p a w→∃ o x,ops[c5]? = some o∧YieldsIf P ops S o x a∧(∀ c a w,Q (.panic c) (a.put o.dst x) w→Q (.panic c) a w)∧J l a0 5 p (a.put o.dst x) w)
  (n1:∀ k p a w,p[0]? = some none→J l a0 k p a w→wpOp P ops Q m1 (fun b v=>∃ q,J l a0 k (p.set 0 (some q)) b v) a w)
  (fin:∀ q1 a w,J l a0 5 [some q1] a w→wpAnyV P md ops Q S [] N (lstOf L0 [c1,c2,c3,c4,c5] [m1] 5 [true]) a w) :
  wpAnyV P md ops Q S [] (N+6) L0 a0 w0:=by
 refine latP_from (pl:=[false,false,true,true,true]) [c1,c2,c3,c4,c5] [m1] slots N 6 (J l) hok rfl hsl h0 hS (fun k i p a w hk hn hJ=>?_) (fun k i p a w hk hn hJ=>?_) (fun k m i p a w hm hp hJ=>?_) (fun p a w hp hall hJ=>?_)
 ·rcases k with _ | _ | _ | _ | _ | k
  ·obtain rfl:c1=i:=by simpa using hk
   exact k1 p a w hJ
  ·obtain rfl:c2=i:=by simpa using hk
   exact k2 p a w hJ
  ·exact absurd hn (by decide)
  ·exact absurd hn (by decide)
  ·exact absurd hn (by decide)
  ·simp at hk
 ·rcases k with _ | _ | _ | _ | _ | k
  ·exact absurd hn (by decide)
  ·exact absurd hn (by decide)
  ·obtain rfl:c3=i:=by simpa using hk
   exact k3 p a w hJ
  ·obtain rfl:c4=i:=by simpa using hk
   exact k4 p a w hJ
  ·obtain rfl:c5=i:=by simpa using hk
   exact k5 p a w hJ
  ·simp at hk
 ·rcases m with _ | m
  ·obtain rfl:m1=i:=by simpa using hm
   exact n1 k p a w hp hJ
  ·simp at hm
 ·obtain⟨q1,rfl⟩:=fin_one hp hall
  exact fin q1 a w hJ
end
theorem rightL_walk {r0 r1 r2:Nat} (w:World)
  (e_r0:(Op.floatEq .f64 r0 r0=true))
  (e_r1:(Op.floatEq .f64 r1 r1=true))
  (e_r2:(Op.floatEq .f64 r2 r2=true))
  (c1:Hid (∀ (q:Nat) (w:World),Has1 w (q,#[.int .u8 1,r0,r1,r2,(),(),(),(),(),(),(),(),(),(),(),(),(),true,true])→Calls Tryz.prog 107 #[(),(4607182418800017408:Nat),.slice (some ⟨q,1,none⟩) 3 3] w (Rt (.bool true) w))) :
  Calls Tryz.prog 152 #[.agg #[.int .u8 1,r0,r1,r2,(),(),(),(),(),(),(),(),(),(),(),(),(),true,true]] w (Rt (.bool true) w):=by
 have M:=Hd ((Own.nil w).made #[.int .u8 1,r0,r1,r2,(),(),(),(),(),(),(),(),(),(),(),(),(),true,true] 66);have eqA:=eq_three
 have e_0:Op.floatEq .f64 0 0=true:=by decide +kernel
 have eqF:=eq_floats;go_enter Tryz.func152,Tryz.ntmps152;go_upto_region 1 with fail;go_step;refine wpl_leaf (by kernel_rfl) rfl rfl (M.o.nth 0 rfl) ?_;simp only [Act.put,go_sem];have k1:=(M.o.nth 0 rfl).get 0 (.int .u8 1) rfl;have k2:=(M.o.nth 0 rfl).get 1 r0 rfl;have k3:=(M.o.nth 0 rfl).get 2 r1 rfl;have k4:=(M.o.nth 0 rfl).get 3 r2 rfl;go_wp2_with fail;refine (c1.out _ _ (M.o.nth 0 rfl)).mono ?_;rintro r w1_ ⟨rfl,hb⟩;replace M:=Hd (M.o.below hb);clear hb;clear k1 k2 k3 k4;go_wp2;go_ret;exact ⟨rfl,M.o.base⟩
theorem rightO_walk {r0 r1 r2 sg:Nat} (w:World)
  (e_r0:(Op.floatEq .f64 r0 r0=true))
  (e_r1:(Op.floatEq .f64 r1 r1=true))
  (e_r2:(Op.floatEq .f64 r2 r2=true))
  (e_sg:(Op.floatEq .f64 sg sg=true))
  (c1:Hid (∀ (q:Nat) (w:World),Has1 w (q,#[sg])→Calls Tryz.prog 107 #[(),(4607182418800017408:Nat),.slice (some ⟨q,0,none⟩) 1 1] w (Rt (.bool true) w)))
  (c2:Hid (∀ (q:Nat) (w:World),Has1 w (q,#[.int .u8 2,r0,r1,r2,(),(),(),(),(),(),(),(),(),sg,(),(),(),true,true])→Calls Tryz.prog 107 #[(),(4607182418800017408:Nat),.slice (some ⟨q,1,none⟩) 3 3] w (Rt (.bool true) w))) :
  Calls Tryz.prog 155 #[.agg #[.int .u8 2,r0,r1,r2,(),(),(),(),(),(),(),(),(),sg,(),(),(),true,true]] w (Rt (.bool true) w):=by
 have M:=Hd ((Own.nil w).made #[.int .u8 2,r0,r1,r2,(),(),(),(),(),(),(),(),(),sg,(),(),(),true,true] 66);have eqA:=eq_three
 have e_0:Op.floatEq .f64 0 0=true:=by decide +kernel
 have eqF:=eq_floats;go_enter Tryz.func155,Tryz.ntmps155;go_upto_region 1 with fail;go_step;refine wpl_leaf (by kernel_rfl) rfl rfl (M.o.nth 0 rfl) ?_;simp only [Act.put,go_sem];have k1:=(M.o.nth 0 rfl).get 0 (.int .u8 2) rfl;have k2:=(M.o.nth 0 rfl).get 1 r0 rfl;have k3:=(M.o.nth 0 rfl).get 13 sg rfl;have k4:=(M.o.nth 0 rfl).get 2 r1 rfl;have k5:=(M.o.nth 0 rfl).get 3 r2 rfl;replace M:=Hd (M.o.made #[sg] 25);simp only [World.size_alloc] at M;have k6:=(M.o.nth 1 rfl).get 0 (.int .u8 2) rfl;have k7:=(M.o.nth 1 rfl).get 1 r0 rfl;have k8:=(M.o.nth 1 rfl).get 13 sg rfl;have k9:=(M.o.nth 1 rfl).get 2 r1 rfl;have k10:=(M.o.nth 1 rfl).get 3 r2 rfl;go_wp2_with fail;refine (c1.out _ _ (M.o.nth 0 rfl)).mono ?_;rintro r w1_ ⟨rfl,hb⟩;replace M:=Hd (M.o.below hb);clear hb;clear k1 k2 k3 k4 k5 k6 k7 k8 k9 k10;go_wp2_with fail;refine (c2.out _ _ (M.o.nth 1 rfl)).mono ?_;rintro r w2_ ⟨rfl,hb⟩;replace M:=Hd (M.o.below hb)
 clear hb;go_wp2;go_ret;exact ⟨rfl,M.o.base⟩
theorem rightP_walk {al io:Nat} (w:World)
  (e_al:(Op.floatEq .f64 al al=true))
  (e_io:(Op.floatEq .f64 io io=true))
  (c1:Hid (∀ (q:Nat) (w:World),Has1 w (q,#[al])→Calls Tryz.prog 107 #[(4584664420663164928:Nat),(4607182418800017408:Nat),.slice (some ⟨q,0,none⟩) 1 1] w (Rt (.bool true) w)))
  (c2:Hid (∀ (q:Nat) (w:World),Has1 w (q,#[io])→Calls Tryz.prog 107 #[(4607463893776728064:Nat),(4616189618054758400:Nat),.slice (some ⟨q,0,none⟩) 1 1] w (Rt (.bool true) w))) :
  Calls Tryz.prog 157 #[.agg #[.int .u8 3,(),(),(),(),(),(),(),(),(),(),(),(),(),al,io,(),true,true]] w (Rt (.bool true) w):=by
 have M:=Hd ((Own.nil w).made #[.int .u8 3,(),(),(),(),(),(),(),(),(),(),(),(),(),al,io,(),true,true] 66);have eqA:=eq_three
 have e_0:Op.floatEq .f64 0 0=true:=by decide +kernel
 have eqF:=eq_floats;go_enter Tryz.func157,Tryz.ntmps157;go_upto_region 1 with fail;go_step;refine wpl_leaf (by kernel_rfl) rfl rfl (M.o.nth 0 rfl) ?_;simp only [Act.put,go_sem];have k1:=(M.o.nth 0 rfl).get 0 (.int .u8 3) rfl;have k2:=(M.o.nth 0 rfl).get 14 al rfl;have k3:=(M.o.nth 0 rfl).get 15 io rfl;replace M:=Hd (M.o.made #[al] 25);simp only [World.size_alloc] at M;have k4:=(M.o.nth 1 rfl).get 0 (.int .u8 3) rfl;have k5:=(M.o.nth 1 rfl).get 14 al rfl;have k6:=(M.o.nth 1 rfl).get 15 io rfl;go_wp2_with fail;refine (c1.out _ _ (M.o.nth 0 rfl)).mono ?_;rintro r w1_ ⟨rfl,hb⟩;replace M:=Hd (M.o.below hb);clear hb;clear k1 k2 k3 k4 k5 k6;have k1:=(M.o.nth 1 rfl).get 0 (.int .u8 3) rfl;have k2:=(M.o.nth 1 rfl).get 14 al rfl;have k3:=(M.o.nth 1 rfl).get 15 io rfl;replace M:=Hd (M.o.made #[io] 25);have k4:=(M.o.nth 2 rfl).get 0 (.int .u8 3) rfl;have k5:=(M.o.nth 2 rfl).get 14 al rfl;have k6:=(M.o.nth 2 rfl).get 15 io rfl
 go_wp2_with fail;refine (c2.out _ _ (M.o.nth 0 rfl)).mono ?_;rintro r w2_ ⟨rfl,hb⟩;replace M:=Hd (M.o.below hb);clear hb;clear k1 k2 k3 k4 k5 k6;go_wp2;go_ret;exact ⟨rfl,M.o.base⟩
theorem rightM_walk {al p0 p1 p2 q0 q1 q2:Nat} (w:World)
  (e_p0:(Op.floatEq .f64 p0 p0=true))
  (e_p1:(Op.floatEq .f64 p1 p1=true))
  (e_p2:(Op.floatEq .f64 p2 p2=true))
  (e_q0:(Op.floatEq .f64 q0 q0=true))
  (e_q1:(Op.floatEq .f64 q1 q1=true))
  (e_q2:(Op.floatEq .f64 q2 q2=true))
  (e_al:(Op.floatEq .f64 al al=true))
  (c1:Hid (∀ (q:Nat) (w:World),Has1 w (q,#[al])→Calls Tryz.prog 107 #[(4584664420663164928:Nat),(4607182418800017408:Nat),.slice (some ⟨q,0,none⟩) 1 1] w (Rt (.bool true) w)))
  (c2:Hid (∀ (q:Nat) (w:World),Has1 w (q,#[.int .u8 4,(),(),(),(),(),(),p0,p1,p2,q0,q1,q2,(),al,(),(),true,true])→Calls Tryz.prog 107 #[(4589168020290535424:Nat),(4625196817309499392:Nat),.slice (some ⟨q,7,none⟩) 3 3] w (Rt (.bool true) w)))
  (c3:Hid (∀ (q:Nat) (w:World),Has1 w (q,#[.int .u8 4,(),(),(),(),(),(),p0,p1,p2,q0,q1,q2,(),al,(),(),true,true])→Calls Tryz.prog 107 #[(4589168020290535424:Nat),(4625196817309499392:Nat),.slice (some ⟨q,10,none⟩) 3 3] w (Rt (.bool true) w))) :
  Calls Tryz.prog 160 #[.agg #[.int .u8 4,(),(),(),(),(),(),p0,p1,p2,q0,q1,q2,(),al,(),(),true,true]] w (Rt (.bool true) w):=by
 have M:=Hd ((Own.nil w).made #[.int .u8 4,(),(),(),(),(),(),p0,p1,p2,q0,q1,q2,(),al,(),(),true,true] 66);have eqA:=eq_three
 have e_0:Op.floatEq .f64 0 0=true:=by decide +kernel
 have eqF:=eq_floats;go_enter Tryz.func160,Tryz.ntmps160;go_upto_region 1 with fail;go_step;refine wpl_leaf (by kernel_rfl) rfl rfl (M.o.nth 0 rfl) ?_;simp only [Act.put,go_sem];have k1:=(M.o.nth 0 rfl).get 0 (.int .u8 4) rfl;have k2:=(M.o.nth 0 rfl).get 10 q0 rfl;have k3:=(M.o.nth 0 rfl).get 11 q1 rfl;have k4:=(M.o.nth 0 rfl).get 12 q2 rfl;have k5:=(M.o.nth 0 rfl).get 14 al rfl;have k6:=(M.o.nth 0 rfl).get 7 p0 rfl;have k7:=(M.o.nth 0 rfl).get 8 p1 rfl;have k8:=(M.o.nth 0 rfl).get 9 p2 rfl;replace M:=Hd (M.o.made #[al] 25);simp only [World.size_alloc] at M;have k9:=(M.o.nth 1 rfl).get 0 (.int .u8 4) rfl;have k10:=(M.o.nth 1 rfl).get 10 q0 rfl;have k11:=(M.o.nth 1 rfl).get 11 q1 rfl;have k12:=(M.o.nth 1 rfl).get 12 q2 rfl;have k13:=(M.o.nth 1 rfl).get 14 al rfl;have k14:=(M.o.nth 1 rfl).get 7 p0 rfl;have k15:=(M.o.nth 1 rfl).get 8 p1 rfl;have k16:=(M.o.nth 1 rfl).get 9 p2 rfl;go_wp2_with fail
 refine (c1.out _ _ (M.o.nth 0 rfl)).mono ?_;rintro r w1_ ⟨rfl,hb⟩;replace M:=Hd (M.o.below hb);clear hb;clear k1 k2 k3 k4 k5 k6 k7 k8 k9 k10 k11 k12 k13 k14 k15 k16;go_wp2_with fail;refine (c2.out _ _ (M.o.nth 1 rfl)).mono ?_;rintro r w2_ ⟨rfl,hb⟩;replace M:=Hd (M.o.below hb);clear hb;go_wp2_with fail;refine (c3.out _ _ (M.o.nth 1 rfl)).mono ?_;rintro r w3_ ⟨rfl,hb⟩;replace M:=Hd (M.o.below hb);clear hb;go_wp2;go_ret;exact ⟨rfl,M.o.base⟩
theorem densL_walk {r0 r1 r2 i0 i1 i2 i3 i4 i5 o0 o1 o2 o3 o4 o5 zl zh:Nat} {ez:Int} (w:World)
  (c1:CH 183 #[.agg #[i4,i5]] (.tuple #[.agg #[zl,zh],.int .i64 ez])) :
  Calls Tryz.prog 154 #[.agg #[.int .u8 1,r0,r1,r2,(),(),(),(),(),(),(),(),(),(),(),(),(),true,true],.agg #[i0,i1,i2,i3,i4,i5],.agg #[o0,o1,o2,o3,o4,o5]] w (Rt (.tuple #[.agg #[zl,zh],.int .i64 ez]) w):=by
 have M:=Hd (((((Own.nil w).made #[.int .u8 1,r0,r1,r2,(),(),(),(),(),(),(),(),(),(),(),(),(),true,true] 66).made #[i0,i1,i2,i3,i4,i5] 33).made #[o0,o1,o2,o3,o4,o5] 33).made #[(),()] 31);simp only [World.size_alloc] at M;have eqF:=eq_floats;go_enter Tryz.func154,Tryz.ntmps154;obtain⟨k1,k2,k3,k4,k5,k6⟩:=(M.o.nth 2 rfl).six;go_wp2_with fail;refine (c1.out _).mono ?_;rintro r w1_ ⟨rfl,hb⟩;replace M:=Hd (M.o.below hb);clear hb;clear k1 k2 k3 k4 k5 k6;have kc:=(M.o.nth 0 rfl).2.1;have kf:=(M.o.nth 0 rfl).2.2;replace M:=Hd (M.o.set2 0 rfl zl zh);dsimp only [List.set] at M;go_wp2;obtain⟨f1,f2⟩:=(M.o.nth 0 rfl).two;exact bodyPost_ret (v:=.tuple #[.agg #[.float .f64 zl,.float .f64 zh],.int .i64 ez]) (by simp [results,Tryz.results154,go_sem,f1,f2]) rfl ⟨rfl,M.o.base⟩
theorem densO_walk {r0 r1 r2 sg i0 i1 i2 i3 i4 i5 o0 o1 o2 o3 o4 o5 zl zh:Nat} {ez:Int} (w:World)
  (c1:CH 183 #[.agg #[i4,i5]] (.tuple #[.agg #[zl,zh],.int .i64 ez])) :
  Calls Tryz.prog 154 #[.agg #[.int .u8 2,r0,r1,r2,(),(),(),(),(),(),(),(),(),sg,(),(),(),true,true],.agg #[i0,i1,i2,i3,i4,i5],.agg #[o0,o1,o2,o3,o4,o5]] w (Rt (.tuple #[.agg #[zl,zh],.int .i64 ez]) w):=by
 have M:=Hd (((((Own.nil w).made #[.int .u8 2,r0,r1,r2,(),(),(),(),(),(),(),(),(),sg,(),(),(),true,true] 66).made #[i0,i1,i2,i3,i4,i5] 33).made #[o0,o1,o2,o3,o4,o5] 33).made #[(),()] 31);simp only [World.size_alloc] at M;have eqF:=eq_floats;go_enter Tryz.func154,Tryz.ntmps154;obtain⟨k1,k2,k3,k4,k5,k6⟩:=(M.o.nth 2 rfl).six;go_wp2_with fail;refine (c1.out _).mono ?_;rintro r w1_ ⟨rfl,hb⟩;replace M:=Hd (M.o.below hb);clear hb;clear k1 k2 k3 k4 k5 k6;have kc:=(M.o.nth 0 rfl).2.1;have kf:=(M.o.nth 0 rfl).2.2;replace M:=Hd (M.o.set2 0 rfl zl zh);dsimp only [List.set] at M;go_wp2;obtain⟨f1,f2⟩:=(M.o.nth 0 rfl).two;exact bodyPost_ret (v:=.tuple #[.agg #[.float .f64 zl,.float .f64 zh],.int .i64 ez]) (by simp [results,Tryz.results154,go_sem,f1,f2]) rfl ⟨rfl,M.o.base⟩
def pmPJ1 (w:World) (al g0 g1 g2 g3 g4 g5 g6 g7:Nat) (eg:Int) (l:RowL) (a0:Act) (k:Nat) (p:List (Option Nat)) (a:Act) (v:World):Prop:=
 ∃ y1 y2 y3 y4 y5 z1:Value,a=((((((a0.put (some 15) y1).put (some 16) y2).put (some 10) y3).put (some 17) y4).put (some 18) y5).put (some 8) z1)∧(0 < k→y1 = .agg #[al,al])∧(1 < k→y2 = .tuple #[.agg #[g0,g1,g2,g3,g4,g5,g6,g7],.int .i64 eg])∧(2 < k→y3 = .tuple #[.agg #[g0,g1,g2,g3,g4,g5,g6,g7],.int .i64 eg])∧(3 < k→y4 = .agg #[g0,g1,g2,g3,g4,g5,g6,g7])∧(4 < k→y5 = .int .i64 eg)∧(∀ q,p[0]? = some (some q)→z1 = .pointer (some ⟨q,0,none⟩))∧OwnF w l [#[(),(),(),(),(),(),(),()]] p v
section
variable {w v:World} {al g0 g1 g2 g3 g4 g5 g6 g7:Nat} {eg:Int} {l:RowL} {a0 a:Act} {p:List (Option Nat)}
theorem pmPJ1_0 (h:pmPJ1 w al g0 g1 g2 g3 g4 g5 g6 g7 eg l a0 0 p a v):∃ y1 y2 y3 y4 y5 z1:Value,a=((((((a0.put (some 15) y1).put (some 16) y2).put (some 10) y3).put (some 17) y4).put (some 18) y5).put (some 8) z1)∧(∀ q,p[0]? = some (some q)→z1 = .pointer (some ⟨q,0,none⟩))∧OwnF w l [#[(),(),(),(),(),(),(),()]] p v:=by
 obtain⟨y1,y2,y3,y4,y5,z1,ha,E1,E2,E3,E4,E5,G1,h⟩:=h;exact ⟨y1,y2,y3,y4,y5,z1,ha,G1,h⟩
theorem pmPJ1_1 (h:pmPJ1 w al g0 g1 g2 g3 g4 g5 g6 g7 eg l a0 1 p a v):∃ y2 y3 y4 y5 z1:Value,a=((((((a0.put (some 15) (.agg #[al,al])).put (some 16) y2).put (some 10) y3).put (some 17) y4).put (some 18) y5).put (some 8) z1)∧(∀ q,p[0]? = some (some q)→z1 = .pointer (some ⟨q,0,none⟩))∧OwnF w l [#[(),(),(),(),(),(),(),()]] p v:=by
 obtain⟨y1,y2,y3,y4,y5,z1,ha,E1,E2,E3,E4,E5,G1,h⟩:=h;obtain rfl:=E1 (by decide);exact ⟨y2,y3,y4,y5,z1,ha,G1,h⟩
theorem pmPJ1_2 (h:pmPJ1 w al g0 g1 g2 g3 g4 g5 g6 g7 eg l a0 2 p a v):∃ y3 y4 y5 z1:Value,a=((((((a0.put (some 15) (.agg #[al,al])).put (some 16) (.tuple #[.agg #[g0,g1,g2,g3,g4,g5,g6,g7],.int .i64 eg])).put (some 10) y3).put (some 17) y4).put (some 18) y5).put (some 8) z1)∧(∀ q,p[0]? = some (some q)→z1 = .pointer (some ⟨q,0,none⟩))∧OwnF w l [#[(),(),(),(),(),(),(),()]] p v:=by
 obtain⟨y1,y2,y3,y4,y5,z1,ha,E1,E2,E3,E4,E5,G1,h⟩:=h;obtain rfl:=E1 (by decide);obtain rfl:=E2 (by decide);exact ⟨y3,y4,y5,z1,ha,G1,h⟩
theorem pmPJ1_3 (h:pmPJ1 w al g0 g1 g2 g3 g4 g5 g6 g7 eg l a0 3 p a v):∃ y4 y5 z1:Value,a=((((((a0.put (some 15) (.agg #[al,al])).put (some 16) (.tuple #[.agg #[g0,g1,g2,g3,g4,g5,g6,g7],.int .i64 eg])).put (some 10) (.tuple #[.agg #[g0,g1,g2,g3,g4,g5,g6,g7],.int .i64 eg])).put (some 17) y4).put (some 18) y5).put (some 8) z1)∧(∀ q,p[0]? = some (some q)→z1 = .pointer (some ⟨q,0,none⟩))∧OwnF w l [#[(),(),(),(),(),(),(),()]] p v:=by
 obtain⟨y1,y2,y3,y4,y5,z1,ha,E1,E2,E3,E4,E5,G1,h⟩:=h;obtain rfl:=E1 (by decide);obtain rfl:=E2 (by decide);obtain rfl:=E3 (by decide);exact ⟨y4,y5,z1,ha,G1,h⟩
theorem pmPJ1_4 (h:pmPJ1 w al g0 g1 g2 g3 g4 g5 g6 g7 eg l a0 4 p a v):∃ y5 z1:Value,a=((((((a0.put (some 15) (.agg #[al,al])).put (some 16) (.tuple #[.agg #[g0,g1,g2,g3,g4,g5,g6,g7],.int .i64 eg])).put (some 10) (.tuple #[.agg #[g0,g1,g2,g3,g4,g5,g6,g7],.int .i64 eg])).put (some 17) (.agg #[g0,g1,g2,g3,g4,g5,g6,g7])).put (some 18) y5).put (some 8) z1)∧(∀ q,p[0]? = some (some q)→z1 = .pointer (some ⟨q,0,none⟩))∧OwnF w l [#[(),(),(),(),(),(),(),()]] p v:=by
 obtain⟨y1,y2,y3,y4,y5,z1,ha,E1,E2,E3,E4,E5,G1,h⟩:=h;obtain rfl:=E1 (by decide);obtain rfl:=E2 (by decide);obtain rfl:=E3 (by decide);obtain rfl:=E4 (by decide);exact ⟨y5,z1,ha,G1,h⟩
theorem pmPJ1_fin {q1:Nat} (h:pmPJ1 w al g0 g1 g2 g3 g4 g5 g6 g7 eg l a0 5 [some q1] a v):a=((((((a0.put (some 15) (.agg #[al,al])).put (some 16) (.tuple #[.agg #[g0,g1,g2,g3,g4,g5,g6,g7],.int .i64 eg])).put (some 10) (.tuple #[.agg #[g0,g1,g2,g3,g4,g5,g6,g7],.int .i64 eg])).put (some 17) (.agg #[g0,g1,g2,g3,g4,g5,g6,g7])).put (some 18) (.int .i64 eg)).put (some 8) (.pointer (some ⟨q1,0,none⟩)))∧OwnF w l [#[(),(),(),(),(),(),(),()]] [some q1] v:=by
 obtain⟨y1,y2,y3,y4,y5,z1,ha,E1,E2,E3,E4,E5,G1,h⟩:=h;obtain rfl:=E1 (by decide);obtain rfl:=E2 (by decide);obtain rfl:=E3 (by decide);obtain rfl:=E4 (by decide);obtain rfl:=E5 (by decide);obtain rfl:=G1 _ rfl;exact ⟨ha,h⟩
end
theorem densP_walk {al io i0 i1 i2 i3 i4 i5 o0 o1 o2 o3 o4 o5 g0 g1 g2 g3 g4 g5 g6 g7:Nat} {eg:Int} (w:World)
  (c2:CH 189 #[.agg #[i0,i1,i2,i3,i4,i5],.agg #[o0,o1,o2,o3,o4,o5],.agg #[al,al]] (.tuple #[.agg #[g0,g1,g2,g3,g4,g5,g6,g7],.int .i64 eg])) :
  Calls Tryz.prog 159 #[.agg #[.int .u8 3,(),(),(),(),(),(),(),(),(),(),(),(),(),al,io,(),true,true],.agg #[i0,i1,i2,i3,i4,i5],.agg #[o0,o1,o2,o3,o4,o5]] w (Rt (.tuple #[.agg #[g6,g7],.int .i64 eg]) w):=by
 have M:=Hd (((((Own.nil w).made #[.int .u8 3,(),(),(),(),(),(),(),(),(),(),(),(),(),al,io,(),true,true] 66).made #[i0,i1,i2,i3,i4,i5] 33).made #[o0,o1,o2,o3,o4,o5] 33).made #[(),()] 31);simp only [World.size_alloc] at M;have eqF:=eq_floats;go_enter Tryz.func159,Tryz.ntmps159;go_upto_region 1 with fail;replace M:=Hd M.o.drew;revert M;generalize ((((w.alloc (.cells #[.int .u8 3,(),(),(),(),(),(),(),(),(),(),(),(),(),al,io,(),true,true] 66)).alloc (.cells #[i0,i1,i2,i3,i4,i5] 33)).alloc (.cells #[o0,o1,o2,o3,o4,o5] 33)).alloc (.cells #[(),()] 31))=W0_;intro M;refine wp_region_noPanic ?_;refine tails_region (S:=fun w'=>(Cf w' (w.heap.size+1) 0 i0∧Cf w' (w.heap.size+1) 1 i1∧Cf w' (w.heap.size+1) 2 i2∧Cf w' (w.heap.size+1) 3 i3∧Cf w' (w.heap.size+1) 4 i4∧Cf w' (w.heap.size+1) 5 i5)∧(Cf w' (w.heap.size+1+1) 0 o0∧Cf w' (w.heap.size+1+1) 1 o1∧Cf w' (w.heap.size+1+1) 2 o2∧Cf w' (w.heap.size+1+1) 3 o3∧Cf w' (w.heap.size+1+1) 4 o4∧Cf w' (w.heap.size+1+1) 5 o5)∧(Cf w' w.heap.size 14 al)) [] (by kernel_rfl) ?_ (fun hS=>?_)
 ·exact ⟨(M.o.nth 2 rfl).six,(M.o.nth 1 rfl).six,((M.o.nth 3 rfl).get 14 al rfl)⟩
 refine tq 0 hS ?_;refine tq 1 hS ?_;refine tq 2 hS ?_;refine tq 3 hS ?_
 conv=>arg 9; simp only [Act.put,go_sem]
 refine lp_ccppp_1 M 4 5 6 7 8 9 [15,16,10,17,18,8] 2 (pmPJ1 w al g0 g1 g2 g3 g4 g5 g6 g7 eg) (by kernel_rfl) (by kernel_rfl) ?_ ?_ ?_ ?_ ?_ ?_ ?_ ?_ ?_
 ·intro A hA
  obtain⟨y1,hq1⟩:=put_ex (hA 15 (by simp));obtain⟨y2,hq2⟩:=put_ex (hA 16 (by simp));obtain⟨y3,hq3⟩:=put_ex (hA 10 (by simp));obtain⟨y4,hq4⟩:=put_ex (hA 17 (by simp));obtain⟨y5,hq5⟩:=put_ex (hA 18 (by simp));obtain⟨z1,hq6⟩:=put_ex (hA 8 (by simp));exact ⟨y1,y2,y3,y4,y5,z1,by rw [hq1,hq2,hq3,hq4,hq5,hq6],by omega,by omega,by omega,by omega,by omega,by simp,OwnF.start M.out 1⟩
 ·rintro k p a v ⟨y1,y2,y3,y4,y5,z1,_,_,_,_,_,_,_,h⟩
  exact ⟨(h.own.nth 2 rfl).six,(h.own.nth 1 rfl).six,((h.own.nth 3 rfl).get 14 al rfl)⟩
 ·intro p a v hJ
  refine os fun K hK=>?_
  obtain⟨y1,y2,y3,y4,y5,z1,ha,gg1,h⟩:=pmPJ1_0 hJ;have h:=Hd h;clear hJ;subst ha;go_simp;refine (psingle_any al _).mono ?_;rintro rr w5 ⟨rfl,hp⟩
  try go_wp2_with fail
  refine hK.out _ _ ⟨_,y2,y3,y4,y5,z1,?_,fun _=>rfl,by omega,by omega,by omega,by omega,gg1,h.out.below hp⟩;kernel_rfl
 ·intro p a v hJ
  refine os fun K hK=>?_
  obtain⟨y2,y3,y4,y5,z1,ha,gg1,h⟩:=pmPJ1_1 hJ;have h:=Hd h;clear hJ;subst ha;go_simp;refine (c2.out _).mono ?_;rintro rr w5 ⟨rfl,hp⟩
  try go_wp2_with fail
  refine hK.out _ _ ⟨_,_,y3,y4,y5,z1,?_,fun _=>rfl,fun _=>rfl,by omega,by omega,by omega,gg1,h.out.below hp⟩;kernel_rfl
 ·intro p a v hJ
  replace hJ:=pmPJ1_2 hJ;refine Exists.elim hJ (fun y3 hJ=>?_);refine Exists.elim hJ (fun y4 hJ=>?_);refine Exists.elim hJ (fun y5 hJ=>?_);refine Exists.elim hJ (fun z1 hJ=>?_);have ha:=hJ.1;have gg1:=hJ.2.1;have h:=hJ.2.2;clear hJ;subst ha;refine ⟨_,.tuple #[.agg #[g0,g1,g2,g3,g4,g5,g6,g7],.int .i64 eg],rfl,Or.inl ⟨by kernel_rfl,?_⟩,(fun _ _ _ h=>h),_,_,_,y4,y5,z1,?_,fun _=>rfl,fun _=>rfl,fun _=>rfl,by omega,by omega,gg1,h⟩
  ·intro w hSw; clear hSw h; go_simp; try with_reducible rfl
  ·kernel_rfl
 ·intro p a v hJ
  replace hJ:=pmPJ1_3 hJ;refine Exists.elim hJ (fun y4 hJ=>?_);refine Exists.elim hJ (fun y5 hJ=>?_);refine Exists.elim hJ (fun z1 hJ=>?_);have ha:=hJ.1;have gg1:=hJ.2.1;have h:=hJ.2.2;clear hJ;subst ha;refine ⟨_,.agg #[g0,g1,g2,g3,g4,g5,g6,g7],rfl,Or.inl ⟨by kernel_rfl,?_⟩,(fun _ _ _ h=>h),_,_,_,_,y5,z1,?_,fun _=>rfl,fun _=>rfl,fun _=>rfl,fun _=>rfl,by omega,gg1,h⟩
  ·intro w hSw; clear hSw h; go_simp; try with_reducible rfl
  ·kernel_rfl
 ·intro p a v hJ
  replace hJ:=pmPJ1_4 hJ;refine Exists.elim hJ (fun y5 hJ=>?_);refine Exists.elim hJ (fun z1 hJ=>?_);have ha:=hJ.1;have gg1:=hJ.2.1;have h:=hJ.2.2;clear hJ;subst ha;refine ⟨_,.int .i64 eg,rfl,Or.inl ⟨by kernel_rfl,?_⟩,(fun _ _ _ h=>h),_,_,_,_,_,z1,?_,fun _=>rfl,fun _=>rfl,fun _=>rfl,fun _=>rfl,fun _=>rfl,gg1,h⟩
  ·intro w hSw; clear hSw h; go_simp; try with_reducible rfl
  ·kernel_rfl
 ·intro k p a v hp hJ
  refine os fun K hK=>?_
  obtain⟨y1,y2,y3,y4,y5,z1,ha,ee1,ee2,ee3,ee4,ee5,gg1,h⟩:=hJ;have h:=Hd h;subst ha;go_simp;refine hK.out _ _ ⟨v.heap.size,y1,y2,y3,y4,y5,.pointer (some ⟨v.heap.size,0,none⟩),?_,ee1,ee2,ee3,ee4,ee5,fun q hq=>ptr_set hq,h.out.alloc hp rfl _⟩;kernel_rfl
 intro p1_1 a v hJ;obtain⟨rfl,h⟩:=pmPJ1_fin hJ;clear hJ;replace M:=Hd h.fin1;clear h
 refine tn [] 10 fun K hK=>?_
 have kc:=(M.o.nth 0 rfl).2.1;have kf:=(M.o.nth 0 rfl).2.2;replace M:Hid (Own w [(p1_1,#[g0,g1,g2,g3,g4,g5,g6,g7]),((w.heap.size+1+1+1),#[(),()]),((w.heap.size+1+1),#[o0,o1,o2,o3,o4,o5]),((w.heap.size+1),#[i0,i1,i2,i3,i4,i5]),(w.heap.size,#[.int .u8 3,(),(),(),(),(),(),(),(),(),(),(),(),(),al,io,(),true,true])] _):=Hd (((((((((M.o.setIn 0 rfl 0 (g0:Value)).setIn 0 rfl 1 (g1:Value)).setIn 0 rfl 2 (g2:Value)).setIn 0 rfl 3 (g3:Value)).setIn 0 rfl 4 (g4:Value)).setIn 0 rfl 5 (g5:Value)).setIn 0 rfl 6 (g6:Value)).setIn 0 rfl 7 (g7:Value)).to (by rfl));go_simp;refine hK.out _ _ (Or.inr ⟨(M.o.nth 3 rfl).six,(M.o.nth 2 rfl).six,((M.o.nth 4 rfl).get 14 al rfl)⟩) (fun hHeld=>?_);clear hK K hHeld kc kf
 refine tn [] 11 fun K hK=>?_
 go_simp;refine hK.out _ _ (Or.inr ⟨(M.o.nth 3 rfl).six,(M.o.nth 2 rfl).six,((M.o.nth 4 rfl).get 14 al rfl)⟩) (fun hHeld=>?_);clear hK K hHeld;refine tails_done (by kernel_rfl) ?_ _;refine NoPanic.normal ?_;clear hS;revert M;generalize ((((((((v.setCell ⟨p1_1,0,none⟩ (g0:Value)).setCell ⟨p1_1,1,none⟩ (g1:Value)).setCell ⟨p1_1,2,none⟩ (g2:Value)).setCell ⟨p1_1,3,none⟩ (g3:Value)).setCell ⟨p1_1,4,none⟩ (g4:Value)).setCell ⟨p1_1,5,none⟩ (g5:Value)).setCell ⟨p1_1,6,none⟩ (g6:Value)).setCell ⟨p1_1,7,none⟩ (g7:Value))=W1_;intro M;obtain⟨k1,k2,k3,k4,k5,k6,k7,k8⟩:=(M.o.nth 0 rfl).eight;have kc:=(M.o.nth 1 rfl).2.1;have kf:=(M.o.nth 1 rfl).2.2;replace M:=Hd (M.o.set2 1 rfl g6 g7);dsimp only [List.set] at M;go_wp2;obtain⟨f1,f2⟩:=(M.o.nth 1 rfl).two;exact bodyPost_ret (v:=.tuple #[.agg #[.float .f64 g6,.float .f64 g7],.int .i64 eg]) (by simp [results,Tryz.results159,go_sem,f1,f2]) rfl ⟨rfl,M.o.base⟩
def pmMJ1 (w:World) (al g0 g1 g2 g3 g4 g5 g6 g7:Nat) (eg:Int) (l:RowL) (a0:Act) (k:Nat) (p:List (Option Nat)) (a:Act) (v:World):Prop:=
 ∃ y1 y2 y3 y4 y5 z1:Value,a=((((((a0.put (some 15) y1).put (some 16) y2).put (some 10) y3).put (some 17) y4).put (some 18) y5).put (some 8) z1)∧(0 < k→y1 = .agg #[al,al])∧(1 < k→y2 = .tuple #[.agg #[g0,g1,g2,g3,g4,g5,g6,g7],.int .i64 eg])∧(2 < k→y3 = .tuple #[.agg #[g0,g1,g2,g3,g4,g5,g6,g7],.int .i64 eg])∧(3 < k→y4 = .agg #[g0,g1,g2,g3,g4,g5,g6,g7])∧(4 < k→y5 = .int .i64 eg)∧(∀ q,p[0]? = some (some q)→z1 = .pointer (some ⟨q,0,none⟩))∧OwnF w l [#[(),(),(),(),(),(),(),()]] p v
section
variable {w v:World} {al g0 g1 g2 g3 g4 g5 g6 g7:Nat} {eg:Int} {l:RowL} {a0 a:Act} {p:List (Option Nat)}
theorem pmMJ1_0 (h:pmMJ1 w al g0 g1 g2 g3 g4 g5 g6 g7 eg l a0 0 p a v):∃ y1 y2 y3 y4 y5 z1:Value,a=((((((a0.put (some 15) y1).put (some 16) y2).put (some 10) y3).put (some 17) y4).put (some 18) y5).put (some 8) z1)∧(∀ q,p[0]? = some (some q)→z1 = .pointer (some ⟨q,0,none⟩))∧OwnF w l [#[(),(),(),(),(),(),(),()]] p v:=by
 obtain⟨y1,y2,y3,y4,y5,z1,ha,E1,E2,E3,E4,E5,G1,h⟩:=h;exact ⟨y1,y2,y3,y4,y5,z1,ha,G1,h⟩
theorem pmMJ1_1 (h:pmMJ1 w al g0 g1 g2 g3 g4 g5 g6 g7 eg l a0 1 p a v):∃ y2 y3 y4 y5 z1:Value,a=((((((a0.put (some 15) (.agg #[al,al])).put (some 16) y2).put (some 10) y3).put (some 17) y4).put (some 18) y5).put (some 8) z1)∧(∀ q,p[0]? = some (some q)→z1 = .pointer (some ⟨q,0,none⟩))∧OwnF w l [#[(),(),(),(),(),(),(),()]] p v:=by
 obtain⟨y1,y2,y3,y4,y5,z1,ha,E1,E2,E3,E4,E5,G1,h⟩:=h;obtain rfl:=E1 (by decide);exact ⟨y2,y3,y4,y5,z1,ha,G1,h⟩
theorem pmMJ1_2 (h:pmMJ1 w al g0 g1 g2 g3 g4 g5 g6 g7 eg l a0 2 p a v):∃ y3 y4 y5 z1:Value,a=((((((a0.put (some 15) (.agg #[al,al])).put (some 16) (.tuple #[.agg #[g0,g1,g2,g3,g4,g5,g6,g7],.int .i64 eg])).put (some 10) y3).put (some 17) y4).put (some 18) y5).put (some 8) z1)∧(∀ q,p[0]? = some (some q)→z1 = .pointer (some ⟨q,0,none⟩))∧OwnF w l [#[(),(),(),(),(),(),(),()]] p v:=by
 obtain⟨y1,y2,y3,y4,y5,z1,ha,E1,E2,E3,E4,E5,G1,h⟩:=h;obtain rfl:=E1 (by decide);obtain rfl:=E2 (by decide);exact ⟨y3,y4,y5,z1,ha,G1,h⟩
theorem pmMJ1_3 (h:pmMJ1 w al g0 g1 g2 g3 g4 g5 g6 g7 eg l a0 3 p a v):∃ y4 y5 z1:Value,a=((((((a0.put (some 15) (.agg #[al,al])).put (some 16) (.tuple #[.agg #[g0,g1,g2,g3,g4,g5,g6,g7],.int .i64 eg])).put (some 10) (.tuple #[.agg #[g0,g1,g2,g3,g4,g5,g6,g7],.int .i64 eg])).put (some 17) y4).put (some 18) y5).put (some 8) z1)∧(∀ q,p[0]? = some (some q)→z1 = .pointer (some ⟨q,0,none⟩))∧OwnF w l [#[(),(),(),(),(),(),(),()]] p v:=by
 obtain⟨y1,y2,y3,y4,y5,z1,ha,E1,E2,E3,E4,E5,G1,h⟩:=h;obtain rfl:=E1 (by decide);obtain rfl:=E2 (by decide);obtain rfl:=E3 (by decide);exact ⟨y4,y5,z1,ha,G1,h⟩
theorem pmMJ1_4 (h:pmMJ1 w al g0 g1 g2 g3 g4 g5 g6 g7 eg l a0 4 p a v):∃ y5 z1:Value,a=((((((a0.put (some 15) (.agg #[al,al])).put (some 16) (.tuple #[.agg #[g0,g1,g2,g3,g4,g5,g6,g7],.int .i64 eg])).put (some 10) (.tuple #[.agg #[g0,g1,g2,g3,g4,g5,g6,g7],.int .i64 eg])).put (some 17) (.agg #[g0,g1,g2,g3,g4,g5,g6,g7])).put (some 18) y5).put (some 8) z1)∧(∀ q,p[0]? = some (some q)→z1 = .pointer (some ⟨q,0,none⟩))∧OwnF w l [#[(),(),(),(),(),(),(),()]] p v:=by
 obtain⟨y1,y2,y3,y4,y5,z1,ha,E1,E2,E3,E4,E5,G1,h⟩:=h;obtain rfl:=E1 (by decide);obtain rfl:=E2 (by decide);obtain rfl:=E3 (by decide);obtain rfl:=E4 (by decide);exact ⟨y5,z1,ha,G1,h⟩
theorem pmMJ1_fin {q1:Nat} (h:pmMJ1 w al g0 g1 g2 g3 g4 g5 g6 g7 eg l a0 5 [some q1] a v):a=((((((a0.put (some 15) (.agg #[al,al])).put (some 16) (.tuple #[.agg #[g0,g1,g2,g3,g4,g5,g6,g7],.int .i64 eg])).put (some 10) (.tuple #[.agg #[g0,g1,g2,g3,g4,g5,g6,g7],.int .i64 eg])).put (some 17) (.agg #[g0,g1,g2,g3,g4,g5,g6,g7])).put (some 18) (.int .i64 eg)).put (some 8) (.pointer (some ⟨q1,0,none⟩)))∧OwnF w l [#[(),(),(),(),(),(),(),()]] [some q1] v:=by
 obtain⟨y1,y2,y3,y4,y5,z1,ha,E1,E2,E3,E4,E5,G1,h⟩:=h;obtain rfl:=E1 (by decide);obtain rfl:=E2 (by decide);obtain rfl:=E3 (by decide);obtain rfl:=E4 (by decide);obtain rfl:=E5 (by decide);obtain rfl:=G1 _ rfl;exact ⟨ha,h⟩
end
theorem densM_walk {al p0 p1 p2 q0 q1 q2 i0 i1 i2 i3 i4 i5 o0 o1 o2 o3 o4 o5 g0 g1 g2 g3 g4 g5 g6 g7:Nat} {eg:Int} (w:World)
  (c2:CH 189 #[.agg #[i0,i1,i2,i3,i4,i5],.agg #[o0,o1,o2,o3,o4,o5],.agg #[al,al]] (.tuple #[.agg #[g0,g1,g2,g3,g4,g5,g6,g7],.int .i64 eg])) :
  Calls Tryz.prog 159 #[.agg #[.int .u8 4,(),(),(),(),(),(),p0,p1,p2,q0,q1,q2,(),al,(),(),true,true],.agg #[i0,i1,i2,i3,i4,i5],.agg #[o0,o1,o2,o3,o4,o5]] w (Rt (.tuple #[.agg #[g6,g7],.int .i64 eg]) w):=by
 have M:=Hd (((((Own.nil w).made #[.int .u8 4,(),(),(),(),(),(),p0,p1,p2,q0,q1,q2,(),al,(),(),true,true] 66).made #[i0,i1,i2,i3,i4,i5] 33).made #[o0,o1,o2,o3,o4,o5] 33).made #[(),()] 31);simp only [World.size_alloc] at M;have eqF:=eq_floats;go_enter Tryz.func159,Tryz.ntmps159;go_upto_region 1 with fail;replace M:=Hd M.o.drew;revert M;generalize ((((w.alloc (.cells #[.int .u8 4,(),(),(),(),(),(),p0,p1,p2,q0,q1,q2,(),al,(),(),true,true] 66)).alloc (.cells #[i0,i1,i2,i3,i4,i5] 33)).alloc (.cells #[o0,o1,o2,o3,o4,o5] 33)).alloc (.cells #[(),()] 31))=W0_;intro M;refine wp_region_noPanic ?_;refine tails_region (S:=fun w'=>(Cf w' (w.heap.size+1) 0 i0∧Cf w' (w.heap.size+1) 1 i1∧Cf w' (w.heap.size+1) 2 i2∧Cf w' (w.heap.size+1) 3 i3∧Cf w' (w.heap.size+1) 4 i4∧Cf w' (w.heap.size+1) 5 i5)∧(Cf w' (w.heap.size+1+1) 0 o0∧Cf w' (w.heap.size+1+1) 1 o1∧Cf w' (w.heap.size+1+1) 2 o2∧Cf w' (w.heap.size+1+1) 3 o3∧Cf w' (w.heap.size+1+1) 4 o4∧Cf w' (w.heap.size+1+1) 5 o5)∧(Cf w' w.heap.size 14 al)) [] (by kernel_rfl) ?_ (fun hS=>?_)
 ·exact ⟨(M.o.nth 2 rfl).six,(M.o.nth 1 rfl).six,((M.o.nth 3 rfl).get 14 al rfl)⟩
 refine tq 0 hS ?_;refine tq 1 hS ?_;refine tq 2 hS ?_;refine tq 3 hS ?_
 conv=>arg 9; simp only [Act.put,go_sem]
 refine lp_ccppp_1 M 4 5 6 7 8 9 [15,16,10,17,18,8] 2 (pmMJ1 w al g0 g1 g2 g3 g4 g5 g6 g7 eg) (by kernel_rfl) (by kernel_rfl) ?_ ?_ ?_ ?_ ?_ ?_ ?_ ?_ ?_
 ·intro A hA
  obtain⟨y1,hq1⟩:=put_ex (hA 15 (by simp));obtain⟨y2,hq2⟩:=put_ex (hA 16 (by simp));obtain⟨y3,hq3⟩:=put_ex (hA 10 (by simp));obtain⟨y4,hq4⟩:=put_ex (hA 17 (by simp));obtain⟨y5,hq5⟩:=put_ex (hA 18 (by simp));obtain⟨z1,hq6⟩:=put_ex (hA 8 (by simp));exact ⟨y1,y2,y3,y4,y5,z1,by rw [hq1,hq2,hq3,hq4,hq5,hq6],by omega,by omega,by omega,by omega,by omega,by simp,OwnF.start M.out 1⟩
 ·rintro k p a v ⟨y1,y2,y3,y4,y5,z1,_,_,_,_,_,_,_,h⟩
  exact ⟨(h.own.nth 2 rfl).six,(h.own.nth 1 rfl).six,((h.own.nth 3 rfl).get 14 al rfl)⟩
 ·intro p a v hJ
  refine os fun K hK=>?_
  obtain⟨y1,y2,y3,y4,y5,z1,ha,gg1,h⟩:=pmMJ1_0 hJ;have h:=Hd h;clear hJ;subst ha;go_simp;refine (psingle_any al _).mono ?_;rintro rr w5 ⟨rfl,hp⟩
  try go_wp2_with fail
  refine hK.out _ _ ⟨_,y2,y3,y4,y5,z1,?_,fun _=>rfl,by omega,by omega,by omega,by omega,gg1,h.out.below hp⟩;kernel_rfl
 ·intro p a v hJ
  refine os fun K hK=>?_
  obtain⟨y2,y3,y4,y5,z1,ha,gg1,h⟩:=pmMJ1_1 hJ;have h:=Hd h;clear hJ;subst ha;go_simp;refine (c2.out _).mono ?_;rintro rr w5 ⟨rfl,hp⟩
  try go_wp2_with fail
  refine hK.out _ _ ⟨_,_,y3,y4,y5,z1,?_,fun _=>rfl,fun _=>rfl,by omega,by omega,by omega,gg1,h.out.below hp⟩;kernel_rfl
 ·intro p a v hJ
  replace hJ:=pmMJ1_2 hJ;refine Exists.elim hJ (fun y3 hJ=>?_);refine Exists.elim hJ (fun y4 hJ=>?_);refine Exists.elim hJ (fun y5 hJ=>?_);refine Exists.elim hJ (fun z1 hJ=>?_);have ha:=hJ.1;have gg1:=hJ.2.1;have h:=hJ.2.2;clear hJ;subst ha;refine ⟨_,.tuple #[.agg #[g0,g1,g2,g3,g4,g5,g6,g7],.int .i64 eg],rfl,Or.inl ⟨by kernel_rfl,?_⟩,(fun _ _ _ h=>h),_,_,_,y4,y5,z1,?_,fun _=>rfl,fun _=>rfl,fun _=>rfl,by omega,by omega,gg1,h⟩
  ·intro w hSw; clear hSw h; go_simp; try with_reducible rfl
  ·kernel_rfl
 ·intro p a v hJ
  replace hJ:=pmMJ1_3 hJ;refine Exists.elim hJ (fun y4 hJ=>?_);refine Exists.elim hJ (fun y5 hJ=>?_);refine Exists.elim hJ (fun z1 hJ=>?_);have ha:=hJ.1;have gg1:=hJ.2.1;have h:=hJ.2.2;clear hJ;subst ha;refine ⟨_,.agg #[g0,g1,g2,g3,g4,g5,g6,g7],rfl,Or.inl ⟨by kernel_rfl,?_⟩,(fun _ _ _ h=>h),_,_,_,_,y5,z1,?_,fun _=>rfl,fun _=>rfl,fun _=>rfl,fun _=>rfl,by omega,gg1,h⟩
  ·intro w hSw; clear hSw h; go_simp; try with_reducible rfl
  ·kernel_rfl
 ·intro p a v hJ
  replace hJ:=pmMJ1_4 hJ;refine Exists.elim hJ (fun y5 hJ=>?_);refine Exists.elim hJ (fun z1 hJ=>?_);have ha:=hJ.1;have gg1:=hJ.2.1;have h:=hJ.2.2;clear hJ;subst ha;refine ⟨_,.int .i64 eg,rfl,Or.inl ⟨by kernel_rfl,?_⟩,(fun _ _ _ h=>h),_,_,_,_,_,z1,?_,fun _=>rfl,fun _=>rfl,fun _=>rfl,fun _=>rfl,fun _=>rfl,gg1,h⟩
  ·intro w hSw; clear hSw h; go_simp; try with_reducible rfl
  ·kernel_rfl
 ·intro k p a v hp hJ
  refine os fun K hK=>?_
  obtain⟨y1,y2,y3,y4,y5,z1,ha,ee1,ee2,ee3,ee4,ee5,gg1,h⟩:=hJ;have h:=Hd h;subst ha;go_simp;refine hK.out _ _ ⟨v.heap.size,y1,y2,y3,y4,y5,.pointer (some ⟨v.heap.size,0,none⟩),?_,ee1,ee2,ee3,ee4,ee5,fun q hq=>ptr_set hq,h.out.alloc hp rfl _⟩;kernel_rfl
 intro p1_1 a v hJ;obtain⟨rfl,h⟩:=pmMJ1_fin hJ;clear hJ;replace M:=Hd h.fin1;clear h
 refine tn [] 10 fun K hK=>?_
 have kc:=(M.o.nth 0 rfl).2.1;have kf:=(M.o.nth 0 rfl).2.2;replace M:Hid (Own w [(p1_1,#[g0,g1,g2,g3,g4,g5,g6,g7]),((w.heap.size+1+1+1),#[(),()]),((w.heap.size+1+1),#[o0,o1,o2,o3,o4,o5]),((w.heap.size+1),#[i0,i1,i2,i3,i4,i5]),(w.heap.size,#[.int .u8 4,(),(),(),(),(),(),p0,p1,p2,q0,q1,q2,(),al,(),(),true,true])] _):=Hd (((((((((M.o.setIn 0 rfl 0 (g0:Value)).setIn 0 rfl 1 (g1:Value)).setIn 0 rfl 2 (g2:Value)).setIn 0 rfl 3 (g3:Value)).setIn 0 rfl 4 (g4:Value)).setIn 0 rfl 5 (g5:Value)).setIn 0 rfl 6 (g6:Value)).setIn 0 rfl 7 (g7:Value)).to (by rfl));go_simp;refine hK.out _ _ (Or.inr ⟨(M.o.nth 3 rfl).six,(M.o.nth 2 rfl).six,((M.o.nth 4 rfl).get 14 al rfl)⟩) (fun hHeld=>?_);clear hK K hHeld kc kf
 refine tn [] 11 fun K hK=>?_
 go_simp;refine hK.out _ _ (Or.inr ⟨(M.o.nth 3 rfl).six,(M.o.nth 2 rfl).six,((M.o.nth 4 rfl).get 14 al rfl)⟩) (fun hHeld=>?_);clear hK K hHeld;refine tails_done (by kernel_rfl) ?_ _;refine NoPanic.normal ?_;clear hS;revert M;generalize ((((((((v.setCell ⟨p1_1,0,none⟩ (g0:Value)).setCell ⟨p1_1,1,none⟩ (g1:Value)).setCell ⟨p1_1,2,none⟩ (g2:Value)).setCell ⟨p1_1,3,none⟩ (g3:Value)).setCell ⟨p1_1,4,none⟩ (g4:Value)).setCell ⟨p1_1,5,none⟩ (g5:Value)).setCell ⟨p1_1,6,none⟩ (g6:Value)).setCell ⟨p1_1,7,none⟩ (g7:Value))=W1_;intro M;obtain⟨k1,k2,k3,k4,k5,k6,k7,k8⟩:=(M.o.nth 0 rfl).eight;have kc:=(M.o.nth 1 rfl).2.1;have kf:=(M.o.nth 1 rfl).2.2;replace M:=Hd (M.o.set2 1 rfl g6 g7);dsimp only [List.set] at M;go_wp2;obtain⟨f1,f2⟩:=(M.o.nth 1 rfl).two;exact bodyPost_ret (v:=.tuple #[.agg #[.float .f64 g6,.float .f64 g7],.int .i64 eg]) (by simp [results,Tryz.results159,go_sem,f1,f2]) rfl ⟨rfl,M.o.base⟩
theorem valL_walk {cc:Int} {xr:Nat} {r0 r1 r2 i0 i1 i2 i3 i4 i5 o0 o1 o2 o3 o4 o5 zl zh:Nat} {ez:Int} (w:World) (hi:Hid ((cc=0∧r0=xr)∨(cc=1∧r1=xr)∨(cc=2∧r2=xr)))
  (c2:CH 181 #[.agg #[xr,xr]] (.tuple #[.agg #[zl,zh],.int .i64 ez])) :
  Calls Tryz.prog 153 #[.agg #[.int .u8 1,r0,r1,r2,(),(),(),(),(),(),(),(),(),(),(),(),(),true,true],.int .i64 cc,.agg #[i0,i1,i2,i3,i4,i5],.agg #[o0,o1,o2,o3,o4,o5]] w (Rt (.tuple #[.agg #[zl,zh],.int .i64 ez]) w):=by
 have M:=Hd (((((Own.nil w).made #[.int .u8 1,r0,r1,r2,(),(),(),(),(),(),(),(),(),(),(),(),(),true,true] 66).made #[i0,i1,i2,i3,i4,i5] 33).made #[o0,o1,o2,o3,o4,o5] 33).made #[(),()] 31);simp only [World.size_alloc] at M;have eqF:=eq_floats;go_enter Tryz.func153,Tryz.ntmps153
 rcases hi.out with ⟨rfl,rfl⟩ | ⟨rfl,rfl⟩ | ⟨rfl,rfl⟩
 have k1:=(M.o.nth 3 rfl).get 1 r0 rfl
 rotate_left
 have k1:=(M.o.nth 3 rfl).get 2 r1 rfl
 rotate_left
 have k1:=(M.o.nth 3 rfl).get 3 r2 rfl
 rotate_left
 all_goals
  clear hi;go_wp2_with fail;refine (psingle_any _ _).mono ?_;rintro r w1_ ⟨rfl,hb⟩;replace M:=Hd (M.o.below hb);clear hb;clear k1;go_wp2_with fail;refine (c2.out _).mono ?_;rintro r w2_ ⟨rfl,hb⟩;replace M:=Hd (M.o.below hb);clear hb;have kc:=(M.o.nth 0 rfl).2.1;have kf:=(M.o.nth 0 rfl).2.2;replace M:=Hd (M.o.set2 0 rfl zl zh);dsimp only [List.set] at M;go_wp2;obtain⟨f1,f2⟩:=(M.o.nth 0 rfl).two;exact bodyPost_ret (v:=.tuple #[.agg #[.float .f64 zl,.float .f64 zh],.int .i64 ez]) (by simp [results,Tryz.results153,go_sem,f1,f2]) rfl ⟨rfl,M.o.base⟩
end
end Go.Proofs.YtnaomilkgfkegaaGreat
