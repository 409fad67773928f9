/- What the claim stands on, part 33: GgA. -/
import Derived.Test.YtnaomilkgfkegaaGreatWA16
import Derived.Deep.RegionHeld3
set_option maxHeartbeats 16000000
set_option maxRecDepth 100000
namespace Go.Proofs.YtnaomilkgfkegaaGreat
section
open Go.RowKit
attribute [local go_sem] run_store_float
section
variable {P:Program} {ops:Array Oper} {Q:Exit→Act→World→Prop} {md:Region.Mode} {S:World→Prop}
theorem lp_cccc_1 {a0:Act} {B v:World} {l:List (Nat×Array Value)} (_:Hid (Own B l v)) {w0:World} {L0:Array Bool} (c1 c2 c3 c4 m1:Nat) (slots:List Nat) (N:Nat) (J:List (Nat×Array Value)→Act→Nat→List (Option Nat)→Act→World→Prop) (hok:latOkP [false,false,false,false] md ops L0 [c1,c2,c3,c4] [m1]=true)
  (hsl:(slots.all fun s=>decide (s < a0.tmps.size))=true) (h0:∀ A:Act,(∀ s,s∈slots→s < A.tmps.size)→J l A 0 (List.replicate 1 none) A w0)
  (hS:∀ k p a w,J l a0 k p a w→S w)
  (k1:∀ p a w,J l a0 0 p a w→wpOp P ops Q c1 (fun b v=>J l a0 1 p b v) a w)
  (k2:∀ p a w,J l a0 1 p a w→wpOp P ops Q c2 (fun b v=>J l a0 2 p b v) a w)
  (k3:∀ p a w,J l a0 2 p a w→wpOp P ops Q c3 (fun b v=>J l a0 3 p b v) a w)
  (k4:∀ p a w,J l a0 3 p a w→wpOp P ops Q c4 (fun b v=>J l a0 4 p b v) a w)
  (n1:∀ k p a w,p[0]? = some none→J l a0 k p a w→wpOp P ops Q m1 (fun b v=>∃ q,J l a0 k (p.set 0 (some q)) b v) a w)
  (fin:∀ q1 a w,J l a0 4 [some q1] a w→wpAnyV P md ops Q S [] N (lstOf L0 [c1,c2,c3,c4] [m1] 4 [true]) a w) :
  wpAnyV P md ops Q S [] (N+5) L0 a0 w0:=by
 refine latP_from (pl:=[false,false,false,false]) [c1,c2,c3,c4] [m1] slots N 5 (J l) hok rfl hsl h0 hS (fun k i p a w hk hn hJ=>?_) (fun k i p a w hk hn hJ=>?_) (fun k m i p a w hm hp hJ=>?_) (fun p a w hp hall hJ=>?_)
 ·rcases k with _ | _ | _ | _ | k
  ·obtain rfl:c1=i:=by simpa using hk
   exact k1 p a w hJ
  ·obtain rfl:c2=i:=by simpa using hk
   exact k2 p a w hJ
  ·obtain rfl:c3=i:=by simpa using hk
   exact k3 p a w hJ
  ·obtain rfl:c4=i:=by simpa using hk
   exact k4 p a w hJ
  ·simp at hk
 ·rcases k with _ | _ | _ | _ | k
  ·exact absurd hn (by decide)
  ·exact absurd hn (by decide)
  ·exact absurd hn (by decide)
  ·exact absurd hn (by decide)
  ·simp at hk
 ·rcases m with _ | m
  ·obtain rfl:m1=i:=by simpa using hm
   exact n1 k p a w hp hJ
  ·simp at hm
 ·obtain⟨q1,rfl⟩:=fin_one hp hall
  exact fin q1 a w hJ
end
theorem gwithin_walk {xl xh ls gs:Nat} (w:World)
  (o_leqls_xl:(((FloatKind.f64.format.order ls xl == some Ordering.lt) || (FloatKind.f64.format.order ls xl == some Ordering.eq))=true))
  (o_leqxh_gs:(((FloatKind.f64.format.order xh gs == some Ordering.lt) || (FloatKind.f64.format.order xh gs == some Ordering.eq))=true)) :
  Calls Tryz.prog 228 #[.agg #[xl,xh],ls,gs] w (Rt (.bool true) w):=by
 have M:=Hd ((Own.nil w).made #[xl,xh] 31);have eqF:=eq_floats;go_enter Tryz.func228,Tryz.ntmps228;obtain⟨k1,k2⟩:=(M.o.nth 0 rfl).two;go_wp2;go_ret;exact ⟨rfl,M.o.base⟩
theorem gcheck_walk {al ah il ih ol oh:Nat} {er0:Int} {pb:Nat} (w:World) (hC:Hid (Has1 w (pb,#[.int .i64 er0,al,ah,il,ih,ol,oh])))
  (c1:CH 46 #[.agg #[il,ih]] (.bool true))
  (c2:CH 46 #[.agg #[ol,oh]] (.bool true))
  (c3:CH 46 #[.agg #[al,ah]] (.bool true))
  (c4:CH 228 #[.agg #[il,ih],(),(4607182418800017408:Nat)] (.bool true))
  (c5:CH 228 #[.agg #[ol,oh],(),(4607182418800017408:Nat)] (.bool true))
  (c6:CH 228 #[.agg #[al,ah],(4584664420663164928:Nat),(4607182418800017408:Nat)] (.bool true)) :
  Calls Tryz.prog 224 #[.pointer (some ⟨pb,0,none⟩)] w (Rt (.int .i64 0) w):=by
 have M0:=Own.srf (x:=.int .i64 er0) hC.out rfl;have M:=Hd M0;clear M0;have eqF:=eq_floats;go_enter Tryz.func224,Tryz.ntmps224;obtain⟨k1,k2,k3,k4,k5,k6,k7⟩:=(hC.out.at M.out).seven;go_wp2_with fail;refine (c1.out _).mono ?_;rintro r w1_ ⟨rfl,hb⟩;replace M:=Hd (M.o.below hb);clear hb;clear k1 k2 k3 k4 k5 k6 k7;obtain⟨k1,k2,k3,k4,k5,k6,k7⟩:=(hC.out.at M.out).seven;go_wp2_with fail;refine (c2.out _).mono ?_;rintro r w2_ ⟨rfl,hb⟩;replace M:=Hd (M.o.below hb);clear hb;clear k1 k2 k3 k4 k5 k6 k7;obtain⟨k1,k2,k3,k4,k5,k6,k7⟩:=(hC.out.at M.out).seven;go_wp2_with fail;refine (c3.out _).mono ?_;rintro r w3_ ⟨rfl,hb⟩;replace M:=Hd (M.o.below hb);clear hb;clear k1 k2 k3 k4 k5 k6 k7;obtain⟨k1,k2,k3,k4,k5,k6,k7⟩:=(hC.out.at M.out).seven;go_wp2_with fail;refine (c4.out _).mono ?_;rintro r w4_ ⟨rfl,hb⟩;replace M:=Hd (M.o.below hb);clear hb;clear k1 k2 k3 k4 k5 k6 k7;obtain⟨k1,k2,k3,k4,k5,k6,k7⟩:=(hC.out.at M.out).seven
 go_wp2_with fail;refine (c5.out _).mono ?_;rintro r w5_ ⟨rfl,hb⟩;replace M:=Hd (M.o.below hb);clear hb;clear k1 k2 k3 k4 k5 k6 k7;obtain⟨k1,k2,k3,k4,k5,k6,k7⟩:=(hC.out.at M.out).seven;go_wp2_with fail;refine (c6.out _).mono ?_;rintro r w6_ ⟨rfl,hb⟩;replace M:=Hd (M.o.below hb);clear hb;clear k1 k2 k3 k4 k5 k6 k7;go_wp2;go_ret;exact ⟨rfl,M.o.base_srf hC.out⟩
theorem gnot_walk {xl xh yl yh:Nat} (w:World)
  (m_yl:(∀ ts t w,(Builtin.max_ ts t #[xl,()]).run Tryz.prog w = .ok (yl:Value) w))
  (m_yh:(∀ ts t w,(Builtin.max_ ts t #[xh,()]).run Tryz.prog w = .ok (yh:Value) w)) :
  Calls Tryz.prog 229 #[.agg #[xl,xh]] w (Rt (.agg #[yl,yh]) w):=by
 have M:=Hd (((Own.nil w).made #[xl,xh] 31).made #[yl,yh] 31);simp only [World.size_alloc] at M;have eqF:=eq_floats;go_enter Tryz.func229,Tryz.ntmps229;obtain⟨k3,k4⟩:=(M.o.nth 1 rfl).two;go_wp2;obtain⟨f1,f2⟩:=(M.o.nth 0 rfl).two;exact bodyPost_ret (v:=.agg #[.float .f64 yl,.float .f64 yh]) (by simp [results,Tryz.results229,go_sem,f1,f2]) rfl ⟨rfl,M.o.base⟩
theorem ga2_walk {al ah il ih ol oh rl rh:Nat} {er0 er1:Int} {pb:Nat} (w:World) (hC:Hid (Has1 w (pb,#[.int .i64 er0,al,ah,il,ih,ol,oh])))
  (d1:Hid (∀ v:World,v.cell? ⟨pb,0,none⟩=some (.int .i64 er0)→v.frozen? ⟨pb,0,none⟩=false→Calls Tryz.prog 104 #[.pointer (some ⟨pb,0,none⟩),.agg #[al,ah]] v fun r w'=>r = .returned (.agg #[rl,rh])∧Put ⟨pb,0,none⟩ (.int .i64 er1) v w')) :
  Calls Tryz.prog 225 #[.pointer (some ⟨pb,0,none⟩)] w fun r w'=>r = .returned (.agg #[rl,rh])∧Put ⟨pb,0,none⟩ (.int .i64 er1) w w':=by
 have M0:=Own.srf (x:=.int .i64 er0) hC.out rfl;have M:=Hd (M0.made #[(),()] 31);clear M0;have eqF:=eq_floats;go_enter Tryz.func225,Tryz.ntmps225;go_upto_region 1 with fail;replace M:=Hd M.o.drew;revert M;generalize (w.alloc (.cells #[(),()] 31))=W0_;intro M;refine wp_region_noPanic ?_;refine tails_region (S:=fun w'=>(Cf w' pb 1 al∧Cf w' pb 2 ah∧Cf w' pb 3 il∧Cf w' pb 4 ih∧Cf w' pb 5 ol∧Cf w' pb 6 oh)) [] (by kernel_rfl) ?_ (fun hS=>?_)
 ·exact (hC.out.at M.out).but0
 refine tq 0 hS ?_;refine tq 1 hS ?_;refine tq 2 hS ?_;refine tq 3 hS ?_;refine tq 4 hS ?_;refine tq 5 hS ?_;refine tq 6 hS ?_
 conv=>arg 9; simp only [Act.put,go_sem]
 refine tn [] 7 fun K hK=>?_
 go_simp;refine (d1.out _ (hC.out.at M.out).c0 (hC.out.at M.out).pf).mono ?_;rintro rr w1_ ⟨rfl,hb⟩;replace M:=Hd (M.o.resrf hC.out.1 hb);clear hb
 try go_wp2_with fail
 refine hK.out _ _ (Or.inr (hC.out.at M.out).but0) (fun hHeld=>?_);clear hK K hHeld;replace hS:=(hC.out.at M.out).but0
 refine tn [] 8 fun K hK=>?_
 have kc:=(M.o.nth 0 rfl).2.1;have kf:=(M.o.nth 0 rfl).2.2;replace M:=Hd (M.o.set2 0 rfl rl rh);dsimp only [List.set] at M;go_simp;refine hK.out _ _ (Or.inr (hC.out.at M.out).but0) (fun hHeld=>?_);clear hK K hHeld kc kf;refine tails_done (by kernel_rfl) ?_ _;refine NoPanic.normal ?_;clear hS;revert M;generalize ((w1_.setCell ⟨w.heap.size,0,none⟩ (rl:Value)).setCell ⟨w.heap.size,1,none⟩ (rh:Value))=W2_;intro M;go_wp2;obtain⟨f1,f2⟩:=(M.o.nth 0 rfl).two;exact bodyPost_ret (v:=.agg #[.float .f64 rl,.float .f64 rh]) (by simp [results,Tryz.results225,go_sem,f1,f2]) rfl ⟨rfl,M.o.put⟩
theorem gspread_walk {al ah il ih ol oh xal xah xbl xbh xcl xch xdl xdh xel xeh xfl xfh:Nat} {er0 er1 er2 er3 er4 er5 er6:Int} {pb:Nat} (w:World) (hC:Hid (Has1 w (pb,#[.int .i64 er0,al,ah,il,ih,ol,oh])))
  (d1:Hid (∀ v:World,v.cell? ⟨pb,0,none⟩=some (.int .i64 er0)→v.frozen? ⟨pb,0,none⟩=false→Calls Tryz.prog 35 #[.pointer (some ⟨pb,0,none⟩),(4607182418800017408:Nat)] v fun r w'=>r = .returned (.agg #[xal,xah])∧Put ⟨pb,0,none⟩ (.int .i64 er1) v w'))
  (d2:Hid (∀ v:World,Has1 v (pb,#[.int .i64 er1,al,ah,il,ih,ol,oh])→Calls Tryz.prog 225 #[.pointer (some ⟨pb,0,none⟩)] v fun r w'=>r = .returned (.agg #[xbl,xbh])∧Put ⟨pb,0,none⟩ (.int .i64 er2) v w'))
  (d3:Hid (∀ v:World,v.cell? ⟨pb,0,none⟩=some (.int .i64 er2)→v.frozen? ⟨pb,0,none⟩=false→Calls Tryz.prog 34 #[.pointer (some ⟨pb,0,none⟩),.agg #[xbl,xbh],.agg #[xal,xah]] v fun r w'=>r = .returned (.agg #[xcl,xch])∧Put ⟨pb,0,none⟩ (.int .i64 er3) v w'))
  (d4:Hid (∀ v:World,v.cell? ⟨pb,0,none⟩=some (.int .i64 er3)→v.frozen? ⟨pb,0,none⟩=false→Calls Tryz.prog 104 #[.pointer (some ⟨pb,0,none⟩),.agg #[ol,oh]] v fun r w'=>r = .returned (.agg #[xdl,xdh])∧Put ⟨pb,0,none⟩ (.int .i64 er4) v w'))
  (d5:Hid (∀ v:World,v.cell? ⟨pb,0,none⟩=some (.int .i64 er4)→v.frozen? ⟨pb,0,none⟩=false→Calls Tryz.prog 32 #[.pointer (some ⟨pb,0,none⟩),.agg #[xcl,xch],.agg #[xdl,xdh]] v fun r w'=>r = .returned (.agg #[xel,xeh])∧Put ⟨pb,0,none⟩ (.int .i64 er5) v w'))
  (d6:Hid (∀ v:World,v.cell? ⟨pb,0,none⟩=some (.int .i64 er5)→v.frozen? ⟨pb,0,none⟩=false→Calls Tryz.prog 103 #[.pointer (some ⟨pb,0,none⟩),.agg #[xel,xeh],.agg #[xal,xah]] v fun r w'=>r = .returned (.agg #[xfl,xfh])∧Put ⟨pb,0,none⟩ (.int .i64 er6) v w')) :
  Calls Tryz.prog 226 #[.pointer (some ⟨pb,0,none⟩)] w fun r w'=>r = .returned (.agg #[xfl,xfh])∧Put ⟨pb,0,none⟩ (.int .i64 er6) w w':=by
 have M0:=Own.srf (x:=.int .i64 er0) hC.out rfl;have M:=Hd (M0.made #[(),()] 31);clear M0;have eqF:=eq_floats;go_enter Tryz.func226,Tryz.ntmps226;go_wp2_with fail;refine (d1.out _ (hC.out.at M.out).c0 (hC.out.at M.out).pf).mono ?_;rintro r w1_ ⟨rfl,hb⟩;replace M:=Hd (M.o.resrf hC.out.1 hb);clear hb;replace M:=Hd (M.o.made #[xal,xah] 31);go_upto_region 2 with fail;replace M:=Hd M.o.drew;revert M;generalize (w1_.alloc (.cells #[xal,xah] 31))=W2_;intro M;refine wp_region_noPanic ?_;refine tails_region (S:=fun w'=>(Cf w' w1_.heap.size 0 xal∧Cf w' w1_.heap.size 1 xah)∧(Cf w' pb 1 al∧Cf w' pb 2 ah∧Cf w' pb 3 il∧Cf w' pb 4 ih∧Cf w' pb 5 ol∧Cf w' pb 6 oh)) [] (by kernel_rfl) ?_ (fun hS=>?_)
 ·exact ⟨(M.o.nth 0 rfl).two,(hC.out.at M.out).but0⟩
 refine tq 0 hS ?_;refine tq 1 hS ?_;refine tq 2 hS ?_;refine tq 3 hS ?_;refine tq 4 hS ?_;refine tq 5 hS ?_;refine tq 6 hS ?_;refine tq 7 hS ?_;refine tq 8 hS ?_;refine tq 9 hS ?_;refine tq 11 hS ?_;refine tq 13 hS ?_;refine tq 14 hS ?_;refine tq 15 hS ?_;refine tq 16 hS ?_;refine tq 17 hS ?_;refine tq 18 hS ?_;refine tq 19 hS ?_;refine tq 22 hS ?_
 conv=>arg 9; simp only [Act.put,go_sem]
 refine tn [] 10 fun K hK=>?_
 go_simp;refine (d2.out _ (hC.out.at M.out)).mono ?_;rintro rr w3_ ⟨rfl,hb⟩;replace M:=Hd (M.o.resrf hC.out.1 hb);clear hb
 try go_wp2_with fail
 refine hK.out _ _ (Or.inr ⟨(M.o.nth 0 rfl).two,(hC.out.at M.out).but0⟩) (fun hHeld=>?_);clear hK K hHeld;replace hS:=(And.intro (M.o.nth 0 rfl).two (hC.out.at M.out).but0)
 refine tn [] 12 fun K hK=>?_
 go_simp;refine (d3.out _ (hC.out.at M.out).c0 (hC.out.at M.out).pf).mono ?_;rintro rr w4_ ⟨rfl,hb⟩;replace M:=Hd (M.o.resrf hC.out.1 hb);clear hb
 try go_wp2_with fail
 refine hK.out _ _ (Or.inr ⟨(M.o.nth 0 rfl).two,(hC.out.at M.out).but0⟩) (fun hHeld=>?_);clear hK K hHeld;replace hS:=(And.intro (M.o.nth 0 rfl).two (hC.out.at M.out).but0)
 refine tn [] 20 fun K hK=>?_
 go_simp;refine (d4.out _ (hC.out.at M.out).c0 (hC.out.at M.out).pf).mono ?_;rintro rr w5_ ⟨rfl,hb⟩;replace M:=Hd (M.o.resrf hC.out.1 hb);clear hb
 try go_wp2_with fail
 refine hK.out _ _ (Or.inr ⟨(M.o.nth 0 rfl).two,(hC.out.at M.out).but0⟩) (fun hHeld=>?_);clear hK K hHeld;replace hS:=(And.intro (M.o.nth 0 rfl).two (hC.out.at M.out).but0)
 refine tn [] 21 fun K hK=>?_
 go_simp;refine (d5.out _ (hC.out.at M.out).c0 (hC.out.at M.out).pf).mono ?_;rintro rr w6_ ⟨rfl,hb⟩;replace M:=Hd (M.o.resrf hC.out.1 hb);clear hb
 try go_wp2_with fail
 refine hK.out _ _ (Or.inr ⟨(M.o.nth 0 rfl).two,(hC.out.at M.out).but0⟩) (fun hHeld=>?_);clear hK K hHeld;replace hS:=(And.intro (M.o.nth 0 rfl).two (hC.out.at M.out).but0)
 refine tn [] 23 fun K hK=>?_
 go_simp;refine (d6.out _ (hC.out.at M.out).c0 (hC.out.at M.out).pf).mono ?_;rintro rr w7_ ⟨rfl,hb⟩;replace M:=Hd (M.o.resrf hC.out.1 hb);clear hb
 try go_wp2_with fail
 refine hK.out _ _ (Or.inr ⟨(M.o.nth 0 rfl).two,(hC.out.at M.out).but0⟩) (fun hHeld=>?_);clear hK K hHeld;replace hS:=(And.intro (M.o.nth 0 rfl).two (hC.out.at M.out).but0)
 refine tn [] 24 fun K hK=>?_
 have kc:=(M.o.nth 1 rfl).2.1;have kf:=(M.o.nth 1 rfl).2.2;replace M:=Hd (M.o.set2 1 rfl xfl xfh);dsimp only [List.set] at M;go_simp;refine hK.out _ _ (Or.inr ⟨(M.o.nth 0 rfl).two,(hC.out.at M.out).but0⟩) (fun hHeld=>?_);clear hK K hHeld kc kf;refine tails_done (by kernel_rfl) ?_ _;refine NoPanic.normal ?_;clear hS;revert M;generalize ((w7_.setCell ⟨w.heap.size,0,none⟩ (xfl:Value)).setCell ⟨w.heap.size,1,none⟩ (xfh:Value))=W8_;intro M;go_wp2;obtain⟨f1,f2⟩:=(M.o.nth 1 rfl).two;exact bodyPost_ret (v:=.agg #[.float .f64 xfl,.float .f64 xfh]) (by simp [results,Tryz.results226,go_sem,f1,f2]) rfl ⟨rfl,M.o.put⟩
def glJ2 (W:Nat→World) (xbl xbh xcl xch xdl xdh xel xeh:Nat) (l:RowL) (a0:Act) (k:Nat) (p:List (Option Nat)) (a:Act) (v:World):Prop:=
 ∃ y1 y2 y3 y4 z1:Value,a=(((((a0.put (some 22) y1).put (some 23) y2).put (some 28) y3).put (some 29) y4).put (some 6) z1)∧(0 < k→y1 = .agg #[xbl,xbh])∧(1 < k→y2 = .agg #[xcl,xch])∧(2 < k→y3 = .agg #[xdl,xdh])∧(3 < k→y4 = .agg #[xel,xeh])∧(∀ q,p[0]? = some (some q)→z1 = .pointer (some ⟨q,0,none⟩))∧OwnF (W k) l [#[(),()]] p v
section
variable {W:Nat→World} {v:World} {xbl xbh xcl xch xdl xdh xel xeh:Nat} {l:RowL} {a0 a:Act} {p:List (Option Nat)}
theorem glJ2_0 (h:glJ2 W xbl xbh xcl xch xdl xdh xel xeh l a0 0 p a v):∃ y1 y2 y3 y4 z1:Value,a=(((((a0.put (some 22) y1).put (some 23) y2).put (some 28) y3).put (some 29) y4).put (some 6) z1)∧(∀ q,p[0]? = some (some q)→z1 = .pointer (some ⟨q,0,none⟩))∧OwnF (W 0) l [#[(),()]] p v:=by
 obtain⟨y1,y2,y3,y4,z1,ha,E1,E2,E3,E4,G1,h⟩:=h;exact ⟨y1,y2,y3,y4,z1,ha,G1,h⟩
theorem glJ2_1 (h:glJ2 W xbl xbh xcl xch xdl xdh xel xeh l a0 1 p a v):∃ y2 y3 y4 z1:Value,a=(((((a0.put (some 22) (.agg #[xbl,xbh])).put (some 23) y2).put (some 28) y3).put (some 29) y4).put (some 6) z1)∧(∀ q,p[0]? = some (some q)→z1 = .pointer (some ⟨q,0,none⟩))∧OwnF (W 1) l [#[(),()]] p v:=by
 obtain⟨y1,y2,y3,y4,z1,ha,E1,E2,E3,E4,G1,h⟩:=h;obtain rfl:=E1 (by decide);exact ⟨y2,y3,y4,z1,ha,G1,h⟩
theorem glJ2_2 (h:glJ2 W xbl xbh xcl xch xdl xdh xel xeh l a0 2 p a v):∃ y3 y4 z1:Value,a=(((((a0.put (some 22) (.agg #[xbl,xbh])).put (some 23) (.agg #[xcl,xch])).put (some 28) y3).put (some 29) y4).put (some 6) z1)∧(∀ q,p[0]? = some (some q)→z1 = .pointer (some ⟨q,0,none⟩))∧OwnF (W 2) l [#[(),()]] p v:=by
 obtain⟨y1,y2,y3,y4,z1,ha,E1,E2,E3,E4,G1,h⟩:=h;obtain rfl:=E1 (by decide);obtain rfl:=E2 (by decide);exact ⟨y3,y4,z1,ha,G1,h⟩
theorem glJ2_3 (h:glJ2 W xbl xbh xcl xch xdl xdh xel xeh l a0 3 p a v):∃ y4 z1:Value,a=(((((a0.put (some 22) (.agg #[xbl,xbh])).put (some 23) (.agg #[xcl,xch])).put (some 28) (.agg #[xdl,xdh])).put (some 29) y4).put (some 6) z1)∧(∀ q,p[0]? = some (some q)→z1 = .pointer (some ⟨q,0,none⟩))∧OwnF (W 3) l [#[(),()]] p v:=by
 obtain⟨y1,y2,y3,y4,z1,ha,E1,E2,E3,E4,G1,h⟩:=h;obtain rfl:=E1 (by decide);obtain rfl:=E2 (by decide);obtain rfl:=E3 (by decide);exact ⟨y4,z1,ha,G1,h⟩
theorem glJ2_fin {q1:Nat} (h:glJ2 W xbl xbh xcl xch xdl xdh xel xeh l a0 4 [some q1] a v):a=(((((a0.put (some 22) (.agg #[xbl,xbh])).put (some 23) (.agg #[xcl,xch])).put (some 28) (.agg #[xdl,xdh])).put (some 29) (.agg #[xel,xeh])).put (some 6) (.pointer (some ⟨q1,0,none⟩)))∧OwnF (W 4) l [#[(),()]] [some q1] v:=by
 obtain⟨y1,y2,y3,y4,z1,ha,E1,E2,E3,E4,G1,h⟩:=h;obtain rfl:=E1 (by decide);obtain rfl:=E2 (by decide);obtain rfl:=E3 (by decide);obtain rfl:=E4 (by decide);obtain rfl:=G1 _ rfl;exact ⟨ha,h⟩
end
theorem glambda_walk {al ah il ih ol oh cl ch xal xah xbl xbh xcl xch xdl xdh xel xeh xfl xfh xgl xgh xhl xhh xil xih xjl xjh xkl xkh xll xlh xml xmh:Nat} {er0 er1 er2 er3 er4 er5 er6 er7 er8 er9 er10 er11 er12:Int} {pb:Nat} (w:World) (hC:Hid (Has1 w (pb,#[.int .i64 er0,al,ah,il,ih,ol,oh])))
  (d1:Hid (∀ v:World,v.cell? ⟨pb,0,none⟩=some (.int .i64 er0)→v.frozen? ⟨pb,0,none⟩=false→Calls Tryz.prog 35 #[.pointer (some ⟨pb,0,none⟩),(4607182418800017408:Nat)] v fun r w'=>r = .returned (.agg #[xal,xah])∧Put ⟨pb,0,none⟩ (.int .i64 er1) v w'))
  (d2:Hid (∀ v:World,v.cell? ⟨pb,0,none⟩=some (.int .i64 er1)→v.frozen? ⟨pb,0,none⟩=false→Calls Tryz.prog 104 #[.pointer (some ⟨pb,0,none⟩),.agg #[cl,ch]] v fun r w'=>r = .returned (.agg #[xbl,xbh])∧Put ⟨pb,0,none⟩ (.int .i64 er2) v w'))
  (d3:Hid (∀ v:World,v.cell? ⟨pb,0,none⟩=some (.int .i64 er2)→v.frozen? ⟨pb,0,none⟩=false→Calls Tryz.prog 34 #[.pointer (some ⟨pb,0,none⟩),.agg #[xal,xah],.agg #[xbl,xbh]] v fun r w'=>r = .returned (.agg #[xcl,xch])∧Put ⟨pb,0,none⟩ (.int .i64 er3) v w'))
  (d4:Hid (∀ v:World,v.cell? ⟨pb,0,none⟩=some (.int .i64 er3)→v.frozen? ⟨pb,0,none⟩=false→Calls Tryz.prog 104 #[.pointer (some ⟨pb,0,none⟩),.agg #[cl,ch]] v fun r w'=>r = .returned (.agg #[xdl,xdh])∧Put ⟨pb,0,none⟩ (.int .i64 er4) v w'))
  (d5:Hid (∀ v:World,v.cell? ⟨pb,0,none⟩=some (.int .i64 er4)→v.frozen? ⟨pb,0,none⟩=false→Calls Tryz.prog 60 #[.pointer (some ⟨pb,0,none⟩),.agg #[xcl,xch],.agg #[xdl,xdh]] v fun r w'=>r = .returned (.agg #[xel,xeh])∧Put ⟨pb,0,none⟩ (.int .i64 er5) v w'))
  (d6:Hid (∀ v:World,v.cell? ⟨pb,0,none⟩=some (.int .i64 er5)→v.frozen? ⟨pb,0,none⟩=false→Calls Tryz.prog 35 #[.pointer (some ⟨pb,0,none⟩),(4602678819172646912:Nat)] v fun r w'=>r = .returned (.agg #[xfl,xfh])∧Put ⟨pb,0,none⟩ (.int .i64 er6) v w'))
  (d7:Hid (∀ v:World,Has1 v (pb,#[.int .i64 er6,al,ah,il,ih,ol,oh])→Calls Tryz.prog 225 #[.pointer (some ⟨pb,0,none⟩)] v fun r w'=>r = .returned (.agg #[xgl,xgh])∧Put ⟨pb,0,none⟩ (.int .i64 er7) v w'))
  (d8:Hid (∀ v:World,v.cell? ⟨pb,0,none⟩=some (.int .i64 er7)→v.frozen? ⟨pb,0,none⟩=false→Calls Tryz.prog 32 #[.pointer (some ⟨pb,0,none⟩),.agg #[xgl,xgh],.agg #[xel,xeh]] v fun r w'=>r = .returned (.agg #[xhl,xhh])∧Put ⟨pb,0,none⟩ (.int .i64 er8) v w'))
  (d9:Hid (∀ v:World,v.cell? ⟨pb,0,none⟩=some (.int .i64 er8)→v.frozen? ⟨pb,0,none⟩=false→Calls Tryz.prog 103 #[.pointer (some ⟨pb,0,none⟩),.agg #[xal,xah],.agg #[xhl,xhh]] v fun r w'=>r = .returned (.agg #[xil,xih])∧Put ⟨pb,0,none⟩ (.int .i64 er9) v w'))
  (d10:Hid (∀ v:World,v.cell? ⟨pb,0,none⟩=some (.int .i64 er9)→v.frozen? ⟨pb,0,none⟩=false→Calls Tryz.prog 30 #[.pointer (some ⟨pb,0,none⟩),.agg #[xil,xih]] v fun r w'=>r = .returned (.agg #[xjl,xjh])∧Put ⟨pb,0,none⟩ (.int .i64 er10) v w'))
  (d11:Hid (∀ v:World,v.cell? ⟨pb,0,none⟩=some (.int .i64 er10)→v.frozen? ⟨pb,0,none⟩=false→Calls Tryz.prog 34 #[.pointer (some ⟨pb,0,none⟩),.agg #[xjl,xjh],.agg #[xal,xah]] v fun r w'=>r = .returned (.agg #[xkl,xkh])∧Put ⟨pb,0,none⟩ (.int .i64 er11) v w'))
  (d12:Hid (∀ v:World,v.cell? ⟨pb,0,none⟩=some (.int .i64 er11)→v.frozen? ⟨pb,0,none⟩=false→Calls Tryz.prog 32 #[.pointer (some ⟨pb,0,none⟩),.agg #[xfl,xfh],.agg #[xkl,xkh]] v fun r w'=>r = .returned (.agg #[xll,xlh])∧Put ⟨pb,0,none⟩ (.int .i64 er12) v w'))
  (c13:CH 229 #[.agg #[xll,xlh]] (.agg #[xml,xmh])) :
  Calls Tryz.prog 227 #[.pointer (some ⟨pb,0,none⟩),.agg #[cl,ch]] w fun r w'=>r = .returned (.agg #[xml,xmh])∧Put ⟨pb,0,none⟩ (.int .i64 er12) w w':=by
 have M0:=Own.srf (x:=.int .i64 er0) hC.out rfl;have M:=Hd ((M0.made #[cl,ch] 31).made #[(),()] 31);clear M0;simp only [World.size_alloc] at M;have eqF:=eq_floats;go_enter Tryz.func227,Tryz.ntmps227;go_wp2_with fail;refine (d1.out _ (hC.out.at M.out).c0 (hC.out.at M.out).pf).mono ?_;rintro r w1_ ⟨rfl,hb⟩;replace M:=Hd (M.o.resrf hC.out.1 hb);clear hb;replace M:=Hd (M.o.made #[xal,xah] 31);go_upto_region 2 with fail;replace M:=Hd M.o.drew;revert M;generalize (w1_.alloc (.cells #[xal,xah] 31))=W2_;intro M;refine wp_region_noPanic ?_;refine tails_region (S:=fun w'=>(Cf w' w1_.heap.size 0 xal∧Cf w' w1_.heap.size 1 xah)∧(Cf w' w.heap.size 0 cl∧Cf w' w.heap.size 1 ch)) [] (by kernel_rfl) ?_ (fun hS=>?_)
 ·exact ⟨(M.o.nth 0 rfl).two,(M.o.nth 2 rfl).two⟩
 refine tq 0 hS ?_;refine tq 1 hS ?_;refine tq 2 hS ?_;refine tq 3 hS ?_;refine tq 4 hS ?_;refine tq 5 hS ?_;refine tq 6 hS ?_;refine tq 7 hS ?_;refine tq 8 hS ?_;refine tq 9 hS ?_;refine tq 10 hS ?_;refine tq 13 hS ?_;refine tq 14 hS ?_;refine tq 15 hS ?_;refine tq 16 hS ?_
 conv=>arg 9; simp only [Act.put,go_sem]
 refine lp_cccc_1 M 11 12 17 18 19 [22,23,28,29,6] 1 (glJ2 (fun k=>w.setCell ⟨pb,0,none⟩ (.int .i64 ([er1,er2,er3,er4,er5].getD k 0))) xbl xbh xcl xch xdl xdh xel xeh) (by kernel_rfl) (by kernel_rfl) ?_ ?_ ?_ ?_ ?_ ?_ ?_ ?_
 ·intro A hA
  obtain⟨y1,hq1⟩:=put_ex (hA 22 (by simp));obtain⟨y2,hq2⟩:=put_ex (hA 23 (by simp));obtain⟨y3,hq3⟩:=put_ex (hA 28 (by simp));obtain⟨y4,hq4⟩:=put_ex (hA 29 (by simp));obtain⟨z1,hq5⟩:=put_ex (hA 6 (by simp));exact ⟨y1,y2,y3,y4,z1,by rw [hq1,hq2,hq3,hq4,hq5],by omega,by omega,by omega,by omega,by simp,OwnF.start M.out 1⟩
 ·rintro k p a v ⟨y1,y2,y3,y4,z1,_,_,_,_,_,_,h⟩
  exact ⟨(h.own.nth 0 rfl).two,(h.own.nth 2 rfl).two⟩
 ·intro p a v hJ
  refine os fun K hK=>?_
  obtain⟨y1,y2,y3,y4,z1,ha,gg1,h⟩:=glJ2_0 hJ;have h:=Hd h;clear hJ;subst ha;go_simp;refine (d2.out _ (hC.out.at h.out.own).c0 (hC.out.at h.out.own).pf).mono ?_;rintro rr w5 ⟨rfl,hp⟩
  try go_wp2_with fail
  refine hK.out _ _ ⟨_,y2,y3,y4,z1,?_,fun _=>rfl,by omega,by omega,by omega,gg1,h.out.resrf hC.out.1 hp⟩;kernel_rfl
 ·intro p a v hJ
  refine os fun K hK=>?_
  obtain⟨y2,y3,y4,z1,ha,gg1,h⟩:=glJ2_1 hJ;have h:=Hd h;clear hJ;subst ha;go_simp;refine (d3.out _ (hC.out.at h.out.own).c0 (hC.out.at h.out.own).pf).mono ?_;rintro rr w5 ⟨rfl,hp⟩
  try go_wp2_with fail
  refine hK.out _ _ ⟨_,_,y3,y4,z1,?_,fun _=>rfl,fun _=>rfl,by omega,by omega,gg1,h.out.resrf hC.out.1 hp⟩;kernel_rfl
 ·intro p a v hJ
  refine os fun K hK=>?_
  obtain⟨y3,y4,z1,ha,gg1,h⟩:=glJ2_2 hJ;have h:=Hd h;clear hJ;subst ha;go_simp;refine (d4.out _ (hC.out.at h.out.own).c0 (hC.out.at h.out.own).pf).mono ?_;rintro rr w5 ⟨rfl,hp⟩
  try go_wp2_with fail
  refine hK.out _ _ ⟨_,_,_,y4,z1,?_,fun _=>rfl,fun _=>rfl,fun _=>rfl,by omega,gg1,h.out.resrf hC.out.1 hp⟩;kernel_rfl
 ·intro p a v hJ
  refine os fun K hK=>?_
  obtain⟨y4,z1,ha,gg1,h⟩:=glJ2_3 hJ;have h:=Hd h;clear hJ;subst ha;go_simp;refine (d5.out _ (hC.out.at h.out.own).c0 (hC.out.at h.out.own).pf).mono ?_;rintro rr w5 ⟨rfl,hp⟩
  try go_wp2_with fail
  refine hK.out _ _ ⟨_,_,_,_,z1,?_,fun _=>rfl,fun _=>rfl,fun _=>rfl,fun _=>rfl,gg1,h.out.resrf hC.out.1 hp⟩;kernel_rfl
 ·intro k p a v hp hJ
  refine os fun K hK=>?_
  obtain⟨y1,y2,y3,y4,z1,ha,ee1,ee2,ee3,ee4,gg1,h⟩:=hJ;have h:=Hd h;subst ha;go_simp;refine hK.out _ _ ⟨v.heap.size,y1,y2,y3,y4,.pointer (some ⟨v.heap.size,0,none⟩),?_,ee1,ee2,ee3,ee4,fun q hq=>ptr_set hq,h.out.alloc hp rfl _⟩;kernel_rfl
 intro p2_1 a v hJ;obtain⟨rfl,h⟩:=glJ2_fin hJ;clear hJ;replace M:=Hd h.fin1;clear h;replace M:Hid (Own (w.setCell ⟨pb,0,none⟩ (.int .i64 er5)) [(p2_1,#[(),()]),(w1_.heap.size,#[xal,xah]),((w.heap.size+1),#[(),()]),(w.heap.size,#[cl,ch])] _):=Hd M.out
 refine tn [] 20 fun K hK=>?_
 have kc:=(M.o.nth 0 rfl).2.1;have kf:=(M.o.nth 0 rfl).2.2;replace M:=Hd (M.o.set2 0 rfl xel xeh);dsimp only [List.set] at M;go_simp;refine hK.out _ _ (Or.inr ⟨(M.o.nth 1 rfl).two,(M.o.nth 3 rfl).two⟩) (fun hHeld=>?_);clear hK K hHeld kc kf;refine tails_done (by kernel_rfl) ?_ _;refine NoPanic.normal ?_;clear hS;revert M;generalize ((v.setCell ⟨p2_1,0,none⟩ (xel:Value)).setCell ⟨p2_1,1,none⟩ (xeh:Value))=W3_;intro M;go_upto_region 3 with fail;replace M:=Hd M.o.drew;refine wp_region_noPanic ?_;refine tails_region (S:=fun w'=>(Cf w' w1_.heap.size 0 xal∧Cf w' w1_.heap.size 1 xah)∧(Cf w' p2_1 0 xel∧Cf w' p2_1 1 xeh)) [] (by kernel_rfl) ?_ (fun hS=>?_)
 ·exact ⟨(M.o.nth 1 rfl).two,(M.o.nth 0 rfl).two⟩
 refine tq 0 hS ?_;refine tq 1 hS ?_;refine tq 2 hS ?_;refine tq 3 hS ?_;refine tq 4 hS ?_;refine tq 5 hS ?_;refine tq 7 hS ?_;refine tq 8 hS ?_;refine tq 9 hS ?_;refine tq 10 hS ?_;refine tq 11 hS ?_;refine tq 12 hS ?_;refine tq 13 hS ?_;refine tq 14 hS ?_;refine tq 15 hS ?_;refine tq 16 hS ?_;refine tq 17 hS ?_;refine tq 18 hS ?_;refine tq 19 hS ?_;refine tq 20 hS ?_;refine tq 22 hS ?_;refine tq 26 hS ?_
 conv=>arg 9; simp only [Act.put,go_sem]
 refine tn [] 6 fun K hK=>?_
 go_simp;refine (d6.out _ (hC.out.at M.out).c0 (hC.out.at M.out).pf).mono ?_;rintro rr w4_ ⟨rfl,hb⟩;replace M:=Hd (M.o.resrf hC.out.1 hb);clear hb
 try go_wp2_with fail
 refine hK.out _ _ (Or.inr ⟨(M.o.nth 1 rfl).two,(M.o.nth 0 rfl).two⟩) (fun hHeld=>?_);clear hK K hHeld;replace hS:=(And.intro (M.o.nth 1 rfl).two (M.o.nth 0 rfl).two)
 refine tn [] 21 fun K hK=>?_
 go_simp;refine (d7.out _ (hC.out.at M.out)).mono ?_;rintro rr w5_ ⟨rfl,hb⟩;replace M:=Hd (M.o.resrf hC.out.1 hb);clear hb
 try go_wp2_with fail
 refine hK.out _ _ (Or.inr ⟨(M.o.nth 1 rfl).two,(M.o.nth 0 rfl).two⟩) (fun hHeld=>?_);clear hK K hHeld;replace hS:=(And.intro (M.o.nth 1 rfl).two (M.o.nth 0 rfl).two)
 refine tn [] 23 fun K hK=>?_
 go_simp;refine (d8.out _ (hC.out.at M.out).c0 (hC.out.at M.out).pf).mono ?_;rintro rr w6_ ⟨rfl,hb⟩;replace M:=Hd (M.o.resrf hC.out.1 hb);clear hb
 try go_wp2_with fail
 refine hK.out _ _ (Or.inr ⟨(M.o.nth 1 rfl).two,(M.o.nth 0 rfl).two⟩) (fun hHeld=>?_);clear hK K hHeld;replace hS:=(And.intro (M.o.nth 1 rfl).two (M.o.nth 0 rfl).two)
 refine tn [] 24 fun K hK=>?_
 go_simp;refine (d9.out _ (hC.out.at M.out).c0 (hC.out.at M.out).pf).mono ?_;rintro rr w7_ ⟨rfl,hb⟩;replace M:=Hd (M.o.resrf hC.out.1 hb);clear hb
 try go_wp2_with fail
 refine hK.out _ _ (Or.inr ⟨(M.o.nth 1 rfl).two,(M.o.nth 0 rfl).two⟩) (fun hHeld=>?_);clear hK K hHeld;replace hS:=(And.intro (M.o.nth 1 rfl).two (M.o.nth 0 rfl).two)
 refine tn [] 25 fun K hK=>?_
 go_simp;refine (d10.out _ (hC.out.at M.out).c0 (hC.out.at M.out).pf).mono ?_;rintro rr w8_ ⟨rfl,hb⟩;replace M:=Hd (M.o.resrf hC.out.1 hb);clear hb
 try go_wp2_with fail
 refine hK.out _ _ (Or.inr ⟨(M.o.nth 1 rfl).two,(M.o.nth 0 rfl).two⟩) (fun hHeld=>?_);clear hK K hHeld;replace hS:=(And.intro (M.o.nth 1 rfl).two (M.o.nth 0 rfl).two)
 refine tn [] 27 fun K hK=>?_
 go_simp;refine (d11.out _ (hC.out.at M.out).c0 (hC.out.at M.out).pf).mono ?_;rintro rr w9_ ⟨rfl,hb⟩;replace M:=Hd (M.o.resrf hC.out.1 hb);clear hb
 try go_wp2_with fail
 refine hK.out _ _ (Or.inr ⟨(M.o.nth 1 rfl).two,(M.o.nth 0 rfl).two⟩) (fun hHeld=>?_);clear hK K hHeld;replace hS:=(And.intro (M.o.nth 1 rfl).two (M.o.nth 0 rfl).two)
 refine tn [] 28 fun K hK=>?_
 go_simp;refine (d12.out _ (hC.out.at M.out).c0 (hC.out.at M.out).pf).mono ?_;rintro rr w10_ ⟨rfl,hb⟩;replace M:=Hd (M.o.resrf hC.out.1 hb);clear hb
 try go_wp2_with fail
 refine hK.out _ _ (Or.inr ⟨(M.o.nth 1 rfl).two,(M.o.nth 0 rfl).two⟩) (fun hHeld=>?_);clear hK K hHeld;replace hS:=(And.intro (M.o.nth 1 rfl).two (M.o.nth 0 rfl).two)
 refine tn [] 29 fun K hK=>?_
 go_simp;refine (c13.out _).mono ?_;rintro rr w11_ ⟨rfl,hb⟩;replace M:=Hd (M.o.below hb);clear hb
 try go_wp2_with fail
 refine hK.out _ _ (Or.inr ⟨(M.o.nth 1 rfl).two,(M.o.nth 0 rfl).two⟩) (fun hHeld=>?_);clear hK K hHeld;replace hS:=(And.intro (M.o.nth 1 rfl).two (M.o.nth 0 rfl).two)
 refine tn [] 30 fun K hK=>?_
 have kc:=(M.o.nth 2 rfl).2.1;have kf:=(M.o.nth 2 rfl).2.2;replace M:=Hd (M.o.set2 2 rfl xml xmh);dsimp only [List.set] at M;go_simp;refine hK.out _ _ (Or.inr ⟨(M.o.nth 1 rfl).two,(M.o.nth 0 rfl).two⟩) (fun hHeld=>?_);clear hK K hHeld kc kf;refine tails_done (by kernel_rfl) ?_ _;refine NoPanic.normal ?_;clear hS;revert M;generalize ((w11_.setCell ⟨(w.heap.size+1),0,none⟩ (xml:Value)).setCell ⟨(w.heap.size+1),1,none⟩ (xmh:Value))=W12_;intro M;go_wp2;obtain⟨f1,f2⟩:=(M.o.nth 2 rfl).two;exact bodyPost_ret (v:=.agg #[.float .f64 xml,.float .f64 xmh]) (by simp [results,Tryz.results227,go_sem,f1,f2]) rfl ⟨rfl,M.o.put⟩
theorem gdist_walk {al ah il ih ol oh xal xah xbl xbh xcl xch xdl xdh xel xeh:Nat} {er0 er1 er3 er4 er5 er6:Int} {pb:Nat} (w:World) (hC:Hid (Has1 w (pb,#[.int .i64 er0,al,ah,il,ih,ol,oh])))
  (d1:Hid (∀ v:World,Has1 v (pb,#[.int .i64 er0,al,ah,il,ih,ol,oh])→Calls Tryz.prog 225 #[.pointer (some ⟨pb,0,none⟩)] v fun r w'=>r = .returned (.agg #[xal,xah])∧Put ⟨pb,0,none⟩ (.int .i64 er1) v w'))
  (c2:CH 162 #[] (.agg #[(4614256656552045848:Nat),(4614256656552045849:Nat)]))
  (d3:Hid (∀ v:World,Has1 v (pb,#[.int .i64 er1,al,ah,il,ih,ol,oh])→Calls Tryz.prog 226 #[.pointer (some ⟨pb,0,none⟩)] v fun r w'=>r = .returned (.agg #[xbl,xbh])∧Put ⟨pb,0,none⟩ (.int .i64 er3) v w'))
  (d4:Hid (∀ v:World,v.cell? ⟨pb,0,none⟩=some (.int .i64 er3)→v.frozen? ⟨pb,0,none⟩=false→Calls Tryz.prog 104 #[.pointer (some ⟨pb,0,none⟩),.agg #[xbl,xbh]] v fun r w'=>r = .returned (.agg #[xcl,xch])∧Put ⟨pb,0,none⟩ (.int .i64 er4) v w'))
  (d5:Hid (∀ v:World,v.cell? ⟨pb,0,none⟩=some (.int .i64 er4)→v.frozen? ⟨pb,0,none⟩=false→Calls Tryz.prog 32 #[.pointer (some ⟨pb,0,none⟩),.agg #[(4614256656552045848:Nat),(4614256656552045849:Nat)],.agg #[xcl,xch]] v fun r w'=>r = .returned (.agg #[xdl,xdh])∧Put ⟨pb,0,none⟩ (.int .i64 er5) v w'))
  (d6:Hid (∀ v:World,v.cell? ⟨pb,0,none⟩=some (.int .i64 er5)→v.frozen? ⟨pb,0,none⟩=false→Calls Tryz.prog 60 #[.pointer (some ⟨pb,0,none⟩),.agg #[xal,xah],.agg #[xdl,xdh]] v fun r w'=>r = .returned (.agg #[xel,xeh])∧Put ⟨pb,0,none⟩ (.int .i64 er6) v w')) :
  Calls Tryz.prog 219 #[.pointer (some ⟨pb,0,none⟩)] w fun r w'=>r = .returned (.agg #[xel,xeh])∧Put ⟨pb,0,none⟩ (.int .i64 er6) w w':=by
 have M0:=Own.srf (x:=.int .i64 er0) hC.out rfl;have M:=Hd (M0.made #[(),()] 31);clear M0;have eqF:=eq_floats;go_enter Tryz.func219,Tryz.ntmps219;go_upto_region 1 with fail;replace M:=Hd M.o.drew;revert M;generalize (w.alloc (.cells #[(),()] 31))=W0_;intro M;refine wp_region_noPanic ?_;refine tails_region (S:=fun w'=>True) [] (by kernel_rfl) ?_ (fun hS=>?_)
 ·exact trivial
 refine tq 0 hS ?_;refine tq 1 hS ?_;refine tq 2 hS ?_;refine tq 3 hS ?_;refine tq 5 hS ?_;refine tq 6 hS ?_;refine tq 7 hS ?_;refine tq 9 hS ?_;refine tq 10 hS ?_;refine tq 11 hS ?_;refine tq 12 hS ?_
 conv=>arg 9; simp only [Act.put,go_sem]
 refine tn [] 4 fun K hK=>?_
 go_simp;refine (d1.out _ (hC.out.at M.out)).mono ?_;rintro rr w1_ ⟨rfl,hb⟩;replace M:=Hd (M.o.resrf hC.out.1 hb);clear hb
 try go_wp2_with fail
 refine hK.out _ _ (Or.inr trivial) (fun hHeld=>?_);clear hK K hHeld
 refine tn [] 8 fun K hK=>?_
 go_simp;refine (c2.out _).mono ?_;rintro rr w2_ ⟨rfl,hb⟩;replace M:=Hd (M.o.below hb);clear hb
 try go_wp2_with fail
 refine hK.out _ _ (Or.inr trivial) (fun hHeld=>?_);clear hK K hHeld
 refine tn [] 13 fun K hK=>?_
 go_simp;refine (d3.out _ (hC.out.at M.out)).mono ?_;rintro rr w3_ ⟨rfl,hb⟩;replace M:=Hd (M.o.resrf hC.out.1 hb);clear hb
 try go_wp2_with fail
 refine hK.out _ _ (Or.inr trivial) (fun hHeld=>?_);clear hK K hHeld
 refine tn [] 14 fun K hK=>?_
 go_simp;refine (d4.out _ (hC.out.at M.out).c0 (hC.out.at M.out).pf).mono ?_;rintro rr w4_ ⟨rfl,hb⟩;replace M:=Hd (M.o.resrf hC.out.1 hb);clear hb
 try go_wp2_with fail
 refine hK.out _ _ (Or.inr trivial) (fun hHeld=>?_);clear hK K hHeld
 refine tn [] 15 fun K hK=>?_
 go_simp;refine (d5.out _ (hC.out.at M.out).c0 (hC.out.at M.out).pf).mono ?_;rintro rr w5_ ⟨rfl,hb⟩;replace M:=Hd (M.o.resrf hC.out.1 hb);clear hb
 try go_wp2_with fail
 refine hK.out _ _ (Or.inr trivial) (fun hHeld=>?_);clear hK K hHeld
 refine tn [] 16 fun K hK=>?_
 go_simp;refine (d6.out _ (hC.out.at M.out).c0 (hC.out.at M.out).pf).mono ?_;rintro rr w6_ ⟨rfl,hb⟩;replace M:=Hd (M.o.resrf hC.out.1 hb);clear hb
 try go_wp2_with fail
 refine hK.out _ _ (Or.inr trivial) (fun hHeld=>?_);clear hK K hHeld
 refine tn [] 17 fun K hK=>?_
 have kc:=(M.o.nth 0 rfl).2.1;have kf:=(M.o.nth 0 rfl).2.2;replace M:=Hd (M.o.set2 0 rfl xel xeh);dsimp only [List.set] at M;go_simp;refine hK.out _ _ (Or.inr trivial) (fun hHeld=>?_);clear hK K hHeld kc kf;refine tails_done (by kernel_rfl) ?_ _;refine NoPanic.normal ?_;clear hS;revert M;generalize ((w6_.setCell ⟨w.heap.size,0,none⟩ (xel:Value)).setCell ⟨w.heap.size,1,none⟩ (xeh:Value))=W7_;intro M;go_wp2;obtain⟨f1,f2⟩:=(M.o.nth 0 rfl).two;exact bodyPost_ret (v:=.agg #[.float .f64 xel,.float .f64 xeh]) (by simp [results,Tryz.results219,go_sem,f1,f2]) rfl ⟨rfl,M.o.put⟩
theorem gvisible_walk {al ah il ih ol oh xal xah xbl xbh xcl xch xdl xdh xel xeh:Nat} {er0 er1 er2 er3 er4 er5:Int} {pb:Nat} (w:World) (hC:Hid (Has1 w (pb,#[.int .i64 er0,al,ah,il,ih,ol,oh])))
  (d1:Hid (∀ v:World,v.cell? ⟨pb,0,none⟩=some (.int .i64 er0)→v.frozen? ⟨pb,0,none⟩=false→Calls Tryz.prog 35 #[.pointer (some ⟨pb,0,none⟩),(4607182418800017408:Nat)] v fun r w'=>r = .returned (.agg #[xal,xah])∧Put ⟨pb,0,none⟩ (.int .i64 er1) v w'))
  (d2:Hid (∀ v:World,v.cell? ⟨pb,0,none⟩=some (.int .i64 er1)→v.frozen? ⟨pb,0,none⟩=false→Calls Tryz.prog 35 #[.pointer (some ⟨pb,0,none⟩),(4607182418800017408:Nat)] v fun r w'=>r = .returned (.agg #[xbl,xbh])∧Put ⟨pb,0,none⟩ (.int .i64 er2) v w'))
  (d3:Hid (∀ v:World,Has1 v (pb,#[.int .i64 er2,al,ah,il,ih,ol,oh])→Calls Tryz.prog 227 #[.pointer (some ⟨pb,0,none⟩),.agg #[ol,oh]] v fun r w'=>r = .returned (.agg #[xcl,xch])∧Put ⟨pb,0,none⟩ (.int .i64 er3) v w'))
  (d4:Hid (∀ v:World,v.cell? ⟨pb,0,none⟩=some (.int .i64 er3)→v.frozen? ⟨pb,0,none⟩=false→Calls Tryz.prog 103 #[.pointer (some ⟨pb,0,none⟩),.agg #[xbl,xbh],.agg #[xcl,xch]] v fun r w'=>r = .returned (.agg #[xdl,xdh])∧Put ⟨pb,0,none⟩ (.int .i64 er4) v w'))
  (d5:Hid (∀ v:World,v.cell? ⟨pb,0,none⟩=some (.int .i64 er4)→v.frozen? ⟨pb,0,none⟩=false→Calls Tryz.prog 60 #[.pointer (some ⟨pb,0,none⟩),.agg #[xal,xah],.agg #[xdl,xdh]] v fun r w'=>r = .returned (.agg #[xel,xeh])∧Put ⟨pb,0,none⟩ (.int .i64 er5) v w')) :
  Calls Tryz.prog 221 #[.pointer (some ⟨pb,0,none⟩)] w fun r w'=>r = .returned (.agg #[xel,xeh])∧Put ⟨pb,0,none⟩ (.int .i64 er5) w w':=by
 have M0:=Own.srf (x:=.int .i64 er0) hC.out rfl;have M:=Hd (M0.made #[(),()] 31);clear M0;have eqF:=eq_floats;go_enter Tryz.func221,Tryz.ntmps221;go_upto_region 1 with fail;replace M:=Hd M.o.drew;revert M;generalize (w.alloc (.cells #[(),()] 31))=W0_;intro M;refine wp_region_noPanic ?_;refine tails_region (S:=fun w'=>(Cf w' pb 1 al∧Cf w' pb 2 ah∧Cf w' pb 3 il∧Cf w' pb 4 ih∧Cf w' pb 5 ol∧Cf w' pb 6 oh)) [] (by kernel_rfl) ?_ (fun hS=>?_)
 ·exact (hC.out.at M.out).but0
 refine tq 0 hS ?_;refine tq 1 hS ?_;refine tq 2 hS ?_;refine tq 3 hS ?_;refine tq 4 hS ?_;refine tq 5 hS ?_;refine tq 7 hS ?_;refine tq 8 hS ?_;refine tq 9 hS ?_;refine tq 10 hS ?_;refine tq 11 hS ?_;refine tq 12 hS ?_;refine tq 14 hS ?_;refine tq 15 hS ?_;refine tq 16 hS ?_;refine tq 17 hS ?_;refine tq 18 hS ?_
 conv=>arg 9; simp only [Act.put,go_sem]
 refine tn [] 6 fun K hK=>?_
 go_simp;refine (d1.out _ (hC.out.at M.out).c0 (hC.out.at M.out).pf).mono ?_;rintro rr w1_ ⟨rfl,hb⟩;replace M:=Hd (M.o.resrf hC.out.1 hb);clear hb
 try go_wp2_with fail
 refine hK.out _ _ (Or.inr (hC.out.at M.out).but0) (fun hHeld=>?_);clear hK K hHeld;replace hS:=(hC.out.at M.out).but0
 refine tn [] 13 fun K hK=>?_
 go_simp;refine (d2.out _ (hC.out.at M.out).c0 (hC.out.at M.out).pf).mono ?_;rintro rr w2_ ⟨rfl,hb⟩;replace M:=Hd (M.o.resrf hC.out.1 hb);clear hb
 try go_wp2_with fail
 refine hK.out _ _ (Or.inr (hC.out.at M.out).but0) (fun hHeld=>?_);clear hK K hHeld;replace hS:=(hC.out.at M.out).but0
 refine tn [] 19 fun K hK=>?_
 go_simp;refine (d3.out _ (hC.out.at M.out)).mono ?_;rintro rr w3_ ⟨rfl,hb⟩;replace M:=Hd (M.o.resrf hC.out.1 hb);clear hb
 try go_wp2_with fail
 refine hK.out _ _ (Or.inr (hC.out.at M.out).but0) (fun hHeld=>?_);clear hK K hHeld;replace hS:=(hC.out.at M.out).but0
 refine tn [] 20 fun K hK=>?_
 go_simp;refine (d4.out _ (hC.out.at M.out).c0 (hC.out.at M.out).pf).mono ?_;rintro rr w4_ ⟨rfl,hb⟩;replace M:=Hd (M.o.resrf hC.out.1 hb);clear hb
 try go_wp2_with fail
 refine hK.out _ _ (Or.inr (hC.out.at M.out).but0) (fun hHeld=>?_);clear hK K hHeld;replace hS:=(hC.out.at M.out).but0
 refine tn [] 21 fun K hK=>?_
 go_simp;refine (d5.out _ (hC.out.at M.out).c0 (hC.out.at M.out).pf).mono ?_;rintro rr w5_ ⟨rfl,hb⟩;replace M:=Hd (M.o.resrf hC.out.1 hb);clear hb
 try go_wp2_with fail
 refine hK.out _ _ (Or.inr (hC.out.at M.out).but0) (fun hHeld=>?_);clear hK K hHeld;replace hS:=(hC.out.at M.out).but0
 refine tn [] 22 fun K hK=>?_
 have kc:=(M.o.nth 0 rfl).2.1;have kf:=(M.o.nth 0 rfl).2.2;replace M:=Hd (M.o.set2 0 rfl xel xeh);dsimp only [List.set] at M;go_simp;refine hK.out _ _ (Or.inr (hC.out.at M.out).but0) (fun hHeld=>?_);clear hK K hHeld kc kf;refine tails_done (by kernel_rfl) ?_ _;refine NoPanic.normal ?_;clear hS;revert M;generalize ((w5_.setCell ⟨w.heap.size,0,none⟩ (xel:Value)).setCell ⟨w.heap.size,1,none⟩ (xeh:Value))=W6_;intro M;go_wp2;obtain⟨f1,f2⟩:=(M.o.nth 0 rfl).two;exact bodyPost_ret (v:=.agg #[.float .f64 xel,.float .f64 xeh]) (by simp [results,Tryz.results221,go_sem,f1,f2]) rfl ⟨rfl,M.o.put⟩
theorem gtwo_walk {al ah il ih ol oh xal xah xbl xbh xcl xch xdl xdh xel xeh xfl xfh xgl xgh:Nat} {er0 er1 er2 er3 er4 er5 er6 er7:Int} {pb:Nat} (w:World) (hC:Hid (Has1 w (pb,#[.int .i64 er0,al,ah,il,ih,ol,oh])))
  (d1:Hid (∀ v:World,v.cell? ⟨pb,0,none⟩=some (.int .i64 er0)→v.frozen? ⟨pb,0,none⟩=false→Calls Tryz.prog 35 #[.pointer (some ⟨pb,0,none⟩),(4607182418800017408:Nat)] v fun r w'=>r = .returned (.agg #[xal,xah])∧Put ⟨pb,0,none⟩ (.int .i64 er1) v w'))
  (d2:Hid (∀ v:World,v.cell? ⟨pb,0,none⟩=some (.int .i64 er1)→v.frozen? ⟨pb,0,none⟩=false→Calls Tryz.prog 35 #[.pointer (some ⟨pb,0,none⟩),(4607182418800017408:Nat)] v fun r w'=>r = .returned (.agg #[xbl,xbh])∧Put ⟨pb,0,none⟩ (.int .i64 er2) v w'))
  (d3:Hid (∀ v:World,Has1 v (pb,#[.int .i64 er2,al,ah,il,ih,ol,oh])→Calls Tryz.prog 227 #[.pointer (some ⟨pb,0,none⟩),.agg #[il,ih]] v fun r w'=>r = .returned (.agg #[xcl,xch])∧Put ⟨pb,0,none⟩ (.int .i64 er3) v w'))
  (d4:Hid (∀ v:World,v.cell? ⟨pb,0,none⟩=some (.int .i64 er3)→v.frozen? ⟨pb,0,none⟩=false→Calls Tryz.prog 103 #[.pointer (some ⟨pb,0,none⟩),.agg #[xbl,xbh],.agg #[xcl,xch]] v fun r w'=>r = .returned (.agg #[xdl,xdh])∧Put ⟨pb,0,none⟩ (.int .i64 er4) v w'))
  (d5:Hid (∀ v:World,Has1 v (pb,#[.int .i64 er4,al,ah,il,ih,ol,oh])→Calls Tryz.prog 227 #[.pointer (some ⟨pb,0,none⟩),.agg #[ol,oh]] v fun r w'=>r = .returned (.agg #[xel,xeh])∧Put ⟨pb,0,none⟩ (.int .i64 er5) v w'))
  (d6:Hid (∀ v:World,v.cell? ⟨pb,0,none⟩=some (.int .i64 er5)→v.frozen? ⟨pb,0,none⟩=false→Calls Tryz.prog 103 #[.pointer (some ⟨pb,0,none⟩),.agg #[xdl,xdh],.agg #[xel,xeh]] v fun r w'=>r = .returned (.agg #[xfl,xfh])∧Put ⟨pb,0,none⟩ (.int .i64 er6) v w'))
  (d7:Hid (∀ v:World,v.cell? ⟨pb,0,none⟩=some (.int .i64 er6)→v.frozen? ⟨pb,0,none⟩=false→Calls Tryz.prog 60 #[.pointer (some ⟨pb,0,none⟩),.agg #[xal,xah],.agg #[xfl,xfh]] v fun r w'=>r = .returned (.agg #[xgl,xgh])∧Put ⟨pb,0,none⟩ (.int .i64 er7) v w')) :
  Calls Tryz.prog 220 #[.pointer (some ⟨pb,0,none⟩)] w fun r w'=>r = .returned (.agg #[xgl,xgh])∧Put ⟨pb,0,none⟩ (.int .i64 er7) w w':=by
 have M0:=Own.srf (x:=.int .i64 er0) hC.out rfl;have M:=Hd (M0.made #[(),()] 31);clear M0;have eqF:=eq_floats;go_enter Tryz.func220,Tryz.ntmps220;go_upto_region 1 with fail;replace M:=Hd M.o.drew;revert M;generalize (w.alloc (.cells #[(),()] 31))=W0_;intro M;refine wp_region_noPanic ?_;refine tails_region (S:=fun w'=>(Cf w' pb 1 al∧Cf w' pb 2 ah∧Cf w' pb 3 il∧Cf w' pb 4 ih∧Cf w' pb 5 ol∧Cf w' pb 6 oh)) [] (by kernel_rfl) ?_ (fun hS=>?_)
 ·exact (hC.out.at M.out).but0
 refine tq 0 hS ?_;refine tq 1 hS ?_;refine tq 2 hS ?_;refine tq 3 hS ?_;refine tq 4 hS ?_;refine tq 5 hS ?_;refine tq 7 hS ?_;refine tq 8 hS ?_;refine tq 9 hS ?_;refine tq 10 hS ?_;refine tq 11 hS ?_;refine tq 12 hS ?_;refine tq 13 hS ?_;refine tq 14 hS ?_;refine tq 15 hS ?_;refine tq 17 hS ?_;refine tq 18 hS ?_;refine tq 19 hS ?_;refine tq 20 hS ?_;refine tq 21 hS ?_;refine tq 24 hS ?_;refine tq 25 hS ?_;refine tq 26 hS ?_;refine tq 27 hS ?_;refine tq 28 hS ?_
 conv=>arg 9; simp only [Act.put,go_sem]
 refine tn [] 6 fun K hK=>?_
 go_simp;refine (d1.out _ (hC.out.at M.out).c0 (hC.out.at M.out).pf).mono ?_;rintro rr w1_ ⟨rfl,hb⟩;replace M:=Hd (M.o.resrf hC.out.1 hb);clear hb
 try go_wp2_with fail
 refine hK.out _ _ (Or.inr (hC.out.at M.out).but0) (fun hHeld=>?_);clear hK K hHeld;replace hS:=(hC.out.at M.out).but0
 refine tn [] 16 fun K hK=>?_
 go_simp;refine (d2.out _ (hC.out.at M.out).c0 (hC.out.at M.out).pf).mono ?_;rintro rr w2_ ⟨rfl,hb⟩;replace M:=Hd (M.o.resrf hC.out.1 hb);clear hb
 try go_wp2_with fail
 refine hK.out _ _ (Or.inr (hC.out.at M.out).but0) (fun hHeld=>?_);clear hK K hHeld;replace hS:=(hC.out.at M.out).but0
 refine tn [] 22 fun K hK=>?_
 go_simp;refine (d3.out _ (hC.out.at M.out)).mono ?_;rintro rr w3_ ⟨rfl,hb⟩;replace M:=Hd (M.o.resrf hC.out.1 hb);clear hb
 try go_wp2_with fail
 refine hK.out _ _ (Or.inr (hC.out.at M.out).but0) (fun hHeld=>?_);clear hK K hHeld;replace hS:=(hC.out.at M.out).but0
 refine tn [] 23 fun K hK=>?_
 go_simp;refine (d4.out _ (hC.out.at M.out).c0 (hC.out.at M.out).pf).mono ?_;rintro rr w4_ ⟨rfl,hb⟩;replace M:=Hd (M.o.resrf hC.out.1 hb);clear hb
 try go_wp2_with fail
 refine hK.out _ _ (Or.inr (hC.out.at M.out).but0) (fun hHeld=>?_);clear hK K hHeld;replace hS:=(hC.out.at M.out).but0
 refine tn [] 29 fun K hK=>?_
 go_simp;refine (d5.out _ (hC.out.at M.out)).mono ?_;rintro rr w5_ ⟨rfl,hb⟩;replace M:=Hd (M.o.resrf hC.out.1 hb);clear hb
 try go_wp2_with fail
 refine hK.out _ _ (Or.inr (hC.out.at M.out).but0) (fun hHeld=>?_);clear hK K hHeld;replace hS:=(hC.out.at M.out).but0
 refine tn [] 30 fun K hK=>?_
 go_simp;refine (d6.out _ (hC.out.at M.out).c0 (hC.out.at M.out).pf).mono ?_;rintro rr w6_ ⟨rfl,hb⟩;replace M:=Hd (M.o.resrf hC.out.1 hb);clear hb
 try go_wp2_with fail
 refine hK.out _ _ (Or.inr (hC.out.at M.out).but0) (fun hHeld=>?_);clear hK K hHeld;replace hS:=(hC.out.at M.out).but0
 refine tn [] 31 fun K hK=>?_
 go_simp;refine (d7.out _ (hC.out.at M.out).c0 (hC.out.at M.out).pf).mono ?_;rintro rr w7_ ⟨rfl,hb⟩;replace M:=Hd (M.o.resrf hC.out.1 hb);clear hb
 try go_wp2_with fail
 refine hK.out _ _ (Or.inr (hC.out.at M.out).but0) (fun hHeld=>?_);clear hK K hHeld;replace hS:=(hC.out.at M.out).but0
 refine tn [] 32 fun K hK=>?_
 have kc:=(M.o.nth 0 rfl).2.1;have kf:=(M.o.nth 0 rfl).2.2;replace M:=Hd (M.o.set2 0 rfl xgl xgh);dsimp only [List.set] at M;go_simp;refine hK.out _ _ (Or.inr (hC.out.at M.out).but0) (fun hHeld=>?_);clear hK K hHeld kc kf;refine tails_done (by kernel_rfl) ?_ _;refine NoPanic.normal ?_;clear hS;revert M;generalize ((w7_.setCell ⟨w.heap.size,0,none⟩ (xgl:Value)).setCell ⟨w.heap.size,1,none⟩ (xgh:Value))=W8_;intro M;go_wp2;obtain⟨f1,f2⟩:=(M.o.nth 0 rfl).two;exact bodyPost_ret (v:=.agg #[.float .f64 xgl,.float .f64 xgh]) (by simp [results,Tryz.results220,go_sem,f1,f2]) rfl ⟨rfl,M.o.put⟩
theorem ganswer_distribution {al ah il ih ol oh rl rh:Nat} {er1:Int} {pb:Nat} (w:World) (hC:Hid (Has1 w (pb,#[true,al,ah,il,ih,ol,oh])))
  (cK:Hid (∀ v:World,Has1 v (pb,#[true,al,ah,il,ih,ol,oh])→Calls Tryz.prog 224 #[.pointer (some ⟨pb,0,none⟩)] v (Rt (.int .i64 0) v)))
  (d2:Hid (∀ v:World,Has1 v (pb,#[true,al,ah,il,ih,ol,oh])→Calls Tryz.prog 219 #[.pointer (some ⟨pb,0,none⟩)] v fun r w'=>r = .returned (.agg #[rl,rh])∧Put ⟨pb,0,none⟩ (.int .i64 er1) v w')) :
  Calls Tryz.prog 218 #[.pointer (some ⟨pb,0,none⟩),.func (.func 219) #[.pointer (some ⟨pb,0,none⟩)] #[]] w fun r w'=>r = .returned (.tuple #[.agg #[rl,rh],.int .i64 er1])∧Put ⟨pb,0,none⟩ (.int .i64 er1) w w':=by
 have M0:=Own.srf (x:=.int .i64 0) hC.out rfl;have M:=Hd (M0.made #[(),()] 31);clear M0;have eqF:=eq_floats;go_enter Tryz.func218,Tryz.ntmps218;go_wp2_with fail;refine (cK.out _ (hC.out.at M.out)).mono ?_;rintro r w1_ ⟨rfl,hb⟩;replace M:=Hd (M.o.below hb);clear hb;go_upto_region 4 with fail;replace M:=Hd M.o.drew;refine wp_region_noPanic ?_;refine tails_region (S:=fun w'=>True) [] (by kernel_rfl) ?_ (fun hS=>?_)
 ·exact trivial
 refine tq 0 hS ?_;refine tq 2 hS ?_;refine tq 3 hS ?_;refine tq 4 hS ?_
 conv=>arg 9; simp only [Act.put,go_sem]
 refine tn [] 1 fun K hK=>?_
 go_simp;refine (d2.out _ (hC.out.at M.out)).mono ?_;rintro rr w2_ ⟨rfl,hb⟩;replace M:=Hd (M.o.resrf hC.out.1 hb);clear hb
 try go_wp2_with fail
 refine hK.out _ _ (Or.inr trivial) (fun hHeld=>?_);clear hK K hHeld
 refine tn [] 5 fun K hK=>?_
 go_simp;refine (err_any er1 _ 0 _ (hC.out.at M.out).c0).mono ?_;rintro rr w3_ ⟨rfl,rfl⟩
 try go_wp2_with fail
 refine hK.out _ _ (Or.inr trivial) (fun hHeld=>?_);clear hK K hHeld
 refine tn [] 6 fun K hK=>?_
 have kc:=(M.o.nth 0 rfl).2.1;have kf:=(M.o.nth 0 rfl).2.2;replace M:=Hd (M.o.set2 0 rfl rl rh);dsimp only [List.set] at M;go_simp;refine hK.out _ _ (Or.inr trivial) (fun hHeld=>?_);clear hK K hHeld kc kf
 refine tn [] 7 fun K hK=>?_
 go_simp;refine hK.out _ _ (Or.inr trivial) (fun hHeld=>?_);clear hK K hHeld;refine tails_done (by kernel_rfl) ?_ _;refine NoPanic.normal ?_;clear hS;revert M;generalize ((w2_.setCell ⟨w.heap.size,0,none⟩ (rl:Value)).setCell ⟨w.heap.size,1,none⟩ (rh:Value))=W4_;intro M;go_wp2;obtain⟨f1,f2⟩:=(M.o.nth 0 rfl).two;exact bodyPost_ret (v:=.tuple #[.agg #[.float .f64 rl,.float .f64 rh],.int .i64 er1]) (by simp [results,Tryz.results218,go_sem,f1,f2]) rfl ⟨rfl,M.o.put⟩
theorem gD_walk {al ah ol oh rl rh:Nat} {er1:Int} (w:World)
  (c1:Hid (∀ (q:Nat) (v:World),Has1 v (q,#[true,al,ah,(),(),ol,oh])→Calls Tryz.prog 218 #[.pointer (some ⟨q,0,none⟩),.func (.func 219) #[.pointer (some ⟨q,0,none⟩)] #[]] v fun r w'=>r = .returned (.tuple #[.agg #[rl,rh],.int .i64 er1])∧Put ⟨q,0,none⟩ (.int .i64 er1) v w')) :
  Calls Tryz.prog 206 #[.agg #[ol,oh],.agg #[al,ah]] w (Rt (.tuple #[.agg #[rl,rh],.int .i64 er1]) w):=by
 have M:=Hd ((((Own.nil w).made #[ol,oh] 31).made #[al,ah] 31).made #[(),()] 31);simp only [World.size_alloc] at M;have eqF:=eq_floats;go_enter Tryz.func206,Tryz.ntmps206;obtain⟨k1,k2⟩:=(M.o.nth 1 rfl).two;obtain⟨k3,k4⟩:=(M.o.nth 2 rfl).two;replace M:=Hd (M.o.made #[true,al,ah,(),(),ol,oh] 210);simp only [World.size_alloc] at M;obtain⟨k5,k6⟩:=(M.o.nth 2 rfl).two;obtain⟨k7,k8⟩:=(M.o.nth 3 rfl).two;go_wp2_with fail;refine (c1.out _ _ (M.o.nth 0 rfl)).mono ?_;rintro r w1_ ⟨rfl,hb⟩;replace M:Hid (Own w [((w.heap.size+1+1+1),#[.int .i64 er1,al,ah,(),(),ol,oh]),((w.heap.size+1+1),#[(),()]),((w.heap.size+1),#[al,ah]),(w.heap.size,#[ol,oh])] w1_):=Hd ((M.o.putIn 0 rfl hb).to (by rfl));clear hb;clear k1 k2 k3 k4 k5 k6 k7 k8;have kc:=(M.o.nth 1 rfl).2.1;have kf:=(M.o.nth 1 rfl).2.2;replace M:=Hd (M.o.set2 1 rfl rl rh);dsimp only [List.set] at M;go_wp2;obtain⟨f1,f2⟩:=(M.o.nth 1 rfl).two;exact bodyPost_ret (v:=.tuple #[.agg #[.float .f64 rl,.float .f64 rh],.int .i64 er1]) (by simp [results,Tryz.results206,go_sem,f1,f2]) rfl ⟨rfl,M.o.base⟩
theorem ganswer_visible {al ah il ih ol oh rl rh:Nat} {er1:Int} {pb:Nat} (w:World) (hC:Hid (Has1 w (pb,#[true,al,ah,il,ih,ol,oh])))
  (cK:Hid (∀ v:World,Has1 v (pb,#[true,al,ah,il,ih,ol,oh])→Calls Tryz.prog 224 #[.pointer (some ⟨pb,0,none⟩)] v (Rt (.int .i64 0) v)))
  (d2:Hid (∀ v:World,Has1 v (pb,#[true,al,ah,il,ih,ol,oh])→Calls Tryz.prog 221 #[.pointer (some ⟨pb,0,none⟩)] v fun r w'=>r = .returned (.agg #[rl,rh])∧Put ⟨pb,0,none⟩ (.int .i64 er1) v w')) :
  Calls Tryz.prog 218 #[.pointer (some ⟨pb,0,none⟩),.func (.func 221) #[.pointer (some ⟨pb,0,none⟩)] #[]] w fun r w'=>r = .returned (.tuple #[.agg #[rl,rh],.int .i64 er1])∧Put ⟨pb,0,none⟩ (.int .i64 er1) w w':=by
 have M0:=Own.srf (x:=.int .i64 0) hC.out rfl;have M:=Hd (M0.made #[(),()] 31);clear M0;have eqF:=eq_floats;go_enter Tryz.func218,Tryz.ntmps218;go_wp2_with fail;refine (cK.out _ (hC.out.at M.out)).mono ?_;rintro r w1_ ⟨rfl,hb⟩;replace M:=Hd (M.o.below hb);clear hb;go_upto_region 4 with fail;replace M:=Hd M.o.drew;refine wp_region_noPanic ?_;refine tails_region (S:=fun w'=>True) [] (by kernel_rfl) ?_ (fun hS=>?_)
 ·exact trivial
 refine tq 0 hS ?_;refine tq 2 hS ?_;refine tq 3 hS ?_;refine tq 4 hS ?_
 conv=>arg 9; simp only [Act.put,go_sem]
 refine tn [] 1 fun K hK=>?_
 go_simp;refine (d2.out _ (hC.out.at M.out)).mono ?_;rintro rr w2_ ⟨rfl,hb⟩;replace M:=Hd (M.o.resrf hC.out.1 hb);clear hb
 try go_wp2_with fail
 refine hK.out _ _ (Or.inr trivial) (fun hHeld=>?_);clear hK K hHeld
 refine tn [] 5 fun K hK=>?_
 go_simp;refine (err_any er1 _ 0 _ (hC.out.at M.out).c0).mono ?_;rintro rr w3_ ⟨rfl,rfl⟩
 try go_wp2_with fail
 refine hK.out _ _ (Or.inr trivial) (fun hHeld=>?_);clear hK K hHeld
 refine tn [] 6 fun K hK=>?_
 have kc:=(M.o.nth 0 rfl).2.1;have kf:=(M.o.nth 0 rfl).2.2;replace M:=Hd (M.o.set2 0 rfl rl rh);dsimp only [List.set] at M;go_simp;refine hK.out _ _ (Or.inr trivial) (fun hHeld=>?_);clear hK K hHeld kc kf
 refine tn [] 7 fun K hK=>?_
 go_simp;refine hK.out _ _ (Or.inr trivial) (fun hHeld=>?_);clear hK K hHeld;refine tails_done (by kernel_rfl) ?_ _;refine NoPanic.normal ?_;clear hS;revert M;generalize ((w2_.setCell ⟨w.heap.size,0,none⟩ (rl:Value)).setCell ⟨w.heap.size,1,none⟩ (rh:Value))=W4_;intro M;go_wp2;obtain⟨f1,f2⟩:=(M.o.nth 0 rfl).two;exact bodyPost_ret (v:=.tuple #[.agg #[.float .f64 rl,.float .f64 rh],.int .i64 er1]) (by simp [results,Tryz.results218,go_sem,f1,f2]) rfl ⟨rfl,M.o.put⟩
theorem gG1_walk {al ah ol oh rl rh:Nat} {er1:Int} (w:World)
  (c1:Hid (∀ (q:Nat) (v:World),Has1 v (q,#[true,al,ah,(),(),ol,oh])→Calls Tryz.prog 218 #[.pointer (some ⟨q,0,none⟩),.func (.func 221) #[.pointer (some ⟨q,0,none⟩)] #[]] v fun r w'=>r = .returned (.tuple #[.agg #[rl,rh],.int .i64 er1])∧Put ⟨q,0,none⟩ (.int .i64 er1) v w')) :
  Calls Tryz.prog 208 #[.agg #[ol,oh],.agg #[al,ah]] w (Rt (.tuple #[.agg #[rl,rh],.int .i64 er1]) w):=by
 have M:=Hd ((((Own.nil w).made #[ol,oh] 31).made #[al,ah] 31).made #[(),()] 31);simp only [World.size_alloc] at M;have eqF:=eq_floats;go_enter Tryz.func208,Tryz.ntmps208;obtain⟨k1,k2⟩:=(M.o.nth 1 rfl).two;obtain⟨k3,k4⟩:=(M.o.nth 2 rfl).two;replace M:=Hd (M.o.made #[true,al,ah,(),(),ol,oh] 210);simp only [World.size_alloc] at M;obtain⟨k5,k6⟩:=(M.o.nth 2 rfl).two;obtain⟨k7,k8⟩:=(M.o.nth 3 rfl).two;go_wp2_with fail;refine (c1.out _ _ (M.o.nth 0 rfl)).mono ?_;rintro r w1_ ⟨rfl,hb⟩;replace M:Hid (Own w [((w.heap.size+1+1+1),#[.int .i64 er1,al,ah,(),(),ol,oh]),((w.heap.size+1+1),#[(),()]),((w.heap.size+1),#[al,ah]),(w.heap.size,#[ol,oh])] w1_):=Hd ((M.o.putIn 0 rfl hb).to (by rfl));clear hb;clear k1 k2 k3 k4 k5 k6 k7 k8;have kc:=(M.o.nth 1 rfl).2.1;have kf:=(M.o.nth 1 rfl).2.2;replace M:=Hd (M.o.set2 1 rfl rl rh);dsimp only [List.set] at M;go_wp2;obtain⟨f1,f2⟩:=(M.o.nth 1 rfl).two;exact bodyPost_ret (v:=.tuple #[.agg #[.float .f64 rl,.float .f64 rh],.int .i64 er1]) (by simp [results,Tryz.results208,go_sem,f1,f2]) rfl ⟨rfl,M.o.base⟩
theorem ganswer_visibleForTwo {al ah il ih ol oh rl rh:Nat} {er1:Int} {pb:Nat} (w:World) (hC:Hid (Has1 w (pb,#[true,al,ah,il,ih,ol,oh])))
  (cK:Hid (∀ v:World,Has1 v (pb,#[true,al,ah,il,ih,ol,oh])→Calls Tryz.prog 224 #[.pointer (some ⟨pb,0,none⟩)] v (Rt (.int .i64 0) v)))
  (d2:Hid (∀ v:World,Has1 v (pb,#[true,al,ah,il,ih,ol,oh])→Calls Tryz.prog 220 #[.pointer (some ⟨pb,0,none⟩)] v fun r w'=>r = .returned (.agg #[rl,rh])∧Put ⟨pb,0,none⟩ (.int .i64 er1) v w')) :
  Calls Tryz.prog 218 #[.pointer (some ⟨pb,0,none⟩),.func (.func 220) #[.pointer (some ⟨pb,0,none⟩)] #[]] w fun r w'=>r = .returned (.tuple #[.agg #[rl,rh],.int .i64 er1])∧Put ⟨pb,0,none⟩ (.int .i64 er1) w w':=by
 have M0:=Own.srf (x:=.int .i64 0) hC.out rfl;have M:=Hd (M0.made #[(),()] 31);clear M0;have eqF:=eq_floats;go_enter Tryz.func218,Tryz.ntmps218;go_wp2_with fail;refine (cK.out _ (hC.out.at M.out)).mono ?_;rintro r w1_ ⟨rfl,hb⟩;replace M:=Hd (M.o.below hb);clear hb;go_upto_region 4 with fail;replace M:=Hd M.o.drew;refine wp_region_noPanic ?_;refine tails_region (S:=fun w'=>True) [] (by kernel_rfl) ?_ (fun hS=>?_)
 ·exact trivial
 refine tq 0 hS ?_;refine tq 2 hS ?_;refine tq 3 hS ?_;refine tq 4 hS ?_
 conv=>arg 9; simp only [Act.put,go_sem]
 refine tn [] 1 fun K hK=>?_
 go_simp;refine (d2.out _ (hC.out.at M.out)).mono ?_;rintro rr w2_ ⟨rfl,hb⟩;replace M:=Hd (M.o.resrf hC.out.1 hb);clear hb
 try go_wp2_with fail
 refine hK.out _ _ (Or.inr trivial) (fun hHeld=>?_);clear hK K hHeld
 refine tn [] 5 fun K hK=>?_
 go_simp;refine (err_any er1 _ 0 _ (hC.out.at M.out).c0).mono ?_;rintro rr w3_ ⟨rfl,rfl⟩
 try go_wp2_with fail
 refine hK.out _ _ (Or.inr trivial) (fun hHeld=>?_);clear hK K hHeld
 refine tn [] 6 fun K hK=>?_
 have kc:=(M.o.nth 0 rfl).2.1;have kf:=(M.o.nth 0 rfl).2.2;replace M:=Hd (M.o.set2 0 rfl rl rh);dsimp only [List.set] at M;go_simp;refine hK.out _ _ (Or.inr trivial) (fun hHeld=>?_);clear hK K hHeld kc kf
 refine tn [] 7 fun K hK=>?_
 go_simp;refine hK.out _ _ (Or.inr trivial) (fun hHeld=>?_);clear hK K hHeld;refine tails_done (by kernel_rfl) ?_ _;refine NoPanic.normal ?_;clear hS;revert M;generalize ((w2_.setCell ⟨w.heap.size,0,none⟩ (rl:Value)).setCell ⟨w.heap.size,1,none⟩ (rh:Value))=W4_;intro M;go_wp2;obtain⟨f1,f2⟩:=(M.o.nth 0 rfl).two;exact bodyPost_ret (v:=.tuple #[.agg #[.float .f64 rl,.float .f64 rh],.int .i64 er1]) (by simp [results,Tryz.results218,go_sem,f1,f2]) rfl ⟨rfl,M.o.put⟩
theorem gG2_walk {al ah ol oh il ih rl rh:Nat} {er1:Int} (w:World)
  (c1:Hid (∀ (q:Nat) (v:World),Has1 v (q,#[true,al,ah,il,ih,ol,oh])→Calls Tryz.prog 218 #[.pointer (some ⟨q,0,none⟩),.func (.func 220) #[.pointer (some ⟨q,0,none⟩)] #[]] v fun r w'=>r = .returned (.tuple #[.agg #[rl,rh],.int .i64 er1])∧Put ⟨q,0,none⟩ (.int .i64 er1) v w')) :
  Calls Tryz.prog 207 #[.agg #[il,ih],.agg #[ol,oh],.agg #[al,ah]] w (Rt (.tuple #[.agg #[rl,rh],.int .i64 er1]) w):=by
 have M:=Hd (((((Own.nil w).made #[il,ih] 31).made #[ol,oh] 31).made #[al,ah] 31).made #[(),()] 31);simp only [World.size_alloc] at M;have eqF:=eq_floats;go_enter Tryz.func207,Tryz.ntmps207;obtain⟨k1,k2⟩:=(M.o.nth 1 rfl).two;obtain⟨k3,k4⟩:=(M.o.nth 3 rfl).two;obtain⟨k5,k6⟩:=(M.o.nth 2 rfl).two;replace M:=Hd (M.o.made #[true,al,ah,il,ih,ol,oh] 210);simp only [World.size_alloc] at M;obtain⟨k7,k8⟩:=(M.o.nth 2 rfl).two;obtain⟨k9,k10⟩:=(M.o.nth 4 rfl).two;obtain⟨k11,k12⟩:=(M.o.nth 3 rfl).two;go_wp2_with fail;refine (c1.out _ _ (M.o.nth 0 rfl)).mono ?_;rintro r w1_ ⟨rfl,hb⟩;replace M:Hid (Own w [((w.heap.size+1+1+1+1),#[.int .i64 er1,al,ah,il,ih,ol,oh]),((w.heap.size+1+1+1),#[(),()]),((w.heap.size+1+1),#[al,ah]),((w.heap.size+1),#[ol,oh]),(w.heap.size,#[il,ih])] w1_):=Hd ((M.o.putIn 0 rfl hb).to (by rfl));clear hb;clear k1 k2 k3 k4 k5 k6 k7 k8 k9 k10 k11 k12;have kc:=(M.o.nth 1 rfl).2.1;have kf:=(M.o.nth 1 rfl).2.2
 replace M:=Hd (M.o.set2 1 rfl rl rh);dsimp only [List.set] at M;go_wp2;obtain⟨f1,f2⟩:=(M.o.nth 1 rfl).two;exact bodyPost_ret (v:=.tuple #[.agg #[.float .f64 rl,.float .f64 rh],.int .i64 er1]) (by simp [results,Tryz.results207,go_sem,f1,f2]) rfl ⟨rfl,M.o.base⟩
end
end Go.Proofs.YtnaomilkgfkegaaGreat
