/- What the claim stands on, part 22: PaE. -/
import Derived.Test.YtnaomilkgfkegaaGreatWA18
import Derived.Deep.RegionHeld3
set_option maxHeartbeats 16000000
set_option maxRecDepth 100000
namespace Go.Proofs.YtnaomilkgfkegaaGreat
section
open Go.RowKit
attribute [local go_sem] run_store_float run_store_fun run_store_nilfun
section
variable {P:Program} {ops:Array Oper} {Q:Exit→Act→World→Prop} {md:Region.Mode} {S:World→Prop}
theorem lp_ccppp_1 {a0:Act} {B v:World} {l:List (Nat×Array Value)} (_:Hid (Own B l v)) {w0:World} {L0:Array Bool} (c1 c2 c3 c4 c5 m1:Nat) (slots:List Nat) (N:Nat) (J:List (Nat×Array Value)→Act→Nat→List (Option Nat)→Act→World→Prop) (hok:latOkP [false,false,true,true,true] md ops L0 [c1,c2,c3,c4,c5] [m1]=true)
  (hsl:(slots.all fun s=>decide (s < a0.tmps.size))=true) (h0:∀ A:Act,(∀ s,s∈slots→s < A.tmps.size)→J l A 0 (List.replicate 1 none) A w0)
  (hS:∀ k p a w,J l a0 k p a w→S w)
  (k1:∀ p a w,J l a0 0 p a w→wpOp P ops Q c1 (fun b v=>J l a0 1 p b v) a w)
  (k2:∀ p a w,J l a0 1 p a w→wpOp P ops Q c2 (fun b v=>J l a0 2 p b v) a w)
  (k3:∀ p a w,J l a0 2 p a w→∃ o x,ops[c3]? = some o∧YieldsIf P ops S o x a∧(∀ c a w,Q (.panic c) (a.put o.dst x) w→Q (.panic c) a w)∧J l a0 3 p (a.put o.dst x) w)
  (k4:∀ p a w,J l a0 3 p a w→∃ o x,ops[c4]? = some o∧YieldsIf P ops S o x a∧(∀ c a w,Q (.panic c) (a.put o.dst x) w→Q (.panic c) a w)∧J l a0 4 p (a.put o.dst x) w)
  (k5:∀ p a w,J l a0 4 p a w→∃ o x,ops[c5]? = some o∧YieldsIf P ops S o x a∧(∀ c a w,Q (.panic c) (a.put o.dst x) w→Q (.panic c) a w)∧J l a0 5 p (a.put o.dst x) w)
  (n1:∀ k p a w,p[0]? = some none→J l a0 k p a w→wpOp P ops Q m1 (fun b v=>∃ q,J l a0 k (p.set 0 (some q)) b v) a w)
  (fin:∀ q1 a w,J l a0 5 [some q1] a w→wpAnyV P md ops Q S [] N (lstOf L0 [c1,c2,c3,c4,c5] [m1] 5 [true]) a w) :
  wpAnyV P md ops Q S [] (N+6) L0 a0 w0:=by
 refine latP_from (pl:=[false,false,true,true,true]) [c1,c2,c3,c4,c5] [m1] slots N 6 (J l) hok rfl hsl h0 hS (fun k i p a w hk hn hJ=>?_) (fun k i p a w hk hn hJ=>?_) (fun k m i p a w hm hp hJ=>?_) (fun p a w hp hall hJ=>?_)
 ·rcases k with _ | _ | _ | _ | _ | k
  ·obtain rfl:c1=i:=by simpa using hk
   exact k1 p a w hJ
  ·obtain rfl:c2=i:=by simpa using hk
   exact k2 p a w hJ
  ·exact absurd hn (by decide)
  ·exact absurd hn (by decide)
  ·exact absurd hn (by decide)
  ·simp at hk
 ·rcases k with _ | _ | _ | _ | _ | k
  ·exact absurd hn (by decide)
  ·exact absurd hn (by decide)
  ·obtain rfl:c3=i:=by simpa using hk
   exact k3 p a w hJ
  ·obtain rfl:c4=i:=by simpa using hk
   exact k4 p a w hJ
  ·obtain rfl:c5=i:=by simpa using hk
   exact k5 p a w hJ
  ·simp at hk
 ·rcases m with _ | m
  ·obtain rfl:m1=i:=by simpa using hm
   exact n1 k p a w hp hJ
  ·simp at hm
 ·obtain⟨q1,rfl⟩:=fin_one hp hall
  exact fin q1 a w hJ
end
theorem plit_walk {al io hl hh zl zh:Nat} {ez:Int} (w:World) (p:Nat) (hP:Hid (Has1 w (p,#[.int .u8 3,(),(),(),(),(),(),(),(),(),(),(),(),(),al,io,(),true,true])))
  (c2:CH 188 #[.agg #[hl,hh],.agg #[io,io]] (.tuple #[.agg #[zl,zh],.int .i64 ez])) :
  Calls Tryz.prog 187 #[.agg #[hl,hh],.pointer (some ⟨p,0,none⟩)] w (Rt (.tuple #[.agg #[zl,zh],.int .i64 ez]) w):=by
 have M:=Hd (((Own.nil w).made #[hl,hh] 31).made #[(),()] 31);simp only [World.size_alloc] at M;have eqF:=eq_floats;go_enter Tryz.func187,Tryz.ntmps187;go_upto_region 1 with fail;replace M:=Hd M.o.drew;revert M;generalize ((w.alloc (.cells #[hl,hh] 31)).alloc (.cells #[(),()] 31))=W0_;intro M;refine wp_region_noPanic ?_;refine tails_region (S:=fun w'=>(Cf w' w.heap.size 0 hl∧Cf w' w.heap.size 1 hh)∧(Cf w' p 15 io)) [] (by kernel_rfl) ?_ (fun hS=>?_)
 ·exact ⟨(M.o.nth 1 rfl).two,((hP.out.below M.o.base).get 15 io rfl)⟩
 refine tq 0 hS ?_;refine tq 1 hS ?_;refine tq 2 hS ?_
 conv=>arg 9; simp only [Act.put,go_sem]
 refine tn [] 3 fun K hK=>?_
 go_simp;refine (psingle_any io _).mono ?_;rintro rr w1_ ⟨rfl,hb⟩;replace M:=Hd (M.o.below hb);clear hb
 try go_wp2_with fail
 refine hK.out _ _ (Or.inr ⟨(M.o.nth 1 rfl).two,((hP.out.below M.o.base).get 15 io rfl)⟩) (fun hHeld=>?_);clear hK K hHeld;replace hS:=(And.intro (M.o.nth 1 rfl).two ((hP.out.below M.o.base).get 15 io rfl))
 refine tn [] 4 fun K hK=>?_
 go_simp;refine (c2.out _).mono ?_;rintro rr w2_ ⟨rfl,hb⟩;replace M:=Hd (M.o.below hb);clear hb
 try go_wp2_with fail
 refine hK.out _ _ (Or.inr ⟨(M.o.nth 1 rfl).two,((hP.out.below M.o.base).get 15 io rfl)⟩) (fun hHeld=>?_);clear hK K hHeld;replace hS:=(And.intro (M.o.nth 1 rfl).two ((hP.out.below M.o.base).get 15 io rfl));refine tq 5 hS ?_;refine tq 6 hS ?_
 refine tn [] 7 fun K hK=>?_
 have kc:=(M.o.nth 0 rfl).2.1;have kf:=(M.o.nth 0 rfl).2.2;replace M:=Hd (M.o.set2 0 rfl zl zh);dsimp only [List.set] at M;go_simp;refine hK.out _ _ (Or.inr ⟨(M.o.nth 1 rfl).two,((hP.out.below M.o.base).get 15 io rfl)⟩) (fun hHeld=>?_);clear hK K hHeld kc kf
 refine tn [] 8 fun K hK=>?_
 go_simp;refine hK.out _ _ (Or.inr ⟨(M.o.nth 1 rfl).two,((hP.out.below M.o.base).get 15 io rfl)⟩) (fun hHeld=>?_);clear hK K hHeld;refine tails_done (by kernel_rfl) ?_ _;refine NoPanic.normal ?_;clear hS;revert M;generalize ((w2_.setCell ⟨(w.heap.size+1),0,none⟩ (zl:Value)).setCell ⟨(w.heap.size+1),1,none⟩ (zh:Value))=W3_;intro M;go_wp2;obtain⟨f1,f2⟩:=(M.o.nth 0 rfl).two;exact bodyPost_ret (v:=.tuple #[.agg #[.float .f64 zl,.float .f64 zh],.int .i64 ez]) (by simp [results,Tryz.results187,go_sem,f1,f2]) rfl ⟨rfl,M.o.base⟩
theorem mlit_walk {cc:Int} {xp xq:Nat} {al p0 p1 p2 q0 q1 q2 hl hh zl zh:Nat} {ez:Int} (w:World) (hi:Hid ((cc=0∧p0=xp∧q0=xq)∨(cc=1∧p1=xp∧q1=xq)∨(cc=2∧p2=xp∧q2=xq))) (p q:Nat) (hP:Hid (Has1 w (p,#[.int .u8 4,(),(),(),(),(),(),p0,p1,p2,q0,q1,q2,(),al,(),(),true,true]))) (hQ:Hid (Has1 w (q,#[.int .i64 cc])))
  (c3:CH 191 #[.agg #[hl,hh],.agg #[xp,xp],.agg #[xq,xq]] (.tuple #[.agg #[zl,zh],.int .i64 ez])) :
  Calls Tryz.prog 190 #[.agg #[hl,hh],.pointer (some ⟨p,0,none⟩),.pointer (some ⟨q,0,none⟩)] w (Rt (.tuple #[.agg #[zl,zh],.int .i64 ez]) w):=by
 have M:=Hd (((Own.nil w).made #[hl,hh] 31).made #[(),()] 31);simp only [World.size_alloc] at M;have eqF:=eq_floats;go_enter Tryz.func190,Tryz.ntmps190;go_upto_region 1 with fail;replace M:=Hd M.o.drew;revert M;generalize ((w.alloc (.cells #[hl,hh] 31)).alloc (.cells #[(),()] 31))=W0_;intro M;refine wp_region_noPanic ?_
 rcases hi.out with ⟨rfl,rfl,rfl⟩ | ⟨rfl,rfl,rfl⟩ | ⟨rfl,rfl,rfl⟩
 refine tails_region (S:=fun w'=>(Cf w' w.heap.size 0 hl∧Cf w' w.heap.size 1 hh)∧(w'.cell? ⟨q,0,none⟩=some (.int .i64 0))∧(Cf w' p 7 p0∧Cf w' p 10 q0)) [] (by kernel_rfl) (by exact ⟨(M.o.nth 1 rfl).two,(hQ.out.below M.o.base).pc,(And.intro ((hP.out.below M.o.base).get 7 p0 rfl) ((hP.out.below M.o.base).get 10 q0 rfl))⟩) (fun hS=>?_)
 rotate_left
 refine tails_region (S:=fun w'=>(Cf w' w.heap.size 0 hl∧Cf w' w.heap.size 1 hh)∧(w'.cell? ⟨q,0,none⟩=some (.int .i64 1))∧(Cf w' p 8 p1∧Cf w' p 11 q1)) [] (by kernel_rfl) (by exact ⟨(M.o.nth 1 rfl).two,(hQ.out.below M.o.base).pc,(And.intro ((hP.out.below M.o.base).get 8 p1 rfl) ((hP.out.below M.o.base).get 11 q1 rfl))⟩) (fun hS=>?_)
 rotate_left
 refine tails_region (S:=fun w'=>(Cf w' w.heap.size 0 hl∧Cf w' w.heap.size 1 hh)∧(w'.cell? ⟨q,0,none⟩=some (.int .i64 2))∧(Cf w' p 9 p2∧Cf w' p 12 q2)) [] (by kernel_rfl) (by exact ⟨(M.o.nth 1 rfl).two,(hQ.out.below M.o.base).pc,(And.intro ((hP.out.below M.o.base).get 9 p2 rfl) ((hP.out.below M.o.base).get 12 q2 rfl))⟩) (fun hS=>?_)
 rotate_left
 all_goals
  clear hi;refine tq 0 hS ?_;refine tq 1 hS ?_;refine tq 2 hS ?_;refine tq 3 hS ?_;refine tq 4 hS ?_;refine tq 6 hS ?_;refine tq 7 hS ?_;refine tq 8 hS ?_;refine tq 9 hS ?_
  conv=>arg 9; simp only [Act.put,go_sem]
  refine tn [] 5 fun K hK=>?_
  go_simp;refine (psingle_any _ _).mono ?_;rintro rr w1_ ⟨rfl,hb⟩;replace M:=Hd (M.o.below hb);clear hb
  try go_wp2_with fail
  refine hK.out _ _ (Or.inr ⟨(M.o.nth 1 rfl).two,(hQ.out.below M.o.base).pc,(And.intro ((hP.out.below M.o.base).get _ _ rfl) ((hP.out.below M.o.base).get _ _ rfl))⟩) (fun hHeld=>?_);clear hK K;replace hS:=hHeld.resolve_left (by simp)
  refine tn [] 10 fun K hK=>?_
  go_simp;refine (psingle_any _ _).mono ?_;rintro rr w2_ ⟨rfl,hb⟩;replace M:=Hd (M.o.below hb);clear hb
  try go_wp2_with fail
  refine hK.out _ _ (Or.inr ⟨(M.o.nth 1 rfl).two,(hQ.out.below M.o.base).pc,(And.intro ((hP.out.below M.o.base).get _ _ rfl) ((hP.out.below M.o.base).get _ _ rfl))⟩) (fun hHeld=>?_);clear hK K;replace hS:=hHeld.resolve_left (by simp)
  refine tn [] 11 fun K hK=>?_
  go_simp;refine (c3.out _).mono ?_;rintro rr w3_ ⟨rfl,hb⟩;replace M:=Hd (M.o.below hb);clear hb
  try go_wp2_with fail
  refine hK.out _ _ (Or.inr ⟨(M.o.nth 1 rfl).two,(hQ.out.below M.o.base).pc,(And.intro ((hP.out.below M.o.base).get _ _ rfl) ((hP.out.below M.o.base).get _ _ rfl))⟩) (fun hHeld=>?_);clear hK K;replace hS:=hHeld.resolve_left (by simp);refine tq 12 hS ?_;refine tq 13 hS ?_
  refine tn [] 14 fun K hK=>?_
  have kc:=(M.o.nth 0 rfl).2.1;have kf:=(M.o.nth 0 rfl).2.2;replace M:=Hd (M.o.set2 0 rfl zl zh);dsimp only [List.set] at M;go_simp;refine hK.out _ _ (Or.inr ⟨(M.o.nth 1 rfl).two,(hQ.out.below M.o.base).pc,(And.intro ((hP.out.below M.o.base).get _ _ rfl) ((hP.out.below M.o.base).get _ _ rfl))⟩) (fun hHeld=>?_);clear hK K hHeld kc kf
  refine tn [] 15 fun K hK=>?_
  go_simp;refine hK.out _ _ (Or.inr ⟨(M.o.nth 1 rfl).two,(hQ.out.below M.o.base).pc,(And.intro ((hP.out.below M.o.base).get _ _ rfl) ((hP.out.below M.o.base).get _ _ rfl))⟩) (fun hHeld=>?_);clear hK K hHeld;refine tails_done (by kernel_rfl) ?_ _;refine NoPanic.normal ?_;clear hS;revert M;generalize ((w3_.setCell ⟨(w.heap.size+1),0,none⟩ (zl:Value)).setCell ⟨(w.heap.size+1),1,none⟩ (zh:Value))=W4_;intro M;go_wp2;obtain⟨f1,f2⟩:=(M.o.nth 0 rfl).two;exact bodyPost_ret (v:=.tuple #[.agg #[.float .f64 zl,.float .f64 zh],.int .i64 ez]) (by simp [results,Tryz.results190,go_sem,f1,f2]) rfl ⟨rfl,M.o.base⟩
def pyPargJ1 (w:World) (al g0 g1 g2 g3 g4 g5 g6 g7:Nat) (eg:Int) (l:RowL) (a0:Act) (k:Nat) (p:List (Option Nat)) (a:Act) (v:World):Prop:=
 ∃ y1 y2 y3 y4 y5 z1:Value,a=((((((a0.put (some 19) y1).put (some 20) y2).put (some 14) y3).put (some 21) y4).put (some 22) y5).put (some 10) z1)∧(0 < k→y1 = .agg #[al,al])∧(1 < k→y2 = .tuple #[.agg #[g0,g1,g2,g3,g4,g5,g6,g7],.int .i64 eg])∧(2 < k→y3 = .tuple #[.agg #[g0,g1,g2,g3,g4,g5,g6,g7],.int .i64 eg])∧(3 < k→y4 = .agg #[g0,g1,g2,g3,g4,g5,g6,g7])∧(4 < k→y5 = .int .i64 eg)∧(∀ q,p[0]? = some (some q)→z1 = .pointer (some ⟨q,0,none⟩))∧OwnF w l [#[(),(),(),(),(),(),(),()]] p v
section
variable {w v:World} {al g0 g1 g2 g3 g4 g5 g6 g7:Nat} {eg:Int} {l:RowL} {a0 a:Act} {p:List (Option Nat)}
theorem pyPargJ1_0 (h:pyPargJ1 w al g0 g1 g2 g3 g4 g5 g6 g7 eg l a0 0 p a v):∃ y1 y2 y3 y4 y5 z1:Value,a=((((((a0.put (some 19) y1).put (some 20) y2).put (some 14) y3).put (some 21) y4).put (some 22) y5).put (some 10) z1)∧(∀ q,p[0]? = some (some q)→z1 = .pointer (some ⟨q,0,none⟩))∧OwnF w l [#[(),(),(),(),(),(),(),()]] p v:=by
 obtain⟨y1,y2,y3,y4,y5,z1,ha,E1,E2,E3,E4,E5,G1,h⟩:=h;exact ⟨y1,y2,y3,y4,y5,z1,ha,G1,h⟩
theorem pyPargJ1_1 (h:pyPargJ1 w al g0 g1 g2 g3 g4 g5 g6 g7 eg l a0 1 p a v):∃ y2 y3 y4 y5 z1:Value,a=((((((a0.put (some 19) (.agg #[al,al])).put (some 20) y2).put (some 14) y3).put (some 21) y4).put (some 22) y5).put (some 10) z1)∧(∀ q,p[0]? = some (some q)→z1 = .pointer (some ⟨q,0,none⟩))∧OwnF w l [#[(),(),(),(),(),(),(),()]] p v:=by
 obtain⟨y1,y2,y3,y4,y5,z1,ha,E1,E2,E3,E4,E5,G1,h⟩:=h;obtain rfl:=E1 (by decide);exact ⟨y2,y3,y4,y5,z1,ha,G1,h⟩
theorem pyPargJ1_2 (h:pyPargJ1 w al g0 g1 g2 g3 g4 g5 g6 g7 eg l a0 2 p a v):∃ y3 y4 y5 z1:Value,a=((((((a0.put (some 19) (.agg #[al,al])).put (some 20) (.tuple #[.agg #[g0,g1,g2,g3,g4,g5,g6,g7],.int .i64 eg])).put (some 14) y3).put (some 21) y4).put (some 22) y5).put (some 10) z1)∧(∀ q,p[0]? = some (some q)→z1 = .pointer (some ⟨q,0,none⟩))∧OwnF w l [#[(),(),(),(),(),(),(),()]] p v:=by
 obtain⟨y1,y2,y3,y4,y5,z1,ha,E1,E2,E3,E4,E5,G1,h⟩:=h;obtain rfl:=E1 (by decide);obtain rfl:=E2 (by decide);exact ⟨y3,y4,y5,z1,ha,G1,h⟩
theorem pyPargJ1_3 (h:pyPargJ1 w al g0 g1 g2 g3 g4 g5 g6 g7 eg l a0 3 p a v):∃ y4 y5 z1:Value,a=((((((a0.put (some 19) (.agg #[al,al])).put (some 20) (.tuple #[.agg #[g0,g1,g2,g3,g4,g5,g6,g7],.int .i64 eg])).put (some 14) (.tuple #[.agg #[g0,g1,g2,g3,g4,g5,g6,g7],.int .i64 eg])).put (some 21) y4).put (some 22) y5).put (some 10) z1)∧(∀ q,p[0]? = some (some q)→z1 = .pointer (some ⟨q,0,none⟩))∧OwnF w l [#[(),(),(),(),(),(),(),()]] p v:=by
 obtain⟨y1,y2,y3,y4,y5,z1,ha,E1,E2,E3,E4,E5,G1,h⟩:=h;obtain rfl:=E1 (by decide);obtain rfl:=E2 (by decide);obtain rfl:=E3 (by decide);exact ⟨y4,y5,z1,ha,G1,h⟩
theorem pyPargJ1_4 (h:pyPargJ1 w al g0 g1 g2 g3 g4 g5 g6 g7 eg l a0 4 p a v):∃ y5 z1:Value,a=((((((a0.put (some 19) (.agg #[al,al])).put (some 20) (.tuple #[.agg #[g0,g1,g2,g3,g4,g5,g6,g7],.int .i64 eg])).put (some 14) (.tuple #[.agg #[g0,g1,g2,g3,g4,g5,g6,g7],.int .i64 eg])).put (some 21) (.agg #[g0,g1,g2,g3,g4,g5,g6,g7])).put (some 22) y5).put (some 10) z1)∧(∀ q,p[0]? = some (some q)→z1 = .pointer (some ⟨q,0,none⟩))∧OwnF w l [#[(),(),(),(),(),(),(),()]] p v:=by
 obtain⟨y1,y2,y3,y4,y5,z1,ha,E1,E2,E3,E4,E5,G1,h⟩:=h;obtain rfl:=E1 (by decide);obtain rfl:=E2 (by decide);obtain rfl:=E3 (by decide);obtain rfl:=E4 (by decide);exact ⟨y5,z1,ha,G1,h⟩
theorem pyPargJ1_fin {q1:Nat} (h:pyPargJ1 w al g0 g1 g2 g3 g4 g5 g6 g7 eg l a0 5 [some q1] a v):a=((((((a0.put (some 19) (.agg #[al,al])).put (some 20) (.tuple #[.agg #[g0,g1,g2,g3,g4,g5,g6,g7],.int .i64 eg])).put (some 14) (.tuple #[.agg #[g0,g1,g2,g3,g4,g5,g6,g7],.int .i64 eg])).put (some 21) (.agg #[g0,g1,g2,g3,g4,g5,g6,g7])).put (some 22) (.int .i64 eg)).put (some 10) (.pointer (some ⟨q1,0,none⟩)))∧OwnF w l [#[(),(),(),(),(),(),(),()]] [some q1] v:=by
 obtain⟨y1,y2,y3,y4,y5,z1,ha,E1,E2,E3,E4,E5,G1,h⟩:=h;obtain rfl:=E1 (by decide);obtain rfl:=E2 (by decide);obtain rfl:=E3 (by decide);obtain rfl:=E4 (by decide);obtain rfl:=E5 (by decide);obtain rfl:=G1 _ rfl;exact ⟨ha,h⟩
end
theorem mirP_arg {al io i0 i1 i2 i3 i4 i5 o0 o1 o2 o3 o4 o5 g0 g1 g2 g3 g4 g5 g6 g7:Nat} {eg:Int} (w:World) (p:Nat)
  (c2:CH 189 #[.agg #[i0,i1,i2,i3,i4,i5],.agg #[o0,o1,o2,o3,o4,o5],.agg #[al,al]] (.tuple #[.agg #[g0,g1,g2,g3,g4,g5,g6,g7],.int .i64 eg]))
  (hne:(eg != 0)=true) :
  Calls Tryz.prog 186 #[.agg #[.int .u8 3,(),(),(),(),(),(),(),(),(),(),(),(),(),al,io,(),true,true],.agg #[i0,i1,i2,i3,i4,i5],.agg #[o0,o1,o2,o3,o4,o5],.func (.func 187) #[] #[.pointer (some ⟨p,0,none⟩)]] w (Rt (.tuple #[.agg #[(),()],.int .i64 eg]) w):=by
 have M:=Hd (((((Own.nil w).made #[.int .u8 3,(),(),(),(),(),(),(),(),(),(),(),(),(),al,io,(),true,true] 66).made #[i0,i1,i2,i3,i4,i5] 33).made #[o0,o1,o2,o3,o4,o5] 33).made #[(),()] 31);simp only [World.size_alloc] at M;have eqF:=eq_floats;go_enter Tryz.func186,Tryz.ntmps186;go_upto_region 1 with fail;replace M:=Hd M.o.drew;revert M;generalize ((((w.alloc (.cells #[.int .u8 3,(),(),(),(),(),(),(),(),(),(),(),(),(),al,io,(),true,true] 66)).alloc (.cells #[i0,i1,i2,i3,i4,i5] 33)).alloc (.cells #[o0,o1,o2,o3,o4,o5] 33)).alloc (.cells #[(),()] 31))=W0_;intro M;refine wp_region_noPanic ?_;refine tails_region (S:=fun w'=>(Cf w' (w.heap.size+1) 0 i0∧Cf w' (w.heap.size+1) 1 i1∧Cf w' (w.heap.size+1) 2 i2∧Cf w' (w.heap.size+1) 3 i3∧Cf w' (w.heap.size+1) 4 i4∧Cf w' (w.heap.size+1) 5 i5)∧(Cf w' (w.heap.size+1+1) 0 o0∧Cf w' (w.heap.size+1+1) 1 o1∧Cf w' (w.heap.size+1+1) 2 o2∧Cf w' (w.heap.size+1+1) 3 o3∧Cf w' (w.heap.size+1+1) 4 o4∧Cf w' (w.heap.size+1+1) 5 o5)∧(Cf w' w.heap.size 14 al)) [] (by kernel_rfl) ?_ (fun hS=>?_)
 ·exact ⟨(M.o.nth 2 rfl).six,(M.o.nth 1 rfl).six,((M.o.nth 3 rfl).get 14 al rfl)⟩
 refine tq 0 hS ?_;refine tq 1 hS ?_;refine tq 2 hS ?_;refine tq 3 hS ?_
 conv=>arg 9; simp only [Act.put,go_sem]
 refine lp_ccppp_1 M 4 5 6 7 8 9 [19,20,14,21,22,10] 2 (pyPargJ1 w al g0 g1 g2 g3 g4 g5 g6 g7 eg) (by kernel_rfl) (by kernel_rfl) ?_ ?_ ?_ ?_ ?_ ?_ ?_ ?_ ?_
 ·intro A hA
  obtain⟨y1,hq1⟩:=put_ex (hA 19 (by simp));obtain⟨y2,hq2⟩:=put_ex (hA 20 (by simp));obtain⟨y3,hq3⟩:=put_ex (hA 14 (by simp));obtain⟨y4,hq4⟩:=put_ex (hA 21 (by simp));obtain⟨y5,hq5⟩:=put_ex (hA 22 (by simp));obtain⟨z1,hq6⟩:=put_ex (hA 10 (by simp));exact ⟨y1,y2,y3,y4,y5,z1,by rw [hq1,hq2,hq3,hq4,hq5,hq6],by omega,by omega,by omega,by omega,by omega,by simp,OwnF.start M.out 1⟩
 ·rintro k p a v ⟨y1,y2,y3,y4,y5,z1,_,_,_,_,_,_,_,h⟩
  exact ⟨(h.own.nth 2 rfl).six,(h.own.nth 1 rfl).six,((h.own.nth 3 rfl).get 14 al rfl)⟩
 ·intro p a v hJ
  refine os fun K hK=>?_
  obtain⟨y1,y2,y3,y4,y5,z1,ha,gg1,h⟩:=pyPargJ1_0 hJ;have h:=Hd h;clear hJ;subst ha;go_simp;refine (psingle_any al _).mono ?_;rintro rr w5 ⟨rfl,hp⟩
  try go_wp2_with fail
  refine hK.out _ _ ⟨_,y2,y3,y4,y5,z1,?_,fun _=>rfl,by omega,by omega,by omega,by omega,gg1,h.out.below hp⟩;kernel_rfl
 ·intro p a v hJ
  refine os fun K hK=>?_
  obtain⟨y2,y3,y4,y5,z1,ha,gg1,h⟩:=pyPargJ1_1 hJ;have h:=Hd h;clear hJ;subst ha;go_simp;refine (c2.out _).mono ?_;rintro rr w5 ⟨rfl,hp⟩
  try go_wp2_with fail
  refine hK.out _ _ ⟨_,_,y3,y4,y5,z1,?_,fun _=>rfl,fun _=>rfl,by omega,by omega,by omega,gg1,h.out.below hp⟩;kernel_rfl
 ·intro p a v hJ
  replace hJ:=pyPargJ1_2 hJ;refine Exists.elim hJ (fun y3 hJ=>?_);refine Exists.elim hJ (fun y4 hJ=>?_);refine Exists.elim hJ (fun y5 hJ=>?_);refine Exists.elim hJ (fun z1 hJ=>?_);have ha:=hJ.1;have gg1:=hJ.2.1;have h:=hJ.2.2;clear hJ;subst ha;refine ⟨_,.tuple #[.agg #[g0,g1,g2,g3,g4,g5,g6,g7],.int .i64 eg],rfl,Or.inl ⟨by kernel_rfl,?_⟩,(fun _ _ _ h=>h),_,_,_,y4,y5,z1,?_,fun _=>rfl,fun _=>rfl,fun _=>rfl,by omega,by omega,gg1,h⟩
  ·intro w hSw; clear hSw h; go_simp; try with_reducible rfl
  ·kernel_rfl
 ·intro p a v hJ
  replace hJ:=pyPargJ1_3 hJ;refine Exists.elim hJ (fun y4 hJ=>?_);refine Exists.elim hJ (fun y5 hJ=>?_);refine Exists.elim hJ (fun z1 hJ=>?_);have ha:=hJ.1;have gg1:=hJ.2.1;have h:=hJ.2.2;clear hJ;subst ha;refine ⟨_,.agg #[g0,g1,g2,g3,g4,g5,g6,g7],rfl,Or.inl ⟨by kernel_rfl,?_⟩,(fun _ _ _ h=>h),_,_,_,_,y5,z1,?_,fun _=>rfl,fun _=>rfl,fun _=>rfl,fun _=>rfl,by omega,gg1,h⟩
  ·intro w hSw; clear hSw h; go_simp; try with_reducible rfl
  ·kernel_rfl
 ·intro p a v hJ
  replace hJ:=pyPargJ1_4 hJ;refine Exists.elim hJ (fun y5 hJ=>?_);refine Exists.elim hJ (fun z1 hJ=>?_);have ha:=hJ.1;have gg1:=hJ.2.1;have h:=hJ.2.2;clear hJ;subst ha;refine ⟨_,.int .i64 eg,rfl,Or.inl ⟨by kernel_rfl,?_⟩,(fun _ _ _ h=>h),_,_,_,_,_,z1,?_,fun _=>rfl,fun _=>rfl,fun _=>rfl,fun _=>rfl,fun _=>rfl,gg1,h⟩
  ·intro w hSw; clear hSw h; go_simp; try with_reducible rfl
  ·kernel_rfl
 ·intro k p a v hp hJ
  refine os fun K hK=>?_
  obtain⟨y1,y2,y3,y4,y5,z1,ha,ee1,ee2,ee3,ee4,ee5,gg1,h⟩:=hJ;have h:=Hd h;subst ha;go_simp;refine hK.out _ _ ⟨v.heap.size,y1,y2,y3,y4,y5,.pointer (some ⟨v.heap.size,0,none⟩),?_,ee1,ee2,ee3,ee4,ee5,fun q hq=>ptr_set hq,h.out.alloc hp rfl _⟩;kernel_rfl
 intro p1_1 a v hJ;obtain⟨rfl,h⟩:=pyPargJ1_fin hJ;clear hJ;replace M:=Hd h.fin1;clear h
 refine tn [] 10 fun K hK=>?_
 have kc:=(M.o.nth 0 rfl).2.1;have kf:=(M.o.nth 0 rfl).2.2;replace M:Hid (Own w [(p1_1,#[g0,g1,g2,g3,g4,g5,g6,g7]),((w.heap.size+1+1+1),#[(),()]),((w.heap.size+1+1),#[o0,o1,o2,o3,o4,o5]),((w.heap.size+1),#[i0,i1,i2,i3,i4,i5]),(w.heap.size,#[.int .u8 3,(),(),(),(),(),(),(),(),(),(),(),(),(),al,io,(),true,true])] _):=Hd (((((((((M.o.setIn 0 rfl 0 (g0:Value)).setIn 0 rfl 1 (g1:Value)).setIn 0 rfl 2 (g2:Value)).setIn 0 rfl 3 (g3:Value)).setIn 0 rfl 4 (g4:Value)).setIn 0 rfl 5 (g5:Value)).setIn 0 rfl 6 (g6:Value)).setIn 0 rfl 7 (g7:Value)).to (by rfl));go_simp;refine hK.out _ _ (Or.inr ⟨(M.o.nth 3 rfl).six,(M.o.nth 2 rfl).six,((M.o.nth 4 rfl).get 14 al rfl)⟩) (fun hHeld=>?_);clear hK K hHeld kc kf
 refine tn [] 11 fun K hK=>?_
 go_simp;refine hK.out _ _ (Or.inr ⟨(M.o.nth 3 rfl).six,(M.o.nth 2 rfl).six,((M.o.nth 4 rfl).get 14 al rfl)⟩) (fun hHeld=>?_);clear hK K hHeld;refine tails_done (by kernel_rfl) ?_ _;refine NoPanic.normal ?_;clear hS;revert M;generalize ((((((((v.setCell ⟨p1_1,0,none⟩ (g0:Value)).setCell ⟨p1_1,1,none⟩ (g1:Value)).setCell ⟨p1_1,2,none⟩ (g2:Value)).setCell ⟨p1_1,3,none⟩ (g3:Value)).setCell ⟨p1_1,4,none⟩ (g4:Value)).setCell ⟨p1_1,5,none⟩ (g5:Value)).setCell ⟨p1_1,6,none⟩ (g6:Value)).setCell ⟨p1_1,7,none⟩ (g7:Value))=W1_;intro M;have kc:=(M.o.nth 1 rfl).2.1;have kf:=(M.o.nth 1 rfl).2.2;replace M:=Hd (M.o.set2 1 rfl (.float .f64 0) (.float .f64 0));dsimp only [List.set] at M;go_wp2;obtain⟨f1,f2⟩:=(M.o.nth 1 rfl).two;exact bodyPost_ret (v:=.tuple #[.agg #[.float .f64 0,.float .f64 0],.int .i64 eg]) (by simp [results,Tryz.results186,go_sem,f1,f2]) rfl ⟨rfl,M.o.base⟩
def pyPokJ1 (w:World) (al g0 g1 g2 g3 g4 g5 g6 g7:Nat) (l:RowL) (a0:Act) (k:Nat) (p:List (Option Nat)) (a:Act) (v:World):Prop:=
 ∃ y1 y2 y3 y4 y5 z1:Value,a=((((((a0.put (some 19) y1).put (some 20) y2).put (some 14) y3).put (some 21) y4).put (some 22) y5).put (some 10) z1)∧(0 < k→y1 = .agg #[al,al])∧(1 < k→y2 = .tuple #[.agg #[g0,g1,g2,g3,g4,g5,g6,g7],true])∧(2 < k→y3 = .tuple #[.agg #[g0,g1,g2,g3,g4,g5,g6,g7],true])∧(3 < k→y4 = .agg #[g0,g1,g2,g3,g4,g5,g6,g7])∧(4 < k→y5 = .int .i64 0)∧(∀ q,p[0]? = some (some q)→z1 = .pointer (some ⟨q,0,none⟩))∧OwnF w l [#[(),(),(),(),(),(),(),()]] p v
section
variable {w v:World} {al g0 g1 g2 g3 g4 g5 g6 g7:Nat} {l:RowL} {a0 a:Act} {p:List (Option Nat)}
theorem pyPokJ1_0 (h:pyPokJ1 w al g0 g1 g2 g3 g4 g5 g6 g7 l a0 0 p a v):∃ y1 y2 y3 y4 y5 z1:Value,a=((((((a0.put (some 19) y1).put (some 20) y2).put (some 14) y3).put (some 21) y4).put (some 22) y5).put (some 10) z1)∧(∀ q,p[0]? = some (some q)→z1 = .pointer (some ⟨q,0,none⟩))∧OwnF w l [#[(),(),(),(),(),(),(),()]] p v:=by
 obtain⟨y1,y2,y3,y4,y5,z1,ha,E1,E2,E3,E4,E5,G1,h⟩:=h;exact ⟨y1,y2,y3,y4,y5,z1,ha,G1,h⟩
theorem pyPokJ1_1 (h:pyPokJ1 w al g0 g1 g2 g3 g4 g5 g6 g7 l a0 1 p a v):∃ y2 y3 y4 y5 z1:Value,a=((((((a0.put (some 19) (.agg #[al,al])).put (some 20) y2).put (some 14) y3).put (some 21) y4).put (some 22) y5).put (some 10) z1)∧(∀ q,p[0]? = some (some q)→z1 = .pointer (some ⟨q,0,none⟩))∧OwnF w l [#[(),(),(),(),(),(),(),()]] p v:=by
 obtain⟨y1,y2,y3,y4,y5,z1,ha,E1,E2,E3,E4,E5,G1,h⟩:=h;obtain rfl:=E1 (by decide);exact ⟨y2,y3,y4,y5,z1,ha,G1,h⟩
theorem pyPokJ1_2 (h:pyPokJ1 w al g0 g1 g2 g3 g4 g5 g6 g7 l a0 2 p a v):∃ y3 y4 y5 z1:Value,a=((((((a0.put (some 19) (.agg #[al,al])).put (some 20) (.tuple #[.agg #[g0,g1,g2,g3,g4,g5,g6,g7],true])).put (some 14) y3).put (some 21) y4).put (some 22) y5).put (some 10) z1)∧(∀ q,p[0]? = some (some q)→z1 = .pointer (some ⟨q,0,none⟩))∧OwnF w l [#[(),(),(),(),(),(),(),()]] p v:=by
 obtain⟨y1,y2,y3,y4,y5,z1,ha,E1,E2,E3,E4,E5,G1,h⟩:=h;obtain rfl:=E1 (by decide);obtain rfl:=E2 (by decide);exact ⟨y3,y4,y5,z1,ha,G1,h⟩
theorem pyPokJ1_3 (h:pyPokJ1 w al g0 g1 g2 g3 g4 g5 g6 g7 l a0 3 p a v):∃ y4 y5 z1:Value,a=((((((a0.put (some 19) (.agg #[al,al])).put (some 20) (.tuple #[.agg #[g0,g1,g2,g3,g4,g5,g6,g7],true])).put (some 14) (.tuple #[.agg #[g0,g1,g2,g3,g4,g5,g6,g7],true])).put (some 21) y4).put (some 22) y5).put (some 10) z1)∧(∀ q,p[0]? = some (some q)→z1 = .pointer (some ⟨q,0,none⟩))∧OwnF w l [#[(),(),(),(),(),(),(),()]] p v:=by
 obtain⟨y1,y2,y3,y4,y5,z1,ha,E1,E2,E3,E4,E5,G1,h⟩:=h;obtain rfl:=E1 (by decide);obtain rfl:=E2 (by decide);obtain rfl:=E3 (by decide);exact ⟨y4,y5,z1,ha,G1,h⟩
theorem pyPokJ1_4 (h:pyPokJ1 w al g0 g1 g2 g3 g4 g5 g6 g7 l a0 4 p a v):∃ y5 z1:Value,a=((((((a0.put (some 19) (.agg #[al,al])).put (some 20) (.tuple #[.agg #[g0,g1,g2,g3,g4,g5,g6,g7],true])).put (some 14) (.tuple #[.agg #[g0,g1,g2,g3,g4,g5,g6,g7],true])).put (some 21) (.agg #[g0,g1,g2,g3,g4,g5,g6,g7])).put (some 22) y5).put (some 10) z1)∧(∀ q,p[0]? = some (some q)→z1 = .pointer (some ⟨q,0,none⟩))∧OwnF w l [#[(),(),(),(),(),(),(),()]] p v:=by
 obtain⟨y1,y2,y3,y4,y5,z1,ha,E1,E2,E3,E4,E5,G1,h⟩:=h;obtain rfl:=E1 (by decide);obtain rfl:=E2 (by decide);obtain rfl:=E3 (by decide);obtain rfl:=E4 (by decide);exact ⟨y5,z1,ha,G1,h⟩
theorem pyPokJ1_fin {q1:Nat} (h:pyPokJ1 w al g0 g1 g2 g3 g4 g5 g6 g7 l a0 5 [some q1] a v):a=((((((a0.put (some 19) (.agg #[al,al])).put (some 20) (.tuple #[.agg #[g0,g1,g2,g3,g4,g5,g6,g7],true])).put (some 14) (.tuple #[.agg #[g0,g1,g2,g3,g4,g5,g6,g7],true])).put (some 21) (.agg #[g0,g1,g2,g3,g4,g5,g6,g7])).put (some 22) (.int .i64 0)).put (some 10) (.pointer (some ⟨q1,0,none⟩)))∧OwnF w l [#[(),(),(),(),(),(),(),()]] [some q1] v:=by
 obtain⟨y1,y2,y3,y4,y5,z1,ha,E1,E2,E3,E4,E5,G1,h⟩:=h;obtain rfl:=E1 (by decide);obtain rfl:=E2 (by decide);obtain rfl:=E3 (by decide);obtain rfl:=E4 (by decide);obtain rfl:=E5 (by decide);obtain rfl:=G1 _ rfl;exact ⟨ha,h⟩
end
theorem mirP_ok {al io i0 i1 i2 i3 i4 i5 o0 o1 o2 o3 o4 o5 g0 g1 g2 g3 g4 g5 g6 g7 zl zh ml mh:Nat} {em:Int} (w:World) (p:Nat) (hP:Hid (Has1 w (p,#[.int .u8 3,(),(),(),(),(),(),(),(),(),(),(),(),(),al,io,(),true,true])))
  (c2:CH 189 #[.agg #[i0,i1,i2,i3,i4,i5],.agg #[o0,o1,o2,o3,o4,o5],.agg #[al,al]] (.tuple #[.agg #[g0,g1,g2,g3,g4,g5,g6,g7],true]))
  (c3:Hid (∀ v,Has1 v (p,#[.int .u8 3,(),(),(),(),(),(),(),(),(),(),(),(),(),al,io,(),true,true])→Calls Tryz.prog 187 #[.agg #[g2,g3],.pointer (some ⟨p,0,none⟩)] v (Rt (.tuple #[.agg #[zl,zh],true]) v)))
  (d4:Hid (∀ pb v,Has1 v (pb,#[true])→Calls Tryz.prog 32 #[.pointer (some ⟨pb,0,none⟩),.agg #[g4,g5],.agg #[zl,zh]] v fun r w'=>r = .returned (.agg #[ml,mh])∧Put ⟨pb,0,none⟩ (.int .i64 em) v w')) :
  Calls Tryz.prog 186 #[.agg #[.int .u8 3,(),(),(),(),(),(),(),(),(),(),(),(),(),al,io,(),true,true],.agg #[i0,i1,i2,i3,i4,i5],.agg #[o0,o1,o2,o3,o4,o5],.func (.func 187) #[] #[.pointer (some ⟨p,0,none⟩)]] w (Rt (.tuple #[.agg #[ml,mh],.int .i64 em]) w):=by
 have M:=Hd (((((Own.nil w).made #[.int .u8 3,(),(),(),(),(),(),(),(),(),(),(),(),(),al,io,(),true,true] 66).made #[i0,i1,i2,i3,i4,i5] 33).made #[o0,o1,o2,o3,o4,o5] 33).made #[(),()] 31);simp only [World.size_alloc] at M;have eqF:=eq_floats;go_enter Tryz.func186,Tryz.ntmps186;go_upto_region 1 with fail;replace M:=Hd M.o.drew;revert M;generalize ((((w.alloc (.cells #[.int .u8 3,(),(),(),(),(),(),(),(),(),(),(),(),(),al,io,(),true,true] 66)).alloc (.cells #[i0,i1,i2,i3,i4,i5] 33)).alloc (.cells #[o0,o1,o2,o3,o4,o5] 33)).alloc (.cells #[(),()] 31))=W0_;intro M;refine wp_region_noPanic ?_;refine tails_region (S:=fun w'=>(Cf w' (w.heap.size+1) 0 i0∧Cf w' (w.heap.size+1) 1 i1∧Cf w' (w.heap.size+1) 2 i2∧Cf w' (w.heap.size+1) 3 i3∧Cf w' (w.heap.size+1) 4 i4∧Cf w' (w.heap.size+1) 5 i5)∧(Cf w' (w.heap.size+1+1) 0 o0∧Cf w' (w.heap.size+1+1) 1 o1∧Cf w' (w.heap.size+1+1) 2 o2∧Cf w' (w.heap.size+1+1) 3 o3∧Cf w' (w.heap.size+1+1) 4 o4∧Cf w' (w.heap.size+1+1) 5 o5)∧(Cf w' w.heap.size 14 al)) [] (by kernel_rfl) ?_ (fun hS=>?_)
 ·exact ⟨(M.o.nth 2 rfl).six,(M.o.nth 1 rfl).six,((M.o.nth 3 rfl).get 14 al rfl)⟩
 refine tq 0 hS ?_;refine tq 1 hS ?_;refine tq 2 hS ?_;refine tq 3 hS ?_
 conv=>arg 9; simp only [Act.put,go_sem]
 refine lp_ccppp_1 M 4 5 6 7 8 9 [19,20,14,21,22,10] 2 (pyPokJ1 w al g0 g1 g2 g3 g4 g5 g6 g7) (by kernel_rfl) (by kernel_rfl) ?_ ?_ ?_ ?_ ?_ ?_ ?_ ?_ ?_
 ·intro A hA
  obtain⟨y1,hq1⟩:=put_ex (hA 19 (by simp));obtain⟨y2,hq2⟩:=put_ex (hA 20 (by simp));obtain⟨y3,hq3⟩:=put_ex (hA 14 (by simp));obtain⟨y4,hq4⟩:=put_ex (hA 21 (by simp));obtain⟨y5,hq5⟩:=put_ex (hA 22 (by simp));obtain⟨z1,hq6⟩:=put_ex (hA 10 (by simp));exact ⟨y1,y2,y3,y4,y5,z1,by rw [hq1,hq2,hq3,hq4,hq5,hq6],by omega,by omega,by omega,by omega,by omega,by simp,OwnF.start M.out 1⟩
 ·rintro k p a v ⟨y1,y2,y3,y4,y5,z1,_,_,_,_,_,_,_,h⟩
  exact ⟨(h.own.nth 2 rfl).six,(h.own.nth 1 rfl).six,((h.own.nth 3 rfl).get 14 al rfl)⟩
 ·intro p a v hJ
  refine os fun K hK=>?_
  obtain⟨y1,y2,y3,y4,y5,z1,ha,gg1,h⟩:=pyPokJ1_0 hJ;have h:=Hd h;clear hJ;subst ha;go_simp;refine (psingle_any al _).mono ?_;rintro rr w5 ⟨rfl,hp⟩
  try go_wp2_with fail
  refine hK.out _ _ ⟨_,y2,y3,y4,y5,z1,?_,fun _=>rfl,by omega,by omega,by omega,by omega,gg1,h.out.below hp⟩;kernel_rfl
 ·intro p a v hJ
  refine os fun K hK=>?_
  obtain⟨y2,y3,y4,y5,z1,ha,gg1,h⟩:=pyPokJ1_1 hJ;have h:=Hd h;clear hJ;subst ha;go_simp;refine (c2.out _).mono ?_;rintro rr w5 ⟨rfl,hp⟩
  try go_wp2_with fail
  refine hK.out _ _ ⟨_,_,y3,y4,y5,z1,?_,fun _=>rfl,fun _=>rfl,by omega,by omega,by omega,gg1,h.out.below hp⟩;kernel_rfl
 ·intro p a v hJ
  replace hJ:=pyPokJ1_2 hJ;refine Exists.elim hJ (fun y3 hJ=>?_);refine Exists.elim hJ (fun y4 hJ=>?_);refine Exists.elim hJ (fun y5 hJ=>?_);refine Exists.elim hJ (fun z1 hJ=>?_);have ha:=hJ.1;have gg1:=hJ.2.1;have h:=hJ.2.2;clear hJ;subst ha;refine ⟨_,.tuple #[.agg #[g0,g1,g2,g3,g4,g5,g6,g7],true],rfl,Or.inl ⟨by kernel_rfl,?_⟩,(fun _ _ _ h=>h),_,_,_,y4,y5,z1,?_,fun _=>rfl,fun _=>rfl,fun _=>rfl,by omega,by omega,gg1,h⟩
  ·intro w hSw; clear hSw h; go_simp; try with_reducible rfl
  ·kernel_rfl
 ·intro p a v hJ
  replace hJ:=pyPokJ1_3 hJ;refine Exists.elim hJ (fun y4 hJ=>?_);refine Exists.elim hJ (fun y5 hJ=>?_);refine Exists.elim hJ (fun z1 hJ=>?_);have ha:=hJ.1;have gg1:=hJ.2.1;have h:=hJ.2.2;clear hJ;subst ha;refine ⟨_,.agg #[g0,g1,g2,g3,g4,g5,g6,g7],rfl,Or.inl ⟨by kernel_rfl,?_⟩,(fun _ _ _ h=>h),_,_,_,_,y5,z1,?_,fun _=>rfl,fun _=>rfl,fun _=>rfl,fun _=>rfl,by omega,gg1,h⟩
  ·intro w hSw; clear hSw h; go_simp; try with_reducible rfl
  ·kernel_rfl
 ·intro p a v hJ
  replace hJ:=pyPokJ1_4 hJ;refine Exists.elim hJ (fun y5 hJ=>?_);refine Exists.elim hJ (fun z1 hJ=>?_);have ha:=hJ.1;have gg1:=hJ.2.1;have h:=hJ.2.2;clear hJ;subst ha;refine ⟨_,.int .i64 0,rfl,Or.inl ⟨by kernel_rfl,?_⟩,(fun _ _ _ h=>h),_,_,_,_,_,z1,?_,fun _=>rfl,fun _=>rfl,fun _=>rfl,fun _=>rfl,fun _=>rfl,gg1,h⟩
  ·intro w hSw; clear hSw h; go_simp; try with_reducible rfl
  ·kernel_rfl
 ·intro k p a v hp hJ
  refine os fun K hK=>?_
  obtain⟨y1,y2,y3,y4,y5,z1,ha,ee1,ee2,ee3,ee4,ee5,gg1,h⟩:=hJ;have h:=Hd h;subst ha;go_simp;refine hK.out _ _ ⟨v.heap.size,y1,y2,y3,y4,y5,.pointer (some ⟨v.heap.size,0,none⟩),?_,ee1,ee2,ee3,ee4,ee5,fun q hq=>ptr_set hq,h.out.alloc hp rfl _⟩;kernel_rfl
 intro p1_1 a v hJ;obtain⟨rfl,h⟩:=pyPokJ1_fin hJ;clear hJ;replace M:=Hd h.fin1;clear h
 refine tn [] 10 fun K hK=>?_
 have kc:=(M.o.nth 0 rfl).2.1;have kf:=(M.o.nth 0 rfl).2.2;replace M:Hid (Own w [(p1_1,#[g0,g1,g2,g3,g4,g5,g6,g7]),((w.heap.size+1+1+1),#[(),()]),((w.heap.size+1+1),#[o0,o1,o2,o3,o4,o5]),((w.heap.size+1),#[i0,i1,i2,i3,i4,i5]),(w.heap.size,#[.int .u8 3,(),(),(),(),(),(),(),(),(),(),(),(),(),al,io,(),true,true])] _):=Hd (((((((((M.o.setIn 0 rfl 0 (g0:Value)).setIn 0 rfl 1 (g1:Value)).setIn 0 rfl 2 (g2:Value)).setIn 0 rfl 3 (g3:Value)).setIn 0 rfl 4 (g4:Value)).setIn 0 rfl 5 (g5:Value)).setIn 0 rfl 6 (g6:Value)).setIn 0 rfl 7 (g7:Value)).to (by rfl));go_simp;refine hK.out _ _ (Or.inr ⟨(M.o.nth 3 rfl).six,(M.o.nth 2 rfl).six,((M.o.nth 4 rfl).get 14 al rfl)⟩) (fun hHeld=>?_);clear hK K hHeld kc kf
 refine tn [] 11 fun K hK=>?_
 go_simp;refine hK.out _ _ (Or.inr ⟨(M.o.nth 3 rfl).six,(M.o.nth 2 rfl).six,((M.o.nth 4 rfl).get 14 al rfl)⟩) (fun hHeld=>?_);clear hK K hHeld;refine tails_done (by kernel_rfl) ?_ _;refine NoPanic.normal ?_;clear hS;revert M;generalize ((((((((v.setCell ⟨p1_1,0,none⟩ (g0:Value)).setCell ⟨p1_1,1,none⟩ (g1:Value)).setCell ⟨p1_1,2,none⟩ (g2:Value)).setCell ⟨p1_1,3,none⟩ (g3:Value)).setCell ⟨p1_1,4,none⟩ (g4:Value)).setCell ⟨p1_1,5,none⟩ (g5:Value)).setCell ⟨p1_1,6,none⟩ (g6:Value)).setCell ⟨p1_1,7,none⟩ (g7:Value))=W1_;intro M;obtain⟨k1,k2,k3,k4,k5,k6,k7,k8⟩:=(M.o.nth 0 rfl).eight;go_wp2_with fail;refine (c3.out _ (hP.out.below M.o.base)).mono ?_;rintro r w2_ ⟨rfl,hb⟩;replace M:=Hd (M.o.below hb);clear hb;clear k1 k2 k3 k4 k5 k6 k7 k8;replace M:=Hd (M.o.made #[zl,zh] 31);replace M:=Hd (M.o.made #[true] 74);simp only [World.size_alloc] at M;obtain⟨k1,k2,k3,k4,k5,k6,k7,k8⟩:=(M.o.nth 2 rfl).eight
 go_wp2_with fail;refine (d4.out _ _ (M.o.nth 0 rfl)).mono ?_;rintro r w3_ ⟨rfl,hb⟩;replace M:=Hd (M.o.putAt 0 rfl hb);dsimp only [List.set] at M;clear hb;clear k1 k2 k3 k4 k5 k6 k7 k8;go_wp2_with fail;refine (err_any em _ 0 _ (M.o.nth 0 rfl).pc).mono ?_;rintro r w4_ ⟨rfl,rfl⟩;have kc:=(M.o.nth 3 rfl).2.1;have kf:=(M.o.nth 3 rfl).2.2;replace M:=Hd (M.o.set2 3 rfl ml mh);dsimp only [List.set] at M;go_wp2;obtain⟨f1,f2⟩:=(M.o.nth 3 rfl).two;exact bodyPost_ret (v:=.tuple #[.agg #[.float .f64 ml,.float .f64 mh],.int .i64 em]) (by simp [results,Tryz.results186,go_sem,f1,f2]) rfl ⟨rfl,M.o.base⟩
def pyMargJ1 (w:World) (al g0 g1 g2 g3 g4 g5 g6 g7:Nat) (eg:Int) (l:RowL) (a0:Act) (k:Nat) (p:List (Option Nat)) (a:Act) (v:World):Prop:=
 ∃ y1 y2 y3 y4 y5 z1:Value,a=((((((a0.put (some 19) y1).put (some 20) y2).put (some 14) y3).put (some 21) y4).put (some 22) y5).put (some 10) z1)∧(0 < k→y1 = .agg #[al,al])∧(1 < k→y2 = .tuple #[.agg #[g0,g1,g2,g3,g4,g5,g6,g7],.int .i64 eg])∧(2 < k→y3 = .tuple #[.agg #[g0,g1,g2,g3,g4,g5,g6,g7],.int .i64 eg])∧(3 < k→y4 = .agg #[g0,g1,g2,g3,g4,g5,g6,g7])∧(4 < k→y5 = .int .i64 eg)∧(∀ q,p[0]? = some (some q)→z1 = .pointer (some ⟨q,0,none⟩))∧OwnF w l [#[(),(),(),(),(),(),(),()]] p v
section
variable {w v:World} {al g0 g1 g2 g3 g4 g5 g6 g7:Nat} {eg:Int} {l:RowL} {a0 a:Act} {p:List (Option Nat)}
theorem pyMargJ1_0 (h:pyMargJ1 w al g0 g1 g2 g3 g4 g5 g6 g7 eg l a0 0 p a v):∃ y1 y2 y3 y4 y5 z1:Value,a=((((((a0.put (some 19) y1).put (some 20) y2).put (some 14) y3).put (some 21) y4).put (some 22) y5).put (some 10) z1)∧(∀ q,p[0]? = some (some q)→z1 = .pointer (some ⟨q,0,none⟩))∧OwnF w l [#[(),(),(),(),(),(),(),()]] p v:=by
 obtain⟨y1,y2,y3,y4,y5,z1,ha,E1,E2,E3,E4,E5,G1,h⟩:=h;exact ⟨y1,y2,y3,y4,y5,z1,ha,G1,h⟩
theorem pyMargJ1_1 (h:pyMargJ1 w al g0 g1 g2 g3 g4 g5 g6 g7 eg l a0 1 p a v):∃ y2 y3 y4 y5 z1:Value,a=((((((a0.put (some 19) (.agg #[al,al])).put (some 20) y2).put (some 14) y3).put (some 21) y4).put (some 22) y5).put (some 10) z1)∧(∀ q,p[0]? = some (some q)→z1 = .pointer (some ⟨q,0,none⟩))∧OwnF w l [#[(),(),(),(),(),(),(),()]] p v:=by
 obtain⟨y1,y2,y3,y4,y5,z1,ha,E1,E2,E3,E4,E5,G1,h⟩:=h;obtain rfl:=E1 (by decide);exact ⟨y2,y3,y4,y5,z1,ha,G1,h⟩
theorem pyMargJ1_2 (h:pyMargJ1 w al g0 g1 g2 g3 g4 g5 g6 g7 eg l a0 2 p a v):∃ y3 y4 y5 z1:Value,a=((((((a0.put (some 19) (.agg #[al,al])).put (some 20) (.tuple #[.agg #[g0,g1,g2,g3,g4,g5,g6,g7],.int .i64 eg])).put (some 14) y3).put (some 21) y4).put (some 22) y5).put (some 10) z1)∧(∀ q,p[0]? = some (some q)→z1 = .pointer (some ⟨q,0,none⟩))∧OwnF w l [#[(),(),(),(),(),(),(),()]] p v:=by
 obtain⟨y1,y2,y3,y4,y5,z1,ha,E1,E2,E3,E4,E5,G1,h⟩:=h;obtain rfl:=E1 (by decide);obtain rfl:=E2 (by decide);exact ⟨y3,y4,y5,z1,ha,G1,h⟩
theorem pyMargJ1_3 (h:pyMargJ1 w al g0 g1 g2 g3 g4 g5 g6 g7 eg l a0 3 p a v):∃ y4 y5 z1:Value,a=((((((a0.put (some 19) (.agg #[al,al])).put (some 20) (.tuple #[.agg #[g0,g1,g2,g3,g4,g5,g6,g7],.int .i64 eg])).put (some 14) (.tuple #[.agg #[g0,g1,g2,g3,g4,g5,g6,g7],.int .i64 eg])).put (some 21) y4).put (some 22) y5).put (some 10) z1)∧(∀ q,p[0]? = some (some q)→z1 = .pointer (some ⟨q,0,none⟩))∧OwnF w l [#[(),(),(),(),(),(),(),()]] p v:=by
 obtain⟨y1,y2,y3,y4,y5,z1,ha,E1,E2,E3,E4,E5,G1,h⟩:=h;obtain rfl:=E1 (by decide);obtain rfl:=E2 (by decide);obtain rfl:=E3 (by decide);exact ⟨y4,y5,z1,ha,G1,h⟩
theorem pyMargJ1_4 (h:pyMargJ1 w al g0 g1 g2 g3 g4 g5 g6 g7 eg l a0 4 p a v):∃ y5 z1:Value,a=((((((a0.put (some 19) (.agg #[al,al])).put (some 20) (.tuple #[.agg #[g0,g1,g2,g3,g4,g5,g6,g7],.int .i64 eg])).put (some 14) (.tuple #[.agg #[g0,g1,g2,g3,g4,g5,g6,g7],.int .i64 eg])).put (some 21) (.agg #[g0,g1,g2,g3,g4,g5,g6,g7])).put (some 22) y5).put (some 10) z1)∧(∀ q,p[0]? = some (some q)→z1 = .pointer (some ⟨q,0,none⟩))∧OwnF w l [#[(),(),(),(),(),(),(),()]] p v:=by
 obtain⟨y1,y2,y3,y4,y5,z1,ha,E1,E2,E3,E4,E5,G1,h⟩:=h;obtain rfl:=E1 (by decide);obtain rfl:=E2 (by decide);obtain rfl:=E3 (by decide);obtain rfl:=E4 (by decide);exact ⟨y5,z1,ha,G1,h⟩
theorem pyMargJ1_fin {q1:Nat} (h:pyMargJ1 w al g0 g1 g2 g3 g4 g5 g6 g7 eg l a0 5 [some q1] a v):a=((((((a0.put (some 19) (.agg #[al,al])).put (some 20) (.tuple #[.agg #[g0,g1,g2,g3,g4,g5,g6,g7],.int .i64 eg])).put (some 14) (.tuple #[.agg #[g0,g1,g2,g3,g4,g5,g6,g7],.int .i64 eg])).put (some 21) (.agg #[g0,g1,g2,g3,g4,g5,g6,g7])).put (some 22) (.int .i64 eg)).put (some 10) (.pointer (some ⟨q1,0,none⟩)))∧OwnF w l [#[(),(),(),(),(),(),(),()]] [some q1] v:=by
 obtain⟨y1,y2,y3,y4,y5,z1,ha,E1,E2,E3,E4,E5,G1,h⟩:=h;obtain rfl:=E1 (by decide);obtain rfl:=E2 (by decide);obtain rfl:=E3 (by decide);obtain rfl:=E4 (by decide);obtain rfl:=E5 (by decide);obtain rfl:=G1 _ rfl;exact ⟨ha,h⟩
end
theorem mirM_arg {al p0 p1 p2 q0 q1 q2 i0 i1 i2 i3 i4 i5 o0 o1 o2 o3 o4 o5 g0 g1 g2 g3 g4 g5 g6 g7:Nat} {eg:Int} (w:World) (p q:Nat)
  (c2:CH 189 #[.agg #[i0,i1,i2,i3,i4,i5],.agg #[o0,o1,o2,o3,o4,o5],.agg #[al,al]] (.tuple #[.agg #[g0,g1,g2,g3,g4,g5,g6,g7],.int .i64 eg]))
  (hne:(eg != 0)=true) :
  Calls Tryz.prog 186 #[.agg #[.int .u8 4,(),(),(),(),(),(),p0,p1,p2,q0,q1,q2,(),al,(),(),true,true],.agg #[i0,i1,i2,i3,i4,i5],.agg #[o0,o1,o2,o3,o4,o5],.func (.func 190) #[] #[.pointer (some ⟨p,0,none⟩),.pointer (some ⟨q,0,none⟩)]] w (Rt (.tuple #[.agg #[(),()],.int .i64 eg]) w):=by
 have M:=Hd (((((Own.nil w).made #[.int .u8 4,(),(),(),(),(),(),p0,p1,p2,q0,q1,q2,(),al,(),(),true,true] 66).made #[i0,i1,i2,i3,i4,i5] 33).made #[o0,o1,o2,o3,o4,o5] 33).made #[(),()] 31);simp only [World.size_alloc] at M;have eqF:=eq_floats;go_enter Tryz.func186,Tryz.ntmps186;go_upto_region 1 with fail;replace M:=Hd M.o.drew;revert M;generalize ((((w.alloc (.cells #[.int .u8 4,(),(),(),(),(),(),p0,p1,p2,q0,q1,q2,(),al,(),(),true,true] 66)).alloc (.cells #[i0,i1,i2,i3,i4,i5] 33)).alloc (.cells #[o0,o1,o2,o3,o4,o5] 33)).alloc (.cells #[(),()] 31))=W0_;intro M;refine wp_region_noPanic ?_;refine tails_region (S:=fun w'=>(Cf w' (w.heap.size+1) 0 i0∧Cf w' (w.heap.size+1) 1 i1∧Cf w' (w.heap.size+1) 2 i2∧Cf w' (w.heap.size+1) 3 i3∧Cf w' (w.heap.size+1) 4 i4∧Cf w' (w.heap.size+1) 5 i5)∧(Cf w' (w.heap.size+1+1) 0 o0∧Cf w' (w.heap.size+1+1) 1 o1∧Cf w' (w.heap.size+1+1) 2 o2∧Cf w' (w.heap.size+1+1) 3 o3∧Cf w' (w.heap.size+1+1) 4 o4∧Cf w' (w.heap.size+1+1) 5 o5)∧(Cf w' w.heap.size 14 al)) [] (by kernel_rfl) ?_ (fun hS=>?_)
 ·exact ⟨(M.o.nth 2 rfl).six,(M.o.nth 1 rfl).six,((M.o.nth 3 rfl).get 14 al rfl)⟩
 refine tq 0 hS ?_;refine tq 1 hS ?_;refine tq 2 hS ?_;refine tq 3 hS ?_
 conv=>arg 9; simp only [Act.put,go_sem]
 refine lp_ccppp_1 M 4 5 6 7 8 9 [19,20,14,21,22,10] 2 (pyMargJ1 w al g0 g1 g2 g3 g4 g5 g6 g7 eg) (by kernel_rfl) (by kernel_rfl) ?_ ?_ ?_ ?_ ?_ ?_ ?_ ?_ ?_
 ·intro A hA
  obtain⟨y1,hq1⟩:=put_ex (hA 19 (by simp));obtain⟨y2,hq2⟩:=put_ex (hA 20 (by simp));obtain⟨y3,hq3⟩:=put_ex (hA 14 (by simp));obtain⟨y4,hq4⟩:=put_ex (hA 21 (by simp));obtain⟨y5,hq5⟩:=put_ex (hA 22 (by simp));obtain⟨z1,hq6⟩:=put_ex (hA 10 (by simp));exact ⟨y1,y2,y3,y4,y5,z1,by rw [hq1,hq2,hq3,hq4,hq5,hq6],by omega,by omega,by omega,by omega,by omega,by simp,OwnF.start M.out 1⟩
 ·rintro k p a v ⟨y1,y2,y3,y4,y5,z1,_,_,_,_,_,_,_,h⟩
  exact ⟨(h.own.nth 2 rfl).six,(h.own.nth 1 rfl).six,((h.own.nth 3 rfl).get 14 al rfl)⟩
 ·intro p a v hJ
  refine os fun K hK=>?_
  obtain⟨y1,y2,y3,y4,y5,z1,ha,gg1,h⟩:=pyMargJ1_0 hJ;have h:=Hd h;clear hJ;subst ha;go_simp;refine (psingle_any al _).mono ?_;rintro rr w5 ⟨rfl,hp⟩
  try go_wp2_with fail
  refine hK.out _ _ ⟨_,y2,y3,y4,y5,z1,?_,fun _=>rfl,by omega,by omega,by omega,by omega,gg1,h.out.below hp⟩;kernel_rfl
 ·intro p a v hJ
  refine os fun K hK=>?_
  obtain⟨y2,y3,y4,y5,z1,ha,gg1,h⟩:=pyMargJ1_1 hJ;have h:=Hd h;clear hJ;subst ha;go_simp;refine (c2.out _).mono ?_;rintro rr w5 ⟨rfl,hp⟩
  try go_wp2_with fail
  refine hK.out _ _ ⟨_,_,y3,y4,y5,z1,?_,fun _=>rfl,fun _=>rfl,by omega,by omega,by omega,gg1,h.out.below hp⟩;kernel_rfl
 ·intro p a v hJ
  replace hJ:=pyMargJ1_2 hJ;refine Exists.elim hJ (fun y3 hJ=>?_);refine Exists.elim hJ (fun y4 hJ=>?_);refine Exists.elim hJ (fun y5 hJ=>?_);refine Exists.elim hJ (fun z1 hJ=>?_);have ha:=hJ.1;have gg1:=hJ.2.1;have h:=hJ.2.2;clear hJ;subst ha;refine ⟨_,.tuple #[.agg #[g0,g1,g2,g3,g4,g5,g6,g7],.int .i64 eg],rfl,Or.inl ⟨by kernel_rfl,?_⟩,(fun _ _ _ h=>h),_,_,_,y4,y5,z1,?_,fun _=>rfl,fun _=>rfl,fun _=>rfl,by omega,by omega,gg1,h⟩
  ·intro w hSw; clear hSw h; go_simp; try with_reducible rfl
  ·kernel_rfl
 ·intro p a v hJ
  replace hJ:=pyMargJ1_3 hJ;refine Exists.elim hJ (fun y4 hJ=>?_);refine Exists.elim hJ (fun y5 hJ=>?_);refine Exists.elim hJ (fun z1 hJ=>?_);have ha:=hJ.1;have gg1:=hJ.2.1;have h:=hJ.2.2;clear hJ;subst ha;refine ⟨_,.agg #[g0,g1,g2,g3,g4,g5,g6,g7],rfl,Or.inl ⟨by kernel_rfl,?_⟩,(fun _ _ _ h=>h),_,_,_,_,y5,z1,?_,fun _=>rfl,fun _=>rfl,fun _=>rfl,fun _=>rfl,by omega,gg1,h⟩
  ·intro w hSw; clear hSw h; go_simp; try with_reducible rfl
  ·kernel_rfl
 ·intro p a v hJ
  replace hJ:=pyMargJ1_4 hJ;refine Exists.elim hJ (fun y5 hJ=>?_);refine Exists.elim hJ (fun z1 hJ=>?_);have ha:=hJ.1;have gg1:=hJ.2.1;have h:=hJ.2.2;clear hJ;subst ha;refine ⟨_,.int .i64 eg,rfl,Or.inl ⟨by kernel_rfl,?_⟩,(fun _ _ _ h=>h),_,_,_,_,_,z1,?_,fun _=>rfl,fun _=>rfl,fun _=>rfl,fun _=>rfl,fun _=>rfl,gg1,h⟩
  ·intro w hSw; clear hSw h; go_simp; try with_reducible rfl
  ·kernel_rfl
 ·intro k p a v hp hJ
  refine os fun K hK=>?_
  obtain⟨y1,y2,y3,y4,y5,z1,ha,ee1,ee2,ee3,ee4,ee5,gg1,h⟩:=hJ;have h:=Hd h;subst ha;go_simp;refine hK.out _ _ ⟨v.heap.size,y1,y2,y3,y4,y5,.pointer (some ⟨v.heap.size,0,none⟩),?_,ee1,ee2,ee3,ee4,ee5,fun q hq=>ptr_set hq,h.out.alloc hp rfl _⟩;kernel_rfl
 intro p1_1 a v hJ;obtain⟨rfl,h⟩:=pyMargJ1_fin hJ;clear hJ;replace M:=Hd h.fin1;clear h
 refine tn [] 10 fun K hK=>?_
 have kc:=(M.o.nth 0 rfl).2.1;have kf:=(M.o.nth 0 rfl).2.2;replace M:Hid (Own w [(p1_1,#[g0,g1,g2,g3,g4,g5,g6,g7]),((w.heap.size+1+1+1),#[(),()]),((w.heap.size+1+1),#[o0,o1,o2,o3,o4,o5]),((w.heap.size+1),#[i0,i1,i2,i3,i4,i5]),(w.heap.size,#[.int .u8 4,(),(),(),(),(),(),p0,p1,p2,q0,q1,q2,(),al,(),(),true,true])] _):=Hd (((((((((M.o.setIn 0 rfl 0 (g0:Value)).setIn 0 rfl 1 (g1:Value)).setIn 0 rfl 2 (g2:Value)).setIn 0 rfl 3 (g3:Value)).setIn 0 rfl 4 (g4:Value)).setIn 0 rfl 5 (g5:Value)).setIn 0 rfl 6 (g6:Value)).setIn 0 rfl 7 (g7:Value)).to (by rfl));go_simp;refine hK.out _ _ (Or.inr ⟨(M.o.nth 3 rfl).six,(M.o.nth 2 rfl).six,((M.o.nth 4 rfl).get 14 al rfl)⟩) (fun hHeld=>?_);clear hK K hHeld kc kf
 refine tn [] 11 fun K hK=>?_
 go_simp;refine hK.out _ _ (Or.inr ⟨(M.o.nth 3 rfl).six,(M.o.nth 2 rfl).six,((M.o.nth 4 rfl).get 14 al rfl)⟩) (fun hHeld=>?_);clear hK K hHeld;refine tails_done (by kernel_rfl) ?_ _;refine NoPanic.normal ?_;clear hS;revert M;generalize ((((((((v.setCell ⟨p1_1,0,none⟩ (g0:Value)).setCell ⟨p1_1,1,none⟩ (g1:Value)).setCell ⟨p1_1,2,none⟩ (g2:Value)).setCell ⟨p1_1,3,none⟩ (g3:Value)).setCell ⟨p1_1,4,none⟩ (g4:Value)).setCell ⟨p1_1,5,none⟩ (g5:Value)).setCell ⟨p1_1,6,none⟩ (g6:Value)).setCell ⟨p1_1,7,none⟩ (g7:Value))=W1_;intro M;have kc:=(M.o.nth 1 rfl).2.1;have kf:=(M.o.nth 1 rfl).2.2;replace M:=Hd (M.o.set2 1 rfl (.float .f64 0) (.float .f64 0));dsimp only [List.set] at M;go_wp2;obtain⟨f1,f2⟩:=(M.o.nth 1 rfl).two;exact bodyPost_ret (v:=.tuple #[.agg #[.float .f64 0,.float .f64 0],.int .i64 eg]) (by simp [results,Tryz.results186,go_sem,f1,f2]) rfl ⟨rfl,M.o.base⟩
def pyMbadJ1 (w:World) (al g0 g1 g2 g3 g4 g5 g6 g7:Nat) (l:RowL) (a0:Act) (k:Nat) (p:List (Option Nat)) (a:Act) (v:World):Prop:=
 ∃ y1 y2 y3 y4 y5 z1:Value,a=((((((a0.put (some 19) y1).put (some 20) y2).put (some 14) y3).put (some 21) y4).put (some 22) y5).put (some 10) z1)∧(0 < k→y1 = .agg #[al,al])∧(1 < k→y2 = .tuple #[.agg #[g0,g1,g2,g3,g4,g5,g6,g7],true])∧(2 < k→y3 = .tuple #[.agg #[g0,g1,g2,g3,g4,g5,g6,g7],true])∧(3 < k→y4 = .agg #[g0,g1,g2,g3,g4,g5,g6,g7])∧(4 < k→y5 = .int .i64 0)∧(∀ q,p[0]? = some (some q)→z1 = .pointer (some ⟨q,0,none⟩))∧OwnF w l [#[(),(),(),(),(),(),(),()]] p v
section
variable {w v:World} {al g0 g1 g2 g3 g4 g5 g6 g7:Nat} {l:RowL} {a0 a:Act} {p:List (Option Nat)}
theorem pyMbadJ1_0 (h:pyMbadJ1 w al g0 g1 g2 g3 g4 g5 g6 g7 l a0 0 p a v):∃ y1 y2 y3 y4 y5 z1:Value,a=((((((a0.put (some 19) y1).put (some 20) y2).put (some 14) y3).put (some 21) y4).put (some 22) y5).put (some 10) z1)∧(∀ q,p[0]? = some (some q)→z1 = .pointer (some ⟨q,0,none⟩))∧OwnF w l [#[(),(),(),(),(),(),(),()]] p v:=by
 obtain⟨y1,y2,y3,y4,y5,z1,ha,E1,E2,E3,E4,E5,G1,h⟩:=h;exact ⟨y1,y2,y3,y4,y5,z1,ha,G1,h⟩
theorem pyMbadJ1_1 (h:pyMbadJ1 w al g0 g1 g2 g3 g4 g5 g6 g7 l a0 1 p a v):∃ y2 y3 y4 y5 z1:Value,a=((((((a0.put (some 19) (.agg #[al,al])).put (some 20) y2).put (some 14) y3).put (some 21) y4).put (some 22) y5).put (some 10) z1)∧(∀ q,p[0]? = some (some q)→z1 = .pointer (some ⟨q,0,none⟩))∧OwnF w l [#[(),(),(),(),(),(),(),()]] p v:=by
 obtain⟨y1,y2,y3,y4,y5,z1,ha,E1,E2,E3,E4,E5,G1,h⟩:=h;obtain rfl:=E1 (by decide);exact ⟨y2,y3,y4,y5,z1,ha,G1,h⟩
theorem pyMbadJ1_2 (h:pyMbadJ1 w al g0 g1 g2 g3 g4 g5 g6 g7 l a0 2 p a v):∃ y3 y4 y5 z1:Value,a=((((((a0.put (some 19) (.agg #[al,al])).put (some 20) (.tuple #[.agg #[g0,g1,g2,g3,g4,g5,g6,g7],true])).put (some 14) y3).put (some 21) y4).put (some 22) y5).put (some 10) z1)∧(∀ q,p[0]? = some (some q)→z1 = .pointer (some ⟨q,0,none⟩))∧OwnF w l [#[(),(),(),(),(),(),(),()]] p v:=by
 obtain⟨y1,y2,y3,y4,y5,z1,ha,E1,E2,E3,E4,E5,G1,h⟩:=h;obtain rfl:=E1 (by decide);obtain rfl:=E2 (by decide);exact ⟨y3,y4,y5,z1,ha,G1,h⟩
theorem pyMbadJ1_3 (h:pyMbadJ1 w al g0 g1 g2 g3 g4 g5 g6 g7 l a0 3 p a v):∃ y4 y5 z1:Value,a=((((((a0.put (some 19) (.agg #[al,al])).put (some 20) (.tuple #[.agg #[g0,g1,g2,g3,g4,g5,g6,g7],true])).put (some 14) (.tuple #[.agg #[g0,g1,g2,g3,g4,g5,g6,g7],true])).put (some 21) y4).put (some 22) y5).put (some 10) z1)∧(∀ q,p[0]? = some (some q)→z1 = .pointer (some ⟨q,0,none⟩))∧OwnF w l [#[(),(),(),(),(),(),(),()]] p v:=by
 obtain⟨y1,y2,y3,y4,y5,z1,ha,E1,E2,E3,E4,E5,G1,h⟩:=h;obtain rfl:=E1 (by decide);obtain rfl:=E2 (by decide);obtain rfl:=E3 (by decide);exact ⟨y4,y5,z1,ha,G1,h⟩
theorem pyMbadJ1_4 (h:pyMbadJ1 w al g0 g1 g2 g3 g4 g5 g6 g7 l a0 4 p a v):∃ y5 z1:Value,a=((((((a0.put (some 19) (.agg #[al,al])).put (some 20) (.tuple #[.agg #[g0,g1,g2,g3,g4,g5,g6,g7],true])).put (some 14) (.tuple #[.agg #[g0,g1,g2,g3,g4,g5,g6,g7],true])).put (some 21) (.agg #[g0,g1,g2,g3,g4,g5,g6,g7])).put (some 22) y5).put (some 10) z1)∧(∀ q,p[0]? = some (some q)→z1 = .pointer (some ⟨q,0,none⟩))∧OwnF w l [#[(),(),(),(),(),(),(),()]] p v:=by
 obtain⟨y1,y2,y3,y4,y5,z1,ha,E1,E2,E3,E4,E5,G1,h⟩:=h;obtain rfl:=E1 (by decide);obtain rfl:=E2 (by decide);obtain rfl:=E3 (by decide);obtain rfl:=E4 (by decide);exact ⟨y5,z1,ha,G1,h⟩
theorem pyMbadJ1_fin {q1:Nat} (h:pyMbadJ1 w al g0 g1 g2 g3 g4 g5 g6 g7 l a0 5 [some q1] a v):a=((((((a0.put (some 19) (.agg #[al,al])).put (some 20) (.tuple #[.agg #[g0,g1,g2,g3,g4,g5,g6,g7],true])).put (some 14) (.tuple #[.agg #[g0,g1,g2,g3,g4,g5,g6,g7],true])).put (some 21) (.agg #[g0,g1,g2,g3,g4,g5,g6,g7])).put (some 22) (.int .i64 0)).put (some 10) (.pointer (some ⟨q1,0,none⟩)))∧OwnF w l [#[(),(),(),(),(),(),(),()]] [some q1] v:=by
 obtain⟨y1,y2,y3,y4,y5,z1,ha,E1,E2,E3,E4,E5,G1,h⟩:=h;obtain rfl:=E1 (by decide);obtain rfl:=E2 (by decide);obtain rfl:=E3 (by decide);obtain rfl:=E4 (by decide);obtain rfl:=E5 (by decide);obtain rfl:=G1 _ rfl;exact ⟨ha,h⟩
end
theorem mirM_bad {al p0 p1 p2 q0 q1 q2 i0 i1 i2 i3 i4 i5 o0 o1 o2 o3 o4 o5 g0 g1 g2 g3 g4 g5 g6 g7 zl zh:Nat} {ez ch:Int} (w:World) (p:Nat) (hP:Hid (Has1 w (p,#[.int .u8 4,(),(),(),(),(),(),p0,p1,p2,q0,q1,q2,(),al,(),(),true,true]))) (q:Nat) (hQ:Hid (Has1 w (q,#[.int .i64 ch])))
  (c2:CH 189 #[.agg #[i0,i1,i2,i3,i4,i5],.agg #[o0,o1,o2,o3,o4,o5],.agg #[al,al]] (.tuple #[.agg #[g0,g1,g2,g3,g4,g5,g6,g7],true]))
  (c3:Hid (∀ v,Has1 v (p,#[.int .u8 4,(),(),(),(),(),(),p0,p1,p2,q0,q1,q2,(),al,(),(),true,true])→Has1 v (q,#[.int .i64 ch])→Calls Tryz.prog 190 #[.agg #[g2,g3],.pointer (some ⟨p,0,none⟩),.pointer (some ⟨q,0,none⟩)] v (Rt (.tuple #[.agg #[zl,zh],.int .i64 ez]) v)))
  (hne:(ez != 0)=true) :
  Calls Tryz.prog 186 #[.agg #[.int .u8 4,(),(),(),(),(),(),p0,p1,p2,q0,q1,q2,(),al,(),(),true,true],.agg #[i0,i1,i2,i3,i4,i5],.agg #[o0,o1,o2,o3,o4,o5],.func (.func 190) #[] #[.pointer (some ⟨p,0,none⟩),.pointer (some ⟨q,0,none⟩)]] w (Rt (.tuple #[.agg #[(),()],.int .i64 ez]) w):=by
 have M:=Hd (((((Own.nil w).made #[.int .u8 4,(),(),(),(),(),(),p0,p1,p2,q0,q1,q2,(),al,(),(),true,true] 66).made #[i0,i1,i2,i3,i4,i5] 33).made #[o0,o1,o2,o3,o4,o5] 33).made #[(),()] 31);simp only [World.size_alloc] at M;have eqF:=eq_floats;go_enter Tryz.func186,Tryz.ntmps186;go_upto_region 1 with fail;replace M:=Hd M.o.drew;revert M;generalize ((((w.alloc (.cells #[.int .u8 4,(),(),(),(),(),(),p0,p1,p2,q0,q1,q2,(),al,(),(),true,true] 66)).alloc (.cells #[i0,i1,i2,i3,i4,i5] 33)).alloc (.cells #[o0,o1,o2,o3,o4,o5] 33)).alloc (.cells #[(),()] 31))=W0_;intro M;refine wp_region_noPanic ?_;refine tails_region (S:=fun w'=>(Cf w' (w.heap.size+1) 0 i0∧Cf w' (w.heap.size+1) 1 i1∧Cf w' (w.heap.size+1) 2 i2∧Cf w' (w.heap.size+1) 3 i3∧Cf w' (w.heap.size+1) 4 i4∧Cf w' (w.heap.size+1) 5 i5)∧(Cf w' (w.heap.size+1+1) 0 o0∧Cf w' (w.heap.size+1+1) 1 o1∧Cf w' (w.heap.size+1+1) 2 o2∧Cf w' (w.heap.size+1+1) 3 o3∧Cf w' (w.heap.size+1+1) 4 o4∧Cf w' (w.heap.size+1+1) 5 o5)∧(Cf w' w.heap.size 14 al)) [] (by kernel_rfl) ?_ (fun hS=>?_)
 ·exact ⟨(M.o.nth 2 rfl).six,(M.o.nth 1 rfl).six,((M.o.nth 3 rfl).get 14 al rfl)⟩
 refine tq 0 hS ?_;refine tq 1 hS ?_;refine tq 2 hS ?_;refine tq 3 hS ?_
 conv=>arg 9; simp only [Act.put,go_sem]
 refine lp_ccppp_1 M 4 5 6 7 8 9 [19,20,14,21,22,10] 2 (pyMbadJ1 w al g0 g1 g2 g3 g4 g5 g6 g7) (by kernel_rfl) (by kernel_rfl) ?_ ?_ ?_ ?_ ?_ ?_ ?_ ?_ ?_
 ·intro A hA
  obtain⟨y1,hq1⟩:=put_ex (hA 19 (by simp));obtain⟨y2,hq2⟩:=put_ex (hA 20 (by simp));obtain⟨y3,hq3⟩:=put_ex (hA 14 (by simp));obtain⟨y4,hq4⟩:=put_ex (hA 21 (by simp));obtain⟨y5,hq5⟩:=put_ex (hA 22 (by simp));obtain⟨z1,hq6⟩:=put_ex (hA 10 (by simp));exact ⟨y1,y2,y3,y4,y5,z1,by rw [hq1,hq2,hq3,hq4,hq5,hq6],by omega,by omega,by omega,by omega,by omega,by simp,OwnF.start M.out 1⟩
 ·rintro k p a v ⟨y1,y2,y3,y4,y5,z1,_,_,_,_,_,_,_,h⟩
  exact ⟨(h.own.nth 2 rfl).six,(h.own.nth 1 rfl).six,((h.own.nth 3 rfl).get 14 al rfl)⟩
 ·intro p a v hJ
  refine os fun K hK=>?_
  obtain⟨y1,y2,y3,y4,y5,z1,ha,gg1,h⟩:=pyMbadJ1_0 hJ;have h:=Hd h;clear hJ;subst ha;go_simp;refine (psingle_any al _).mono ?_;rintro rr w5 ⟨rfl,hp⟩
  try go_wp2_with fail
  refine hK.out _ _ ⟨_,y2,y3,y4,y5,z1,?_,fun _=>rfl,by omega,by omega,by omega,by omega,gg1,h.out.below hp⟩;kernel_rfl
 ·intro p a v hJ
  refine os fun K hK=>?_
  obtain⟨y2,y3,y4,y5,z1,ha,gg1,h⟩:=pyMbadJ1_1 hJ;have h:=Hd h;clear hJ;subst ha;go_simp;refine (c2.out _).mono ?_;rintro rr w5 ⟨rfl,hp⟩
  try go_wp2_with fail
  refine hK.out _ _ ⟨_,_,y3,y4,y5,z1,?_,fun _=>rfl,fun _=>rfl,by omega,by omega,by omega,gg1,h.out.below hp⟩;kernel_rfl
 ·intro p a v hJ
  replace hJ:=pyMbadJ1_2 hJ;refine Exists.elim hJ (fun y3 hJ=>?_);refine Exists.elim hJ (fun y4 hJ=>?_);refine Exists.elim hJ (fun y5 hJ=>?_);refine Exists.elim hJ (fun z1 hJ=>?_);have ha:=hJ.1;have gg1:=hJ.2.1;have h:=hJ.2.2;clear hJ;subst ha;refine ⟨_,.tuple #[.agg #[g0,g1,g2,g3,g4,g5,g6,g7],true],rfl,Or.inl ⟨by kernel_rfl,?_⟩,(fun _ _ _ h=>h),_,_,_,y4,y5,z1,?_,fun _=>rfl,fun _=>rfl,fun _=>rfl,by omega,by omega,gg1,h⟩
  ·intro w hSw; clear hSw h; go_simp; try with_reducible rfl
  ·kernel_rfl
 ·intro p a v hJ
  replace hJ:=pyMbadJ1_3 hJ;refine Exists.elim hJ (fun y4 hJ=>?_);refine Exists.elim hJ (fun y5 hJ=>?_);refine Exists.elim hJ (fun z1 hJ=>?_);have ha:=hJ.1;have gg1:=hJ.2.1;have h:=hJ.2.2;clear hJ;subst ha;refine ⟨_,.agg #[g0,g1,g2,g3,g4,g5,g6,g7],rfl,Or.inl ⟨by kernel_rfl,?_⟩,(fun _ _ _ h=>h),_,_,_,_,y5,z1,?_,fun _=>rfl,fun _=>rfl,fun _=>rfl,fun _=>rfl,by omega,gg1,h⟩
  ·intro w hSw; clear hSw h; go_simp; try with_reducible rfl
  ·kernel_rfl
 ·intro p a v hJ
  replace hJ:=pyMbadJ1_4 hJ;refine Exists.elim hJ (fun y5 hJ=>?_);refine Exists.elim hJ (fun z1 hJ=>?_);have ha:=hJ.1;have gg1:=hJ.2.1;have h:=hJ.2.2;clear hJ;subst ha;refine ⟨_,.int .i64 0,rfl,Or.inl ⟨by kernel_rfl,?_⟩,(fun _ _ _ h=>h),_,_,_,_,_,z1,?_,fun _=>rfl,fun _=>rfl,fun _=>rfl,fun _=>rfl,fun _=>rfl,gg1,h⟩
  ·intro w hSw; clear hSw h; go_simp; try with_reducible rfl
  ·kernel_rfl
 ·intro k p a v hp hJ
  refine os fun K hK=>?_
  obtain⟨y1,y2,y3,y4,y5,z1,ha,ee1,ee2,ee3,ee4,ee5,gg1,h⟩:=hJ;have h:=Hd h;subst ha;go_simp;refine hK.out _ _ ⟨v.heap.size,y1,y2,y3,y4,y5,.pointer (some ⟨v.heap.size,0,none⟩),?_,ee1,ee2,ee3,ee4,ee5,fun q hq=>ptr_set hq,h.out.alloc hp rfl _⟩;kernel_rfl
 intro p1_1 a v hJ;obtain⟨rfl,h⟩:=pyMbadJ1_fin hJ;clear hJ;replace M:=Hd h.fin1;clear h
 refine tn [] 10 fun K hK=>?_
 have kc:=(M.o.nth 0 rfl).2.1;have kf:=(M.o.nth 0 rfl).2.2;replace M:Hid (Own w [(p1_1,#[g0,g1,g2,g3,g4,g5,g6,g7]),((w.heap.size+1+1+1),#[(),()]),((w.heap.size+1+1),#[o0,o1,o2,o3,o4,o5]),((w.heap.size+1),#[i0,i1,i2,i3,i4,i5]),(w.heap.size,#[.int .u8 4,(),(),(),(),(),(),p0,p1,p2,q0,q1,q2,(),al,(),(),true,true])] _):=Hd (((((((((M.o.setIn 0 rfl 0 (g0:Value)).setIn 0 rfl 1 (g1:Value)).setIn 0 rfl 2 (g2:Value)).setIn 0 rfl 3 (g3:Value)).setIn 0 rfl 4 (g4:Value)).setIn 0 rfl 5 (g5:Value)).setIn 0 rfl 6 (g6:Value)).setIn 0 rfl 7 (g7:Value)).to (by rfl));go_simp;refine hK.out _ _ (Or.inr ⟨(M.o.nth 3 rfl).six,(M.o.nth 2 rfl).six,((M.o.nth 4 rfl).get 14 al rfl)⟩) (fun hHeld=>?_);clear hK K hHeld kc kf
 refine tn [] 11 fun K hK=>?_
 go_simp;refine hK.out _ _ (Or.inr ⟨(M.o.nth 3 rfl).six,(M.o.nth 2 rfl).six,((M.o.nth 4 rfl).get 14 al rfl)⟩) (fun hHeld=>?_);clear hK K hHeld;refine tails_done (by kernel_rfl) ?_ _;refine NoPanic.normal ?_;clear hS;revert M;generalize ((((((((v.setCell ⟨p1_1,0,none⟩ (g0:Value)).setCell ⟨p1_1,1,none⟩ (g1:Value)).setCell ⟨p1_1,2,none⟩ (g2:Value)).setCell ⟨p1_1,3,none⟩ (g3:Value)).setCell ⟨p1_1,4,none⟩ (g4:Value)).setCell ⟨p1_1,5,none⟩ (g5:Value)).setCell ⟨p1_1,6,none⟩ (g6:Value)).setCell ⟨p1_1,7,none⟩ (g7:Value))=W1_;intro M;obtain⟨k1,k2,k3,k4,k5,k6,k7,k8⟩:=(M.o.nth 0 rfl).eight;go_wp2_with fail;refine (c3.out _ (hP.out.below M.o.base) (hQ.out.below M.o.base)).mono ?_;rintro r w2_ ⟨rfl,hb⟩;replace M:=Hd (M.o.below hb);clear hb;clear k1 k2 k3 k4 k5 k6 k7 k8;replace M:=Hd (M.o.made #[zl,zh] 31);have kc:=(M.o.nth 2 rfl).2.1;have kf:=(M.o.nth 2 rfl).2.2;replace M:=Hd (M.o.set2 2 rfl (.float .f64 0) (.float .f64 0))
 dsimp only [List.set] at M;go_wp2;obtain⟨f1,f2⟩:=(M.o.nth 2 rfl).two;exact bodyPost_ret (v:=.tuple #[.agg #[.float .f64 0,.float .f64 0],.int .i64 ez]) (by simp [results,Tryz.results186,go_sem,f1,f2]) rfl ⟨rfl,M.o.base⟩
def pyMokJ1 (w:World) (al g0 g1 g2 g3 g4 g5 g6 g7:Nat) (l:RowL) (a0:Act) (k:Nat) (p:List (Option Nat)) (a:Act) (v:World):Prop:=
 ∃ y1 y2 y3 y4 y5 z1:Value,a=((((((a0.put (some 19) y1).put (some 20) y2).put (some 14) y3).put (some 21) y4).put (some 22) y5).put (some 10) z1)∧(0 < k→y1 = .agg #[al,al])∧(1 < k→y2 = .tuple #[.agg #[g0,g1,g2,g3,g4,g5,g6,g7],true])∧(2 < k→y3 = .tuple #[.agg #[g0,g1,g2,g3,g4,g5,g6,g7],true])∧(3 < k→y4 = .agg #[g0,g1,g2,g3,g4,g5,g6,g7])∧(4 < k→y5 = .int .i64 0)∧(∀ q,p[0]? = some (some q)→z1 = .pointer (some ⟨q,0,none⟩))∧OwnF w l [#[(),(),(),(),(),(),(),()]] p v
section
variable {w v:World} {al g0 g1 g2 g3 g4 g5 g6 g7:Nat} {l:RowL} {a0 a:Act} {p:List (Option Nat)}
theorem pyMokJ1_0 (h:pyMokJ1 w al g0 g1 g2 g3 g4 g5 g6 g7 l a0 0 p a v):∃ y1 y2 y3 y4 y5 z1:Value,a=((((((a0.put (some 19) y1).put (some 20) y2).put (some 14) y3).put (some 21) y4).put (some 22) y5).put (some 10) z1)∧(∀ q,p[0]? = some (some q)→z1 = .pointer (some ⟨q,0,none⟩))∧OwnF w l [#[(),(),(),(),(),(),(),()]] p v:=by
 obtain⟨y1,y2,y3,y4,y5,z1,ha,E1,E2,E3,E4,E5,G1,h⟩:=h;exact ⟨y1,y2,y3,y4,y5,z1,ha,G1,h⟩
theorem pyMokJ1_1 (h:pyMokJ1 w al g0 g1 g2 g3 g4 g5 g6 g7 l a0 1 p a v):∃ y2 y3 y4 y5 z1:Value,a=((((((a0.put (some 19) (.agg #[al,al])).put (some 20) y2).put (some 14) y3).put (some 21) y4).put (some 22) y5).put (some 10) z1)∧(∀ q,p[0]? = some (some q)→z1 = .pointer (some ⟨q,0,none⟩))∧OwnF w l [#[(),(),(),(),(),(),(),()]] p v:=by
 obtain⟨y1,y2,y3,y4,y5,z1,ha,E1,E2,E3,E4,E5,G1,h⟩:=h;obtain rfl:=E1 (by decide);exact ⟨y2,y3,y4,y5,z1,ha,G1,h⟩
theorem pyMokJ1_2 (h:pyMokJ1 w al g0 g1 g2 g3 g4 g5 g6 g7 l a0 2 p a v):∃ y3 y4 y5 z1:Value,a=((((((a0.put (some 19) (.agg #[al,al])).put (some 20) (.tuple #[.agg #[g0,g1,g2,g3,g4,g5,g6,g7],true])).put (some 14) y3).put (some 21) y4).put (some 22) y5).put (some 10) z1)∧(∀ q,p[0]? = some (some q)→z1 = .pointer (some ⟨q,0,none⟩))∧OwnF w l [#[(),(),(),(),(),(),(),()]] p v:=by
 obtain⟨y1,y2,y3,y4,y5,z1,ha,E1,E2,E3,E4,E5,G1,h⟩:=h;obtain rfl:=E1 (by decide);obtain rfl:=E2 (by decide);exact ⟨y3,y4,y5,z1,ha,G1,h⟩
theorem pyMokJ1_3 (h:pyMokJ1 w al g0 g1 g2 g3 g4 g5 g6 g7 l a0 3 p a v):∃ y4 y5 z1:Value,a=((((((a0.put (some 19) (.agg #[al,al])).put (some 20) (.tuple #[.agg #[g0,g1,g2,g3,g4,g5,g6,g7],true])).put (some 14) (.tuple #[.agg #[g0,g1,g2,g3,g4,g5,g6,g7],true])).put (some 21) y4).put (some 22) y5).put (some 10) z1)∧(∀ q,p[0]? = some (some q)→z1 = .pointer (some ⟨q,0,none⟩))∧OwnF w l [#[(),(),(),(),(),(),(),()]] p v:=by
 obtain⟨y1,y2,y3,y4,y5,z1,ha,E1,E2,E3,E4,E5,G1,h⟩:=h;obtain rfl:=E1 (by decide);obtain rfl:=E2 (by decide);obtain rfl:=E3 (by decide);exact ⟨y4,y5,z1,ha,G1,h⟩
theorem pyMokJ1_4 (h:pyMokJ1 w al g0 g1 g2 g3 g4 g5 g6 g7 l a0 4 p a v):∃ y5 z1:Value,a=((((((a0.put (some 19) (.agg #[al,al])).put (some 20) (.tuple #[.agg #[g0,g1,g2,g3,g4,g5,g6,g7],true])).put (some 14) (.tuple #[.agg #[g0,g1,g2,g3,g4,g5,g6,g7],true])).put (some 21) (.agg #[g0,g1,g2,g3,g4,g5,g6,g7])).put (some 22) y5).put (some 10) z1)∧(∀ q,p[0]? = some (some q)→z1 = .pointer (some ⟨q,0,none⟩))∧OwnF w l [#[(),(),(),(),(),(),(),()]] p v:=by
 obtain⟨y1,y2,y3,y4,y5,z1,ha,E1,E2,E3,E4,E5,G1,h⟩:=h;obtain rfl:=E1 (by decide);obtain rfl:=E2 (by decide);obtain rfl:=E3 (by decide);obtain rfl:=E4 (by decide);exact ⟨y5,z1,ha,G1,h⟩
theorem pyMokJ1_fin {q1:Nat} (h:pyMokJ1 w al g0 g1 g2 g3 g4 g5 g6 g7 l a0 5 [some q1] a v):a=((((((a0.put (some 19) (.agg #[al,al])).put (some 20) (.tuple #[.agg #[g0,g1,g2,g3,g4,g5,g6,g7],true])).put (some 14) (.tuple #[.agg #[g0,g1,g2,g3,g4,g5,g6,g7],true])).put (some 21) (.agg #[g0,g1,g2,g3,g4,g5,g6,g7])).put (some 22) (.int .i64 0)).put (some 10) (.pointer (some ⟨q1,0,none⟩)))∧OwnF w l [#[(),(),(),(),(),(),(),()]] [some q1] v:=by
 obtain⟨y1,y2,y3,y4,y5,z1,ha,E1,E2,E3,E4,E5,G1,h⟩:=h;obtain rfl:=E1 (by decide);obtain rfl:=E2 (by decide);obtain rfl:=E3 (by decide);obtain rfl:=E4 (by decide);obtain rfl:=E5 (by decide);obtain rfl:=G1 _ rfl;exact ⟨ha,h⟩
end
theorem mirM_ok {al p0 p1 p2 q0 q1 q2 i0 i1 i2 i3 i4 i5 o0 o1 o2 o3 o4 o5 g0 g1 g2 g3 g4 g5 g6 g7 zl zh ml mh:Nat} {em ch:Int} (w:World) (p:Nat) (hP:Hid (Has1 w (p,#[.int .u8 4,(),(),(),(),(),(),p0,p1,p2,q0,q1,q2,(),al,(),(),true,true]))) (q:Nat) (hQ:Hid (Has1 w (q,#[.int .i64 ch])))
  (c2:CH 189 #[.agg #[i0,i1,i2,i3,i4,i5],.agg #[o0,o1,o2,o3,o4,o5],.agg #[al,al]] (.tuple #[.agg #[g0,g1,g2,g3,g4,g5,g6,g7],true]))
  (c3:Hid (∀ v,Has1 v (p,#[.int .u8 4,(),(),(),(),(),(),p0,p1,p2,q0,q1,q2,(),al,(),(),true,true])→Has1 v (q,#[.int .i64 ch])→Calls Tryz.prog 190 #[.agg #[g2,g3],.pointer (some ⟨p,0,none⟩),.pointer (some ⟨q,0,none⟩)] v (Rt (.tuple #[.agg #[zl,zh],true]) v)))
  (d4:Hid (∀ pb v,Has1 v (pb,#[true])→Calls Tryz.prog 32 #[.pointer (some ⟨pb,0,none⟩),.agg #[g4,g5],.agg #[zl,zh]] v fun r w'=>r = .returned (.agg #[ml,mh])∧Put ⟨pb,0,none⟩ (.int .i64 em) v w')) :
  Calls Tryz.prog 186 #[.agg #[.int .u8 4,(),(),(),(),(),(),p0,p1,p2,q0,q1,q2,(),al,(),(),true,true],.agg #[i0,i1,i2,i3,i4,i5],.agg #[o0,o1,o2,o3,o4,o5],.func (.func 190) #[] #[.pointer (some ⟨p,0,none⟩),.pointer (some ⟨q,0,none⟩)]] w (Rt (.tuple #[.agg #[ml,mh],.int .i64 em]) w):=by
 have M:=Hd (((((Own.nil w).made #[.int .u8 4,(),(),(),(),(),(),p0,p1,p2,q0,q1,q2,(),al,(),(),true,true] 66).made #[i0,i1,i2,i3,i4,i5] 33).made #[o0,o1,o2,o3,o4,o5] 33).made #[(),()] 31);simp only [World.size_alloc] at M;have eqF:=eq_floats;go_enter Tryz.func186,Tryz.ntmps186;go_upto_region 1 with fail;replace M:=Hd M.o.drew;revert M;generalize ((((w.alloc (.cells #[.int .u8 4,(),(),(),(),(),(),p0,p1,p2,q0,q1,q2,(),al,(),(),true,true] 66)).alloc (.cells #[i0,i1,i2,i3,i4,i5] 33)).alloc (.cells #[o0,o1,o2,o3,o4,o5] 33)).alloc (.cells #[(),()] 31))=W0_;intro M;refine wp_region_noPanic ?_;refine tails_region (S:=fun w'=>(Cf w' (w.heap.size+1) 0 i0∧Cf w' (w.heap.size+1) 1 i1∧Cf w' (w.heap.size+1) 2 i2∧Cf w' (w.heap.size+1) 3 i3∧Cf w' (w.heap.size+1) 4 i4∧Cf w' (w.heap.size+1) 5 i5)∧(Cf w' (w.heap.size+1+1) 0 o0∧Cf w' (w.heap.size+1+1) 1 o1∧Cf w' (w.heap.size+1+1) 2 o2∧Cf w' (w.heap.size+1+1) 3 o3∧Cf w' (w.heap.size+1+1) 4 o4∧Cf w' (w.heap.size+1+1) 5 o5)∧(Cf w' w.heap.size 14 al)) [] (by kernel_rfl) ?_ (fun hS=>?_)
 ·exact ⟨(M.o.nth 2 rfl).six,(M.o.nth 1 rfl).six,((M.o.nth 3 rfl).get 14 al rfl)⟩
 refine tq 0 hS ?_;refine tq 1 hS ?_;refine tq 2 hS ?_;refine tq 3 hS ?_
 conv=>arg 9; simp only [Act.put,go_sem]
 refine lp_ccppp_1 M 4 5 6 7 8 9 [19,20,14,21,22,10] 2 (pyMokJ1 w al g0 g1 g2 g3 g4 g5 g6 g7) (by kernel_rfl) (by kernel_rfl) ?_ ?_ ?_ ?_ ?_ ?_ ?_ ?_ ?_
 ·intro A hA
  obtain⟨y1,hq1⟩:=put_ex (hA 19 (by simp));obtain⟨y2,hq2⟩:=put_ex (hA 20 (by simp));obtain⟨y3,hq3⟩:=put_ex (hA 14 (by simp));obtain⟨y4,hq4⟩:=put_ex (hA 21 (by simp));obtain⟨y5,hq5⟩:=put_ex (hA 22 (by simp));obtain⟨z1,hq6⟩:=put_ex (hA 10 (by simp));exact ⟨y1,y2,y3,y4,y5,z1,by rw [hq1,hq2,hq3,hq4,hq5,hq6],by omega,by omega,by omega,by omega,by omega,by simp,OwnF.start M.out 1⟩
 ·rintro k p a v ⟨y1,y2,y3,y4,y5,z1,_,_,_,_,_,_,_,h⟩
  exact ⟨(h.own.nth 2 rfl).six,(h.own.nth 1 rfl).six,((h.own.nth 3 rfl).get 14 al rfl)⟩
 ·intro p a v hJ
  refine os fun K hK=>?_
  obtain⟨y1,y2,y3,y4,y5,z1,ha,gg1,h⟩:=pyMokJ1_0 hJ;have h:=Hd h;clear hJ;subst ha;go_simp;refine (psingle_any al _).mono ?_;rintro rr w5 ⟨rfl,hp⟩
  try go_wp2_with fail
  refine hK.out _ _ ⟨_,y2,y3,y4,y5,z1,?_,fun _=>rfl,by omega,by omega,by omega,by omega,gg1,h.out.below hp⟩;kernel_rfl
 ·intro p a v hJ
  refine os fun K hK=>?_
  obtain⟨y2,y3,y4,y5,z1,ha,gg1,h⟩:=pyMokJ1_1 hJ;have h:=Hd h;clear hJ;subst ha;go_simp;refine (c2.out _).mono ?_;rintro rr w5 ⟨rfl,hp⟩
  try go_wp2_with fail
  refine hK.out _ _ ⟨_,_,y3,y4,y5,z1,?_,fun _=>rfl,fun _=>rfl,by omega,by omega,by omega,gg1,h.out.below hp⟩;kernel_rfl
 ·intro p a v hJ
  replace hJ:=pyMokJ1_2 hJ;refine Exists.elim hJ (fun y3 hJ=>?_);refine Exists.elim hJ (fun y4 hJ=>?_);refine Exists.elim hJ (fun y5 hJ=>?_);refine Exists.elim hJ (fun z1 hJ=>?_);have ha:=hJ.1;have gg1:=hJ.2.1;have h:=hJ.2.2;clear hJ;subst ha;refine ⟨_,.tuple #[.agg #[g0,g1,g2,g3,g4,g5,g6,g7],true],rfl,Or.inl ⟨by kernel_rfl,?_⟩,(fun _ _ _ h=>h),_,_,_,y4,y5,z1,?_,fun _=>rfl,fun _=>rfl,fun _=>rfl,by omega,by omega,gg1,h⟩
  ·intro w hSw; clear hSw h; go_simp; try with_reducible rfl
  ·kernel_rfl
 ·intro p a v hJ
  replace hJ:=pyMokJ1_3 hJ;refine Exists.elim hJ (fun y4 hJ=>?_);refine Exists.elim hJ (fun y5 hJ=>?_);refine Exists.elim hJ (fun z1 hJ=>?_);have ha:=hJ.1;have gg1:=hJ.2.1;have h:=hJ.2.2;clear hJ;subst ha;refine ⟨_,.agg #[g0,g1,g2,g3,g4,g5,g6,g7],rfl,Or.inl ⟨by kernel_rfl,?_⟩,(fun _ _ _ h=>h),_,_,_,_,y5,z1,?_,fun _=>rfl,fun _=>rfl,fun _=>rfl,fun _=>rfl,by omega,gg1,h⟩
  ·intro w hSw; clear hSw h; go_simp; try with_reducible rfl
  ·kernel_rfl
 ·intro p a v hJ
  replace hJ:=pyMokJ1_4 hJ;refine Exists.elim hJ (fun y5 hJ=>?_);refine Exists.elim hJ (fun z1 hJ=>?_);have ha:=hJ.1;have gg1:=hJ.2.1;have h:=hJ.2.2;clear hJ;subst ha;refine ⟨_,.int .i64 0,rfl,Or.inl ⟨by kernel_rfl,?_⟩,(fun _ _ _ h=>h),_,_,_,_,_,z1,?_,fun _=>rfl,fun _=>rfl,fun _=>rfl,fun _=>rfl,fun _=>rfl,gg1,h⟩
  ·intro w hSw; clear hSw h; go_simp; try with_reducible rfl
  ·kernel_rfl
 ·intro k p a v hp hJ
  refine os fun K hK=>?_
  obtain⟨y1,y2,y3,y4,y5,z1,ha,ee1,ee2,ee3,ee4,ee5,gg1,h⟩:=hJ;have h:=Hd h;subst ha;go_simp;refine hK.out _ _ ⟨v.heap.size,y1,y2,y3,y4,y5,.pointer (some ⟨v.heap.size,0,none⟩),?_,ee1,ee2,ee3,ee4,ee5,fun q hq=>ptr_set hq,h.out.alloc hp rfl _⟩;kernel_rfl
 intro p1_1 a v hJ;obtain⟨rfl,h⟩:=pyMokJ1_fin hJ;clear hJ;replace M:=Hd h.fin1;clear h
 refine tn [] 10 fun K hK=>?_
 have kc:=(M.o.nth 0 rfl).2.1;have kf:=(M.o.nth 0 rfl).2.2;replace M:Hid (Own w [(p1_1,#[g0,g1,g2,g3,g4,g5,g6,g7]),((w.heap.size+1+1+1),#[(),()]),((w.heap.size+1+1),#[o0,o1,o2,o3,o4,o5]),((w.heap.size+1),#[i0,i1,i2,i3,i4,i5]),(w.heap.size,#[.int .u8 4,(),(),(),(),(),(),p0,p1,p2,q0,q1,q2,(),al,(),(),true,true])] _):=Hd (((((((((M.o.setIn 0 rfl 0 (g0:Value)).setIn 0 rfl 1 (g1:Value)).setIn 0 rfl 2 (g2:Value)).setIn 0 rfl 3 (g3:Value)).setIn 0 rfl 4 (g4:Value)).setIn 0 rfl 5 (g5:Value)).setIn 0 rfl 6 (g6:Value)).setIn 0 rfl 7 (g7:Value)).to (by rfl));go_simp;refine hK.out _ _ (Or.inr ⟨(M.o.nth 3 rfl).six,(M.o.nth 2 rfl).six,((M.o.nth 4 rfl).get 14 al rfl)⟩) (fun hHeld=>?_);clear hK K hHeld kc kf
 refine tn [] 11 fun K hK=>?_
 go_simp;refine hK.out _ _ (Or.inr ⟨(M.o.nth 3 rfl).six,(M.o.nth 2 rfl).six,((M.o.nth 4 rfl).get 14 al rfl)⟩) (fun hHeld=>?_);clear hK K hHeld;refine tails_done (by kernel_rfl) ?_ _;refine NoPanic.normal ?_;clear hS;revert M;generalize ((((((((v.setCell ⟨p1_1,0,none⟩ (g0:Value)).setCell ⟨p1_1,1,none⟩ (g1:Value)).setCell ⟨p1_1,2,none⟩ (g2:Value)).setCell ⟨p1_1,3,none⟩ (g3:Value)).setCell ⟨p1_1,4,none⟩ (g4:Value)).setCell ⟨p1_1,5,none⟩ (g5:Value)).setCell ⟨p1_1,6,none⟩ (g6:Value)).setCell ⟨p1_1,7,none⟩ (g7:Value))=W1_;intro M;obtain⟨k1,k2,k3,k4,k5,k6,k7,k8⟩:=(M.o.nth 0 rfl).eight;go_wp2_with fail;refine (c3.out _ (hP.out.below M.o.base) (hQ.out.below M.o.base)).mono ?_;rintro r w2_ ⟨rfl,hb⟩;replace M:=Hd (M.o.below hb);clear hb;clear k1 k2 k3 k4 k5 k6 k7 k8;replace M:=Hd (M.o.made #[zl,zh] 31);replace M:=Hd (M.o.made #[true] 74);simp only [World.size_alloc] at M;obtain⟨k1,k2,k3,k4,k5,k6,k7,k8⟩:=(M.o.nth 2 rfl).eight
 go_wp2_with fail;refine (d4.out _ _ (M.o.nth 0 rfl)).mono ?_;rintro r w3_ ⟨rfl,hb⟩;replace M:=Hd (M.o.putAt 0 rfl hb);dsimp only [List.set] at M;clear hb;clear k1 k2 k3 k4 k5 k6 k7 k8;go_wp2_with fail;refine (err_any em _ 0 _ (M.o.nth 0 rfl).pc).mono ?_;rintro r w4_ ⟨rfl,rfl⟩;have kc:=(M.o.nth 3 rfl).2.1;have kf:=(M.o.nth 3 rfl).2.2;replace M:=Hd (M.o.set2 3 rfl ml mh);dsimp only [List.set] at M;go_wp2;obtain⟨f1,f2⟩:=(M.o.nth 3 rfl).two;exact bodyPost_ret (v:=.tuple #[.agg #[.float .f64 ml,.float .f64 mh],.int .i64 em]) (by simp [results,Tryz.results186,go_sem,f1,f2]) rfl ⟨rfl,M.o.base⟩
end
end Go.Proofs.YtnaomilkgfkegaaGreat
