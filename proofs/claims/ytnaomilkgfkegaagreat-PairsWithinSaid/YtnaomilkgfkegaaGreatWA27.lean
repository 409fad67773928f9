/- What the claim stands on, part 28: MiA. -/
import Derived.Test.YtnaomilkgfkegaaGreatWA16
import Derived.Deep.RegionHeld3
set_option maxHeartbeats 16000000
set_option maxRecDepth 100000
namespace Go.Proofs.YtnaomilkgfkegaaGreat
section
open Go.RowKit
attribute [local go_sem] run_store_float
section
variable {P:Program} {ops:Array Oper} {Q:Exit→Act→World→Prop} {md:Region.Mode} {S:World→Prop}
theorem lpx_ccc_1 {a0:Act} {B v:World} {l:List (Nat×Array Value)} {x:Nat×Array Value} (_:Hid (Own B (x :: l) v)) {w0:World} {L0:Array Bool} (c1 c2 c3 m1:Nat) (slots:List Nat) (N:Nat) (J:List (Nat×Array Value)→Act→Nat→List (Option Nat)→Act→World→Prop) (hok:latOkP [false,false,false] md ops L0 [c1,c2,c3] [m1]=true)
  (hsl:(slots.all fun s=>decide (s < a0.tmps.size))=true) (h0:∀ A:Act,(∀ s,s∈slots→s < A.tmps.size)→J l A 0 (List.replicate 1 none) A w0)
  (hS:∀ k p a w,J l a0 k p a w→S w)
  (k1:∀ p a w,J l a0 0 p a w→wpOp P ops Q c1 (fun b v=>J l a0 1 p b v) a w)
  (k2:∀ p a w,J l a0 1 p a w→wpOp P ops Q c2 (fun b v=>J l a0 2 p b v) a w)
  (k3:∀ p a w,J l a0 2 p a w→wpOp P ops Q c3 (fun b v=>J l a0 3 p b v) a w)
  (n1:∀ k p a w,p[0]? = some none→J l a0 k p a w→wpOp P ops Q m1 (fun b v=>∃ q,J l a0 k (p.set 0 (some q)) b v) a w)
  (fin:∀ q1 a w,J l a0 3 [some q1] a w→wpAnyV P md ops Q S [] N (lstOf L0 [c1,c2,c3] [m1] 3 [true]) a w) :
  wpAnyV P md ops Q S [] (N+4) L0 a0 w0:=by
 refine latP_from (pl:=[false,false,false]) [c1,c2,c3] [m1] slots N 4 (J l) hok rfl hsl h0 hS (fun k i p a w hk hn hJ=>?_) (fun k i p a w hk hn hJ=>?_) (fun k m i p a w hm hp hJ=>?_) (fun p a w hp hall hJ=>?_)
 ·rcases k with _ | _ | _ | k
  ·obtain rfl:c1=i:=by simpa using hk
   exact k1 p a w hJ
  ·obtain rfl:c2=i:=by simpa using hk
   exact k2 p a w hJ
  ·obtain rfl:c3=i:=by simpa using hk
   exact k3 p a w hJ
  ·simp at hk
 ·rcases k with _ | _ | _ | k
  ·exact absurd hn (by decide)
  ·exact absurd hn (by decide)
  ·exact absurd hn (by decide)
  ·simp at hk
 ·rcases m with _ | m
  ·obtain rfl:m1=i:=by simpa using hm
   exact n1 k p a w hp hJ
  ·simp at hm
 ·obtain⟨q1,rfl⟩:=fin_one hp hall
  exact fin q1 a w hJ
theorem lpx_cccc_1 {a0:Act} {B v:World} {l:List (Nat×Array Value)} {x:Nat×Array Value} (_:Hid (Own B (x :: l) v)) {w0:World} {L0:Array Bool} (c1 c2 c3 c4 m1:Nat) (slots:List Nat) (N:Nat) (J:List (Nat×Array Value)→Act→Nat→List (Option Nat)→Act→World→Prop) (hok:latOkP [false,false,false,false] md ops L0 [c1,c2,c3,c4] [m1]=true)
  (hsl:(slots.all fun s=>decide (s < a0.tmps.size))=true) (h0:∀ A:Act,(∀ s,s∈slots→s < A.tmps.size)→J l A 0 (List.replicate 1 none) A w0)
  (hS:∀ k p a w,J l a0 k p a w→S w)
  (k1:∀ p a w,J l a0 0 p a w→wpOp P ops Q c1 (fun b v=>J l a0 1 p b v) a w)
  (k2:∀ p a w,J l a0 1 p a w→wpOp P ops Q c2 (fun b v=>J l a0 2 p b v) a w)
  (k3:∀ p a w,J l a0 2 p a w→wpOp P ops Q c3 (fun b v=>J l a0 3 p b v) a w)
  (k4:∀ p a w,J l a0 3 p a w→wpOp P ops Q c4 (fun b v=>J l a0 4 p b v) a w)
  (n1:∀ k p a w,p[0]? = some none→J l a0 k p a w→wpOp P ops Q m1 (fun b v=>∃ q,J l a0 k (p.set 0 (some q)) b v) a w)
  (fin:∀ q1 a w,J l a0 4 [some q1] a w→wpAnyV P md ops Q S [] N (lstOf L0 [c1,c2,c3,c4] [m1] 4 [true]) a w) :
  wpAnyV P md ops Q S [] (N+5) L0 a0 w0:=by
 refine latP_from (pl:=[false,false,false,false]) [c1,c2,c3,c4] [m1] slots N 5 (J l) hok rfl hsl h0 hS (fun k i p a w hk hn hJ=>?_) (fun k i p a w hk hn hJ=>?_) (fun k m i p a w hm hp hJ=>?_) (fun p a w hp hall hJ=>?_)
 ·rcases k with _ | _ | _ | _ | k
  ·obtain rfl:c1=i:=by simpa using hk
   exact k1 p a w hJ
  ·obtain rfl:c2=i:=by simpa using hk
   exact k2 p a w hJ
  ·obtain rfl:c3=i:=by simpa using hk
   exact k3 p a w hJ
  ·obtain rfl:c4=i:=by simpa using hk
   exact k4 p a w hJ
  ·simp at hk
 ·rcases k with _ | _ | _ | _ | k
  ·exact absurd hn (by decide)
  ·exact absurd hn (by decide)
  ·exact absurd hn (by decide)
  ·exact absurd hn (by decide)
  ·simp at hk
 ·rcases m with _ | m
  ·obtain rfl:m1=i:=by simpa using hm
   exact n1 k p a w hp hJ
  ·simp at hm
 ·obtain⟨q1,rfl⟩:=fin_one hp hall
  exact fin q1 a w hJ
end
theorem mclamped_walk {xl xh yl zl yh zh:Nat} (w:World)
  (m_yl:(∀ ts t w,(Builtin.max_ ts t #[xl,()]).run Tryz.prog w = .ok (yl:Value) w))
  (m_zl:(∀ ts t w,(Builtin.min_ ts t #[yl,(4607182418800017408:Nat)]).run Tryz.prog w = .ok (zl:Value) w))
  (m_yh:(∀ ts t w,(Builtin.max_ ts t #[xh,()]).run Tryz.prog w = .ok (yh:Value) w))
  (m_zh:(∀ ts t w,(Builtin.min_ ts t #[yh,(4607182418800017408:Nat)]).run Tryz.prog w = .ok (zh:Value) w)) :
  Calls Tryz.prog 217 #[.agg #[xl,xh]] w (Rt (.agg #[zl,zh]) w):=by
 have M:=Hd (((Own.nil w).made #[xl,xh] 31).made #[zl,zh] 31);simp only [World.size_alloc] at M;have eqF:=eq_floats;go_enter Tryz.func217,Tryz.ntmps217;obtain⟨k3,k4⟩:=(M.o.nth 1 rfl).two;go_wp2;obtain⟨f1,f2⟩:=(M.o.nth 0 rfl).two;exact bodyPost_ret (v:=.agg #[.float .f64 zl,.float .f64 zh]) (by simp [results,Tryz.results217,go_sem,f1,f2]) rfl ⟨rfl,M.o.base⟩
def mhokJ7 (w:World) (pb:Nat) (ul uh ml mh cl ch:Nat) (ek:Nat→Int) (l:RowL) (a0:Act) (k:Nat) (p:List (Option Nat)) (a:Act) (v:World):Prop:=
 ∃ y1 y2 y3 z1:Value,a=((((a0.put (some 28) y1).put (some 30) y2).put (some 31) y3).put (some 11) z1)∧(0 < k→y1 = .agg #[ul,uh])∧(1 < k→y2 = .agg #[ml,mh])∧(2 < k→y3 = .agg #[cl,ch])∧(∀ q,p[0]? = some (some q)→z1 = .pointer (some ⟨q,0,none⟩))∧OwnF w ((pb,#[.int .i64 (ek k)]) :: l) [#[(),()]] p v
section
variable {w v:World} {pb:Nat} {ul uh ml mh cl ch:Nat} {ek:Nat→Int} {l:RowL} {a0 a:Act} {p:List (Option Nat)}
theorem mhokJ7_0 (h:mhokJ7 w pb ul uh ml mh cl ch ek l a0 0 p a v):∃ y1 y2 y3 z1:Value,a=((((a0.put (some 28) y1).put (some 30) y2).put (some 31) y3).put (some 11) z1)∧(∀ q,p[0]? = some (some q)→z1 = .pointer (some ⟨q,0,none⟩))∧OwnF w ((pb,#[.int .i64 (ek 0)]) :: l) [#[(),()]] p v:=by
 obtain⟨y1,y2,y3,z1,ha,E1,E2,E3,G1,h⟩:=h;exact ⟨y1,y2,y3,z1,ha,G1,h⟩
theorem mhokJ7_1 (h:mhokJ7 w pb ul uh ml mh cl ch ek l a0 1 p a v):∃ y2 y3 z1:Value,a=((((a0.put (some 28) (.agg #[ul,uh])).put (some 30) y2).put (some 31) y3).put (some 11) z1)∧(∀ q,p[0]? = some (some q)→z1 = .pointer (some ⟨q,0,none⟩))∧OwnF w ((pb,#[.int .i64 (ek 1)]) :: l) [#[(),()]] p v:=by
 obtain⟨y1,y2,y3,z1,ha,E1,E2,E3,G1,h⟩:=h;obtain rfl:=E1 (by decide);exact ⟨y2,y3,z1,ha,G1,h⟩
theorem mhokJ7_2 (h:mhokJ7 w pb ul uh ml mh cl ch ek l a0 2 p a v):∃ y3 z1:Value,a=((((a0.put (some 28) (.agg #[ul,uh])).put (some 30) (.agg #[ml,mh])).put (some 31) y3).put (some 11) z1)∧(∀ q,p[0]? = some (some q)→z1 = .pointer (some ⟨q,0,none⟩))∧OwnF w ((pb,#[.int .i64 (ek 2)]) :: l) [#[(),()]] p v:=by
 obtain⟨y1,y2,y3,z1,ha,E1,E2,E3,G1,h⟩:=h;obtain rfl:=E1 (by decide);obtain rfl:=E2 (by decide);exact ⟨y3,z1,ha,G1,h⟩
theorem mhokJ7_fin {q1:Nat} (h:mhokJ7 w pb ul uh ml mh cl ch ek l a0 3 [some q1] a v):a=((((a0.put (some 28) (.agg #[ul,uh])).put (some 30) (.agg #[ml,mh])).put (some 31) (.agg #[cl,ch])).put (some 11) (.pointer (some ⟨q1,0,none⟩)))∧OwnF w ((pb,#[.int .i64 (ek 3)]) :: l) [#[(),()]] [some q1] v:=by
 obtain⟨y1,y2,y3,z1,ha,E1,E2,E3,G1,h⟩:=h;obtain rfl:=E1 (by decide);obtain rfl:=E2 (by decide);obtain rfl:=E3 (by decide);obtain rfl:=G1 _ rfl;exact ⟨ha,h⟩
end
theorem mhalf {X:Value} {i0 i1 i2 i3 i4 i5 o0 o1 o2 o3 o4 o5 s0 s1 s2 s3 s4 s5 nl nh ul uh ml mh cl ch kl kh dl dh:Nat} {er1 er2 er3 er4 er5:Int} {G:Array Value→World→Prop} (w:World)
  (cA:Hid (∀ (w:World),Calls Tryz.prog 204 #[.agg #[i0,i1,i2,i3,i4,i5],.agg #[o0,o1,o2,o3,o4,o5],.slice none 0 0] w fun r w'=>(∃ lb,r = .returned (.func (.func 215) #[] lb)∧G lb w')∧Below w.heap.size w w'))
  (cK:Hid (∀ (lb:Array Value) (w:World),G lb w→Calls Tryz.prog 203 #[.func (.func 215) #[] lb] w (Rt (.int .i64 0) w)))
  (d3:Hid (∀ pb v,Has1 v (pb,#[true])→Calls Tryz.prog 216 #[.pointer (some ⟨pb,0,none⟩),.agg #[i0,i1,i2,i3,i4,i5],.agg #[o0,o1,o2,o3,o4,o5]] v fun r w'=>r = .returned (.agg #[s0,s1,s2,s3,s4,s5])∧Put ⟨pb,0,none⟩ (.int .i64 er1) v w'))
  (d4:Hid (∀ pb v,Has1 v (pb,#[.int .i64 er1])→Calls Tryz.prog 56 #[.pointer (some ⟨pb,0,none⟩),.agg #[s0,s1,s2,s3,s4,s5]] v fun r w'=>r = .returned (.agg #[nl,nh])∧Put ⟨pb,0,none⟩ (.int .i64 er2) v w'))
  (d5:Hid (∀ pb v,Has1 v (pb,#[.int .i64 er2])→Calls Tryz.prog 35 #[.pointer (some ⟨pb,0,none⟩),(4602678819172646912:Nat)] v fun r w'=>r = .returned (.agg #[ul,uh])∧Put ⟨pb,0,none⟩ (.int .i64 er3) v w'))
  (d6:Hid (∀ pb v,Has1 v (pb,#[.int .i64 er3])→Calls Tryz.prog 32 #[.pointer (some ⟨pb,0,none⟩),.agg #[ul,uh],.agg #[nl,nh]] v fun r w'=>r = .returned (.agg #[ml,mh])∧Put ⟨pb,0,none⟩ (.int .i64 er4) v w'))
  (c7:CH 217 #[.agg #[ml,mh]] (.agg #[cl,ch]))
  (d8:Hid (∀ pb v,Has1 v (pb,#[.int .i64 er4])→Calls Tryz.prog 60 #[.pointer (some ⟨pb,0,none⟩),.agg #[s4,s5],.agg #[nl,nh]] v fun r w'=>r = .returned (.agg #[kl,kh])∧Put ⟨pb,0,none⟩ (.int .i64 er5) v w'))
  (c9:CH 217 #[.agg #[kl,kh]] (.agg #[dl,dh]))
  (hX:Hid (((er5 != 0)=false∧X = .tuple #[.agg #[dl,dh],.agg #[cl,ch],true])∨((er5 != 0)=true∧X = .tuple #[.agg #[(),()],.agg #[(),()],.int .i64 er5]))) :
  Calls Tryz.prog 205 #[.agg #[i0,i1,i2,i3,i4,i5],.agg #[o0,o1,o2,o3,o4,o5]] w fun r w'=>r = .returned X∧Below w.heap.size w w':=by
 have M:=Hd (((((Own.nil w).made #[i0,i1,i2,i3,i4,i5] 33).made #[o0,o1,o2,o3,o4,o5] 33).made #[(),()] 31).made #[(),()] 31);simp only [World.size_alloc] at M;have eqF:=eq_floats;go_enter Tryz.func205,Tryz.ntmps205;obtain⟨k1,k2,k3,k4,k5,k6⟩:=(M.o.nth 3 rfl).six;obtain⟨k7,k8,k9,k10,k11,k12⟩:=(M.o.nth 2 rfl).six;go_wp2_with fail;refine (cA.out _).mono ?_;rintro r w1_ ⟨⟨lb,rfl,hG⟩,hb⟩;replace M:=Hd (M.o.below hb);clear hb;clear k1 k2 k3 k4 k5 k6 k7 k8 k9 k10 k11 k12;go_wp2_with fail;refine (cK.out _ _ hG).mono ?_;rintro r w2_ ⟨rfl,hb⟩;replace M:=Hd (M.o.below hb);clear hb;replace M:=Hd (M.o.made #[true] 74);obtain⟨k1,k2,k3,k4,k5,k6⟩:=(M.o.nth 4 rfl).six;obtain⟨k7,k8,k9,k10,k11,k12⟩:=(M.o.nth 3 rfl).six;go_wp2_with fail;refine (d3.out _ _ (M.o.nth 0 rfl)).mono ?_;rintro r w3_ ⟨rfl,hb⟩;replace M:=Hd (M.o.putAt 0 rfl hb);dsimp only [List.set] at M;clear hb;clear k1 k2 k3 k4 k5 k6 k7 k8 k9 k10 k11 k12
 replace M:=Hd (M.o.made #[s0,s1,s2,s3,s4,s5] 33).front;go_wp2_with fail;refine (d4.out _ _ (M.o.nth 0 rfl)).mono ?_;rintro r w4_ ⟨rfl,hb⟩;replace M:=Hd (M.o.putAt 0 rfl hb);dsimp only [List.set] at M;clear hb;replace M:=Hd (M.o.made #[nl,nh] 31).front;go_upto_region 7 with fail;replace M:=Hd M.o.drew;revert M;generalize (w4_.alloc (.cells #[nl,nh] 31))=W5_;intro M;refine wp_region_noPanic ?_;refine tails_region (S:=fun w'=>(Cf w' w4_.heap.size 0 nl∧Cf w' w4_.heap.size 1 nh)) [] (by kernel_rfl) ?_ (fun hS=>?_)
 ·exact (M.o.nth 1 rfl).two
 refine tq 1 hS ?_
 conv=>arg 9; simp only [Act.put,go_sem]
 refine lpx_ccc_1 M 0 2 3 4 [28,30,31,11] 1 (mhokJ7 w w2_.heap.size ul uh ml mh cl ch (fun k=>[er2,er3,er4,er4].getD k 0)) (by kernel_rfl) (by kernel_rfl) ?_ ?_ ?_ ?_ ?_ ?_ ?_
 ·intro A hA
  obtain⟨y1,hq1⟩:=put_ex (hA 28 (by simp));obtain⟨y2,hq2⟩:=put_ex (hA 30 (by simp));obtain⟨y3,hq3⟩:=put_ex (hA 31 (by simp));obtain⟨z1,hq4⟩:=put_ex (hA 11 (by simp));exact ⟨y1,y2,y3,z1,by rw [hq1,hq2,hq3,hq4],by omega,by omega,by omega,by simp,OwnF.start M.out 1⟩
 ·rintro k p a v ⟨y1,y2,y3,z1,_,_,_,_,_,h⟩
  exact (h.own.nth 1 rfl).two
 ·intro p a v hJ
  refine os fun K hK=>?_
  obtain⟨y1,y2,y3,z1,ha,gg1,h⟩:=mhokJ7_0 hJ;have h:=Hd h;clear hJ;subst ha;go_simp;refine (d5.out _ _ (h.out.own.nth 0 rfl)).mono ?_;rintro rr w5 ⟨rfl,hp⟩
  try go_wp2_with fail
  refine hK.out _ _ ⟨_,y2,y3,z1,?_,fun _=>rfl,by omega,by omega,gg1,h.out.putHead hp⟩;kernel_rfl
 ·intro p a v hJ
  refine os fun K hK=>?_
  obtain⟨y2,y3,z1,ha,gg1,h⟩:=mhokJ7_1 hJ;have h:=Hd h;clear hJ;subst ha;go_simp;refine (d6.out _ _ (h.out.own.nth 0 rfl)).mono ?_;rintro rr w5 ⟨rfl,hp⟩
  try go_wp2_with fail
  refine hK.out _ _ ⟨_,_,y3,z1,?_,fun _=>rfl,fun _=>rfl,by omega,gg1,h.out.putHead hp⟩;kernel_rfl
 ·intro p a v hJ
  refine os fun K hK=>?_
  obtain⟨y3,z1,ha,gg1,h⟩:=mhokJ7_2 hJ;have h:=Hd h;clear hJ;subst ha;go_simp;refine (c7.out _).mono ?_;rintro rr w5 ⟨rfl,hp⟩
  try go_wp2_with fail
  refine hK.out _ _ ⟨_,_,_,z1,?_,fun _=>rfl,fun _=>rfl,fun _=>rfl,gg1,h.out.below hp⟩;kernel_rfl
 ·intro k p a v hp hJ
  refine os fun K hK=>?_
  obtain⟨y1,y2,y3,z1,ha,ee1,ee2,ee3,gg1,h⟩:=hJ;have h:=Hd h;subst ha;go_simp;refine hK.out _ _ ⟨v.heap.size,y1,y2,y3,.pointer (some ⟨v.heap.size,0,none⟩),?_,ee1,ee2,ee3,fun q hq=>ptr_set hq,h.out.alloc hp rfl _⟩;kernel_rfl
 intro p7_1 a v hJ;obtain⟨rfl,h⟩:=mhokJ7_fin hJ;clear hJ;replace M:=Hd h.fin1;clear h
 refine tn [] 5 fun K hK=>?_
 have kc:=(M.o.nth 0 rfl).2.1;have kf:=(M.o.nth 0 rfl).2.2;replace M:=Hd (M.o.set2 0 rfl cl ch);dsimp only [List.set] at M;go_simp;refine hK.out _ _ (Or.inr (M.o.nth 2 rfl).two) (fun hHeld=>?_);clear hK K hHeld kc kf;refine tails_done (by kernel_rfl) ?_ _;refine NoPanic.normal ?_;clear hS;replace M:Hid (Own w [(w2_.heap.size,#[.int .i64 er4]),(p7_1,#[cl,ch]),(w4_.heap.size,#[nl,nh]),(w3_.heap.size,#[s0,s1,s2,s3,s4,s5]),((w.heap.size+1+1+1),#[(),()]),((w.heap.size+1+1),#[(),()]),((w.heap.size+1),#[o0,o1,o2,o3,o4,o5]),(w.heap.size,#[i0,i1,i2,i3,i4,i5])] _):=Hd M.o.front;revert M;generalize ((v.setCell ⟨p7_1,0,none⟩ (cl:Value)).setCell ⟨p7_1,1,none⟩ (ch:Value))=W6_;intro M;obtain⟨k1,k2,k3,k4,k5,k6⟩:=(M.o.nth 3 rfl).six;obtain⟨k7,k8⟩:=(M.o.nth 2 rfl).two;go_wp2_with fail;refine (d8.out _ _ (M.o.nth 0 rfl)).mono ?_;rintro r w7_ ⟨rfl,hb⟩;replace M:=Hd (M.o.putAt 0 rfl hb);dsimp only [List.set] at M
 clear hb;clear k1 k2 k3 k4 k5 k6 k7 k8;go_wp2_with fail;refine (c9.out _).mono ?_;rintro r w8_ ⟨rfl,hb⟩;replace M:=Hd (M.o.below hb);clear hb;replace M:=Hd (M.o.made #[dl,dh] 31).front;go_wp2_with fail;refine (err_any er5 _ 0 _ (M.o.nth 0 rfl).pc).mono ?_;rintro r w9_ ⟨rfl,rfl⟩
 rcases hX.out with ⟨hne,rfl⟩ | ⟨hne,rfl⟩
 ·clear hX
  go_upto_region 12 with fail;replace M:=Hd M.o.drew;revert M;generalize (w8_.alloc (.cells #[dl,dh] 31))=W10_;intro M;refine wp_region_noPanic ?_;refine tails_region (S:=fun w'=>(Cf w' w8_.heap.size 0 dl∧Cf w' w8_.heap.size 1 dh)∧(Cf w' p7_1 0 cl∧Cf w' p7_1 1 ch)) [] (by kernel_rfl) ?_ (fun hS=>?_)
  ·exact ⟨(M.o.nth 1 rfl).two,(M.o.nth 2 rfl).two⟩
  revert hS M;generalize W10_.drew=V_;intro M hS;refine tq 0 hS ?_;refine tq 1 hS ?_
  conv=>arg 9; simp only [Act.put,go_sem]
  refine tn [] 2 fun K hK=>?_
  have kc:=(M.o.nth 6 rfl).2.1;have kf:=(M.o.nth 6 rfl).2.2;replace M:=Hd (M.o.set2 6 rfl dl dh);dsimp only [List.set] at M;go_simp;refine hK.out _ _ (Or.inr ⟨(M.o.nth 1 rfl).two,(M.o.nth 2 rfl).two⟩) (fun hHeld=>?_);clear hK K hHeld kc kf
  refine tn [] 3 fun K hK=>?_
  have kc:=(M.o.nth 5 rfl).2.1;have kf:=(M.o.nth 5 rfl).2.2;replace M:=Hd (M.o.set2 5 rfl cl ch);dsimp only [List.set] at M;go_simp;refine hK.out _ _ (Or.inr ⟨(M.o.nth 1 rfl).two,(M.o.nth 2 rfl).two⟩) (fun hHeld=>?_);clear hK K hHeld kc kf
  refine tn [] 4 fun K hK=>?_
  go_simp;refine hK.out _ _ (Or.inr ⟨(M.o.nth 1 rfl).two,(M.o.nth 2 rfl).two⟩) (fun hHeld=>?_);clear hK K hHeld;refine tails_done (by kernel_rfl) ?_ _;refine NoPanic.normal ?_;clear hS;revert M;generalize ((((V_.setCell ⟨(w.heap.size+1+1),0,none⟩ (dl:Value)).setCell ⟨(w.heap.size+1+1),1,none⟩ (dh:Value)).setCell ⟨(w.heap.size+1+1+1),0,none⟩ (cl:Value)).setCell ⟨(w.heap.size+1+1+1),1,none⟩ (ch:Value))=W11_;intro M;go_wp2;obtain⟨f1,f2⟩:=(M.o.nth 6 rfl).two;obtain⟨f3,f4⟩:=(M.o.nth 5 rfl).two;exact bodyPost_ret (v:=.tuple #[.agg #[.float .f64 dl,.float .f64 dh],.agg #[.float .f64 cl,.float .f64 ch],.int .i64 0]) (by simp [results,Tryz.results205,go_sem,f1,f2,f3,f4]) rfl ⟨rfl,M.o.base⟩
 ·clear hX
  have kc:=(M.o.nth 6 rfl).2.1;have kf:=(M.o.nth 6 rfl).2.2;replace M:=Hd (M.o.set2 6 rfl (.float .f64 0) (.float .f64 0));dsimp only [List.set] at M;have kc:=(M.o.nth 5 rfl).2.1;have kf:=(M.o.nth 5 rfl).2.2;replace M:=Hd (M.o.set2 5 rfl (.float .f64 0) (.float .f64 0));dsimp only [List.set] at M;go_wp2;obtain⟨f1,f2⟩:=(M.o.nth 6 rfl).two;obtain⟨f3,f4⟩:=(M.o.nth 5 rfl).two;exact bodyPost_ret (v:=.tuple #[.agg #[.float .f64 0,.float .f64 0],.agg #[.float .f64 0,.float .f64 0],.int .i64 er5]) (by simp [results,Tryz.results205,go_sem,f1,f2,f3,f4]) rfl ⟨rfl,M.o.base⟩
section
variable {w v:World} {pb:Nat} {ul uh ml mh cl ch:Nat} {ek:Nat→Int} {l:RowL} {a0 a:Act} {p:List (Option Nat)}
end
def mlokJ10 (w:World) (pb:Nat) (rl rh sl sh tl th ul uh:Nat) (ek:Nat→Int) (l:RowL) (a0:Act) (k:Nat) (p:List (Option Nat)) (a:Act) (v:World):Prop:=
 ∃ y1 y2 y3 y4 z1:Value,a=(((((a0.put (some 65) y1).put (some 69) y2).put (some 72) y3).put (some 73) y4).put (some 20) z1)∧(0 < k→y1 = .agg #[rl,rh])∧(1 < k→y2 = .agg #[sl,sh])∧(2 < k→y3 = .agg #[tl,th])∧(3 < k→y4 = .agg #[ul,uh])∧(∀ q,p[0]? = some (some q)→z1 = .pointer (some ⟨q,0,none⟩))∧OwnF w ((pb,#[.int .i64 (ek k)]) :: l) [#[(),()]] p v
section
variable {w v:World} {pb:Nat} {rl rh sl sh tl th ul uh:Nat} {ek:Nat→Int} {l:RowL} {a0 a:Act} {p:List (Option Nat)}
theorem mlokJ10_0 (h:mlokJ10 w pb rl rh sl sh tl th ul uh ek l a0 0 p a v):∃ y1 y2 y3 y4 z1:Value,a=(((((a0.put (some 65) y1).put (some 69) y2).put (some 72) y3).put (some 73) y4).put (some 20) z1)∧(∀ q,p[0]? = some (some q)→z1 = .pointer (some ⟨q,0,none⟩))∧OwnF w ((pb,#[.int .i64 (ek 0)]) :: l) [#[(),()]] p v:=by
 obtain⟨y1,y2,y3,y4,z1,ha,E1,E2,E3,E4,G1,h⟩:=h;exact ⟨y1,y2,y3,y4,z1,ha,G1,h⟩
theorem mlokJ10_1 (h:mlokJ10 w pb rl rh sl sh tl th ul uh ek l a0 1 p a v):∃ y2 y3 y4 z1:Value,a=(((((a0.put (some 65) (.agg #[rl,rh])).put (some 69) y2).put (some 72) y3).put (some 73) y4).put (some 20) z1)∧(∀ q,p[0]? = some (some q)→z1 = .pointer (some ⟨q,0,none⟩))∧OwnF w ((pb,#[.int .i64 (ek 1)]) :: l) [#[(),()]] p v:=by
 obtain⟨y1,y2,y3,y4,z1,ha,E1,E2,E3,E4,G1,h⟩:=h;obtain rfl:=E1 (by decide);exact ⟨y2,y3,y4,z1,ha,G1,h⟩
theorem mlokJ10_2 (h:mlokJ10 w pb rl rh sl sh tl th ul uh ek l a0 2 p a v):∃ y3 y4 z1:Value,a=(((((a0.put (some 65) (.agg #[rl,rh])).put (some 69) (.agg #[sl,sh])).put (some 72) y3).put (some 73) y4).put (some 20) z1)∧(∀ q,p[0]? = some (some q)→z1 = .pointer (some ⟨q,0,none⟩))∧OwnF w ((pb,#[.int .i64 (ek 2)]) :: l) [#[(),()]] p v:=by
 obtain⟨y1,y2,y3,y4,z1,ha,E1,E2,E3,E4,G1,h⟩:=h;obtain rfl:=E1 (by decide);obtain rfl:=E2 (by decide);exact ⟨y3,y4,z1,ha,G1,h⟩
theorem mlokJ10_3 (h:mlokJ10 w pb rl rh sl sh tl th ul uh ek l a0 3 p a v):∃ y4 z1:Value,a=(((((a0.put (some 65) (.agg #[rl,rh])).put (some 69) (.agg #[sl,sh])).put (some 72) (.agg #[tl,th])).put (some 73) y4).put (some 20) z1)∧(∀ q,p[0]? = some (some q)→z1 = .pointer (some ⟨q,0,none⟩))∧OwnF w ((pb,#[.int .i64 (ek 3)]) :: l) [#[(),()]] p v:=by
 obtain⟨y1,y2,y3,y4,z1,ha,E1,E2,E3,E4,G1,h⟩:=h;obtain rfl:=E1 (by decide);obtain rfl:=E2 (by decide);obtain rfl:=E3 (by decide);exact ⟨y4,z1,ha,G1,h⟩
theorem mlokJ10_fin {q1:Nat} (h:mlokJ10 w pb rl rh sl sh tl th ul uh ek l a0 4 [some q1] a v):a=(((((a0.put (some 65) (.agg #[rl,rh])).put (some 69) (.agg #[sl,sh])).put (some 72) (.agg #[tl,th])).put (some 73) (.agg #[ul,uh])).put (some 20) (.pointer (some ⟨q1,0,none⟩)))∧OwnF w ((pb,#[.int .i64 (ek 4)]) :: l) [#[(),()]] [some q1] v:=by
 obtain⟨y1,y2,y3,y4,z1,ha,E1,E2,E3,E4,G1,h⟩:=h;obtain rfl:=E1 (by decide);obtain rfl:=E2 (by decide);obtain rfl:=E3 (by decide);obtain rfl:=E4 (by decide);obtain rfl:=G1 _ rfl;exact ⟨ha,h⟩
end
def mlokJ11 (w:World) (pb:Nat) (zl zh xl xh yl yh:Nat) (ek:Nat→Int) (l:RowL) (a0:Act) (k:Nat) (p:List (Option Nat)) (a:Act) (v:World):Prop:=
 ∃ y1 y2 y3 z1:Value,a=((((a0.put (some 76) y1).put (some 80) y2).put (some 81) y3).put (some 21) z1)∧(0 < k→y1 = .agg #[zl,zh])∧(1 < k→y2 = .agg #[xl,xh])∧(2 < k→y3 = .agg #[yl,yh])∧(∀ q,p[0]? = some (some q)→z1 = .pointer (some ⟨q,0,none⟩))∧OwnF w ((pb,#[.int .i64 (ek k)]) :: l) [#[(),()]] p v
section
variable {w v:World} {pb:Nat} {zl zh xl xh yl yh:Nat} {ek:Nat→Int} {l:RowL} {a0 a:Act} {p:List (Option Nat)}
theorem mlokJ11_0 (h:mlokJ11 w pb zl zh xl xh yl yh ek l a0 0 p a v):∃ y1 y2 y3 z1:Value,a=((((a0.put (some 76) y1).put (some 80) y2).put (some 81) y3).put (some 21) z1)∧(∀ q,p[0]? = some (some q)→z1 = .pointer (some ⟨q,0,none⟩))∧OwnF w ((pb,#[.int .i64 (ek 0)]) :: l) [#[(),()]] p v:=by
 obtain⟨y1,y2,y3,z1,ha,E1,E2,E3,G1,h⟩:=h;exact ⟨y1,y2,y3,z1,ha,G1,h⟩
theorem mlokJ11_1 (h:mlokJ11 w pb zl zh xl xh yl yh ek l a0 1 p a v):∃ y2 y3 z1:Value,a=((((a0.put (some 76) (.agg #[zl,zh])).put (some 80) y2).put (some 81) y3).put (some 21) z1)∧(∀ q,p[0]? = some (some q)→z1 = .pointer (some ⟨q,0,none⟩))∧OwnF w ((pb,#[.int .i64 (ek 1)]) :: l) [#[(),()]] p v:=by
 obtain⟨y1,y2,y3,z1,ha,E1,E2,E3,G1,h⟩:=h;obtain rfl:=E1 (by decide);exact ⟨y2,y3,z1,ha,G1,h⟩
theorem mlokJ11_2 (h:mlokJ11 w pb zl zh xl xh yl yh ek l a0 2 p a v):∃ y3 z1:Value,a=((((a0.put (some 76) (.agg #[zl,zh])).put (some 80) (.agg #[xl,xh])).put (some 81) y3).put (some 21) z1)∧(∀ q,p[0]? = some (some q)→z1 = .pointer (some ⟨q,0,none⟩))∧OwnF w ((pb,#[.int .i64 (ek 2)]) :: l) [#[(),()]] p v:=by
 obtain⟨y1,y2,y3,z1,ha,E1,E2,E3,G1,h⟩:=h;obtain rfl:=E1 (by decide);obtain rfl:=E2 (by decide);exact ⟨y3,z1,ha,G1,h⟩
theorem mlokJ11_fin {q1:Nat} (h:mlokJ11 w pb zl zh xl xh yl yh ek l a0 3 [some q1] a v):a=((((a0.put (some 76) (.agg #[zl,zh])).put (some 80) (.agg #[xl,xh])).put (some 81) (.agg #[yl,yh])).put (some 21) (.pointer (some ⟨q1,0,none⟩)))∧OwnF w ((pb,#[.int .i64 (ek 3)]) :: l) [#[(),()]] [some q1] v:=by
 obtain⟨y1,y2,y3,z1,ha,E1,E2,E3,G1,h⟩:=h;obtain rfl:=E1 (by decide);obtain rfl:=E2 (by decide);obtain rfl:=E3 (by decide);obtain rfl:=G1 _ rfl;exact ⟨ha,h⟩
end
theorem mlook {X:Value} {i0 i1 i2 i3 i4 i5 o0 o1 o2 o3 o4 o5 al ah pl ph ql qh dl dh gl gh fl fh wl wh rl rh sl sh tl th ul uh zl zh xl xh yl yh:Nat} {er1 er2 er3 er4 er5 er6 er7 er8 eh ed eg ef ez:Int} {G:Array Value→World→Prop} (w:World)
  (cA:Hid (∀ (q:Nat) (w:World),Has1 w (q,#[al,ah])→Calls Tryz.prog 204 #[.agg #[i0,i1,i2,i3,i4,i5],.agg #[o0,o1,o2,o3,o4,o5],.slice (some ⟨q,0,none⟩) 1 1] w fun r w'=>(∃ lb,r = .returned (.func (.func 215) #[] lb)∧G lb w')∧Below w.heap.size w w'))
  (cK:Hid (∀ (lb:Array Value) (w:World),G lb w→Calls Tryz.prog 203 #[.func (.func 215) #[] lb] w (Rt (.int .i64 0) w)))
  (c3:CH 205 #[.agg #[i0,i1,i2,i3,i4,i5],.agg #[o0,o1,o2,o3,o4,o5]] (.tuple #[.agg #[pl,ph],.agg #[ql,qh],.int .i64 eh]))
  (c4:CH 206 #[.agg #[pl,ph],.agg #[al,ah]] (.tuple #[.agg #[dl,dh],.int .i64 ed]))
  (c5:CH 207 #[.agg #[i4,i5],.agg #[o4,o5],.agg #[al,ah]] (.tuple #[.agg #[gl,gh],.int .i64 eg]))
  (c6:CH 208 #[.agg #[o4,o5],.agg #[al,ah]] (.tuple #[.agg #[fl,fh],.int .i64 ef]))
  (d7:Hid (∀ pb v,Has1 v (pb,#[true])→Calls Tryz.prog 35 #[.pointer (some ⟨pb,0,none⟩),(4616189618054758400:Nat)] v fun r w'=>r = .returned (.agg #[wl,wh])∧Put ⟨pb,0,none⟩ (.int .i64 er1) v w'))
  (d8:Hid (∀ pb v,Has1 v (pb,#[.int .i64 er1])→Calls Tryz.prog 32 #[.pointer (some ⟨pb,0,none⟩),.agg #[dl,dh],.agg #[gl,gh]] v fun r w'=>r = .returned (.agg #[rl,rh])∧Put ⟨pb,0,none⟩ (.int .i64 er2) v w'))
  (d9:Hid (∀ pb v,Has1 v (pb,#[.int .i64 er2])→Calls Tryz.prog 32 #[.pointer (some ⟨pb,0,none⟩),.agg #[wl,wh],.agg #[i4,i5]] v fun r w'=>r = .returned (.agg #[sl,sh])∧Put ⟨pb,0,none⟩ (.int .i64 er3) v w'))
  (d10:Hid (∀ pb v,Has1 v (pb,#[.int .i64 er3])→Calls Tryz.prog 32 #[.pointer (some ⟨pb,0,none⟩),.agg #[sl,sh],.agg #[o4,o5]] v fun r w'=>r = .returned (.agg #[tl,th])∧Put ⟨pb,0,none⟩ (.int .i64 er4) v w'))
  (d11:Hid (∀ pb v,Has1 v (pb,#[.int .i64 er4])→Calls Tryz.prog 60 #[.pointer (some ⟨pb,0,none⟩),.agg #[rl,rh],.agg #[tl,th]] v fun r w'=>r = .returned (.agg #[ul,uh])∧Put ⟨pb,0,none⟩ (.int .i64 er5) v w'))
  (d12:Hid (∀ pb v,Has1 v (pb,#[.int .i64 er5])→Calls Tryz.prog 32 #[.pointer (some ⟨pb,0,none⟩),.agg #[fl,fh],.agg #[dl,dh]] v fun r w'=>r = .returned (.agg #[zl,zh])∧Put ⟨pb,0,none⟩ (.int .i64 er6) v w'))
  (d13:Hid (∀ pb v,Has1 v (pb,#[.int .i64 er6])→Calls Tryz.prog 32 #[.pointer (some ⟨pb,0,none⟩),.agg #[wl,wh],.agg #[o4,o5]] v fun r w'=>r = .returned (.agg #[xl,xh])∧Put ⟨pb,0,none⟩ (.int .i64 er7) v w'))
  (d14:Hid (∀ pb v,Has1 v (pb,#[.int .i64 er7])→Calls Tryz.prog 60 #[.pointer (some ⟨pb,0,none⟩),.agg #[zl,zh],.agg #[xl,xh]] v fun r w'=>r = .returned (.agg #[yl,yh])∧Put ⟨pb,0,none⟩ (.int .i64 er8) v w'))
  (cO:Hid (∀ (q:Nat) (w:World),Has1 w (q,#[.int .i64 eh,.int .i64 ed,.int .i64 eg,.int .i64 ef,.int .i64 er8])→Calls Tryz.prog 36 #[.slice (some ⟨q,0,none⟩) 5 5] w (Rt (.int .i64 ez) w)))
  (hX:Hid (((ez != 0)=false∧X = .tuple #[.agg #[pl,ph,ql,qh,ul,uh,yl,yh],true])∨((ez != 0)=true∧X = .tuple #[.agg #[(),(),(),(),(),(),(),()],.int .i64 ez]))) :
  Calls Tryz.prog 189 #[.agg #[i0,i1,i2,i3,i4,i5],.agg #[o0,o1,o2,o3,o4,o5],.agg #[al,ah]] w fun r w'=>r = .returned X∧Below w.heap.size w w':=by
 have M:=Hd (((((Own.nil w).made #[i0,i1,i2,i3,i4,i5] 33).made #[o0,o1,o2,o3,o4,o5] 33).made #[al,ah] 31).made #[(),(),(),(),(),(),(),()] 177);simp only [World.size_alloc] at M;have eqF:=eq_floats;go_enter Tryz.func189,Tryz.ntmps189;obtain⟨k1,k2,k3,k4,k5,k6⟩:=(M.o.nth 3 rfl).six;obtain⟨k7,k8,k9,k10,k11,k12⟩:=(M.o.nth 2 rfl).six;obtain⟨k13,k14⟩:=(M.o.nth 1 rfl).two;replace M:=Hd (M.o.made #[al,ah] 31);simp only [World.size_alloc] at M;obtain⟨k15,k16,k17,k18,k19,k20⟩:=(M.o.nth 4 rfl).six;obtain⟨k21,k22,k23,k24,k25,k26⟩:=(M.o.nth 3 rfl).six;obtain⟨k27,k28⟩:=(M.o.nth 2 rfl).two;go_wp2_with fail;refine (cA.out _ _ (M.o.nth 0 rfl)).mono ?_;rintro r w1_ ⟨⟨lb,rfl,hG⟩,hb⟩;replace M:=Hd (M.o.below hb);clear hb;clear k1 k2 k3 k4 k5 k6 k7 k8 k9 k10 k11 k12 k13 k14 k15 k16 k17 k18 k19 k20 k21 k22 k23 k24 k25 k26 k27 k28;go_wp2_with fail;refine (cK.out _ _ hG).mono ?_;rintro r w2_ ⟨rfl,hb⟩;replace M:=Hd (M.o.below hb)
 clear hb;obtain⟨k1,k2,k3,k4,k5,k6⟩:=(M.o.nth 4 rfl).six;obtain⟨k7,k8,k9,k10,k11,k12⟩:=(M.o.nth 3 rfl).six;go_wp2_with fail;refine (c3.out _).mono ?_;rintro r w3_ ⟨rfl,hb⟩;replace M:=Hd (M.o.below hb);clear hb;clear k1 k2 k3 k4 k5 k6 k7 k8 k9 k10 k11 k12;replace M:=Hd (M.o.made #[pl,ph] 31);replace M:=Hd (M.o.made #[ql,qh] 31);simp only [World.size_alloc] at M;obtain⟨k1,k2⟩:=(M.o.nth 4 rfl).two;go_wp2_with fail;refine (c4.out _).mono ?_;rintro r w4_ ⟨rfl,hb⟩;replace M:=Hd (M.o.below hb);clear hb;clear k1 k2;replace M:=Hd (M.o.made #[dl,dh] 31);obtain⟨k1,k2,k3,k4,k5,k6⟩:=(M.o.nth 7 rfl).six;obtain⟨k7,k8,k9,k10,k11,k12⟩:=(M.o.nth 6 rfl).six;obtain⟨k13,k14⟩:=(M.o.nth 5 rfl).two;go_wp2_with fail;refine (c5.out _).mono ?_;rintro r w5_ ⟨rfl,hb⟩;replace M:=Hd (M.o.below hb);clear hb;clear k1 k2 k3 k4 k5 k6 k7 k8 k9 k10 k11 k12 k13 k14;replace M:=Hd (M.o.made #[gl,gh] 31);obtain⟨k1,k2,k3,k4,k5,k6⟩:=(M.o.nth 7 rfl).six
 obtain⟨k7,k8⟩:=(M.o.nth 6 rfl).two;go_wp2_with fail;refine (c6.out _).mono ?_;rintro r w6_ ⟨rfl,hb⟩;replace M:=Hd (M.o.below hb);clear hb;clear k1 k2 k3 k4 k5 k6 k7 k8;replace M:=Hd (M.o.made #[fl,fh] 31);replace M:=Hd (M.o.made #[true] 74);simp only [World.size_alloc] at M;go_wp2_with fail;refine (d7.out _ _ (M.o.nth 0 rfl)).mono ?_;rintro r w7_ ⟨rfl,hb⟩;replace M:=Hd (M.o.putAt 0 rfl hb);dsimp only [List.set] at M;clear hb;replace M:=Hd (M.o.made #[wl,wh] 31).front;go_upto_region 10 with fail;replace M:=Hd M.o.drew;revert M;generalize (w7_.alloc (.cells #[wl,wh] 31))=W8_;intro M;refine wp_region_noPanic ?_;refine tails_region (S:=fun w'=>(Cf w' w4_.heap.size 0 dl∧Cf w' w4_.heap.size 1 dh)∧(Cf w' w5_.heap.size 0 gl∧Cf w' w5_.heap.size 1 gh)∧(Cf w' w7_.heap.size 0 wl∧Cf w' w7_.heap.size 1 wh)∧(Cf w' w.heap.size 0 i0∧Cf w' w.heap.size 1 i1∧Cf w' w.heap.size 2 i2∧Cf w' w.heap.size 3 i3∧Cf w' w.heap.size 4 i4∧Cf w' w.heap.size 5 i5)∧(Cf w' (w.heap.size+1) 0 o0∧Cf w' (w.heap.size+1) 1 o1∧Cf w' (w.heap.size+1) 2 o2∧Cf w' (w.heap.size+1) 3 o3∧Cf w' (w.heap.size+1) 4 o4∧Cf w' (w.heap.size+1) 5 o5)) [] (by kernel_rfl) ?_ (fun hS=>?_)
 ·exact ⟨(M.o.nth 4 rfl).two,(M.o.nth 3 rfl).two,(M.o.nth 1 rfl).two,(M.o.nth 11 rfl).six,(M.o.nth 10 rfl).six⟩
 refine tq 0 hS ?_;refine tq 1 hS ?_;refine tq 3 hS ?_;refine tq 4 hS ?_;refine tq 5 hS ?_;refine tq 7 hS ?_;refine tq 8 hS ?_
 conv=>arg 9; simp only [Act.put,go_sem]
 refine lpx_cccc_1 M 2 6 9 10 11 [65,69,72,73,20] 1 (mlokJ10 w (w6_.heap.size+1) rl rh sl sh tl th ul uh (fun k=>[er1,er2,er3,er4,er5].getD k 0)) (by kernel_rfl) (by kernel_rfl) ?_ ?_ ?_ ?_ ?_ ?_ ?_ ?_
 ·intro A hA
  obtain⟨y1,hq1⟩:=put_ex (hA 65 (by simp));obtain⟨y2,hq2⟩:=put_ex (hA 69 (by simp));obtain⟨y3,hq3⟩:=put_ex (hA 72 (by simp));obtain⟨y4,hq4⟩:=put_ex (hA 73 (by simp));obtain⟨z1,hq5⟩:=put_ex (hA 20 (by simp));exact ⟨y1,y2,y3,y4,z1,by rw [hq1,hq2,hq3,hq4,hq5],by omega,by omega,by omega,by omega,by simp,OwnF.start M.out 1⟩
 ·rintro k p a v ⟨y1,y2,y3,y4,z1,_,_,_,_,_,_,h⟩
  exact ⟨(h.own.nth 4 rfl).two,(h.own.nth 3 rfl).two,(h.own.nth 1 rfl).two,(h.own.nth 11 rfl).six,(h.own.nth 10 rfl).six⟩
 ·intro p a v hJ
  refine os fun K hK=>?_
  obtain⟨y1,y2,y3,y4,z1,ha,gg1,h⟩:=mlokJ10_0 hJ;have h:=Hd h;clear hJ;subst ha;go_simp;refine (d8.out _ _ (h.out.own.nth 0 rfl)).mono ?_;rintro rr w5 ⟨rfl,hp⟩
  try go_wp2_with fail
  refine hK.out _ _ ⟨_,y2,y3,y4,z1,?_,fun _=>rfl,by omega,by omega,by omega,gg1,h.out.putHead hp⟩;kernel_rfl
 ·intro p a v hJ
  refine os fun K hK=>?_
  obtain⟨y2,y3,y4,z1,ha,gg1,h⟩:=mlokJ10_1 hJ;have h:=Hd h;clear hJ;subst ha;go_simp;refine (d9.out _ _ (h.out.own.nth 0 rfl)).mono ?_;rintro rr w5 ⟨rfl,hp⟩
  try go_wp2_with fail
  refine hK.out _ _ ⟨_,_,y3,y4,z1,?_,fun _=>rfl,fun _=>rfl,by omega,by omega,gg1,h.out.putHead hp⟩;kernel_rfl
 ·intro p a v hJ
  refine os fun K hK=>?_
  obtain⟨y3,y4,z1,ha,gg1,h⟩:=mlokJ10_2 hJ;have h:=Hd h;clear hJ;subst ha;go_simp;refine (d10.out _ _ (h.out.own.nth 0 rfl)).mono ?_;rintro rr w5 ⟨rfl,hp⟩
  try go_wp2_with fail
  refine hK.out _ _ ⟨_,_,_,y4,z1,?_,fun _=>rfl,fun _=>rfl,fun _=>rfl,by omega,gg1,h.out.putHead hp⟩;kernel_rfl
 ·intro p a v hJ
  refine os fun K hK=>?_
  obtain⟨y4,z1,ha,gg1,h⟩:=mlokJ10_3 hJ;have h:=Hd h;clear hJ;subst ha;go_simp;refine (d11.out _ _ (h.out.own.nth 0 rfl)).mono ?_;rintro rr w5 ⟨rfl,hp⟩
  try go_wp2_with fail
  refine hK.out _ _ ⟨_,_,_,_,z1,?_,fun _=>rfl,fun _=>rfl,fun _=>rfl,fun _=>rfl,gg1,h.out.putHead hp⟩;kernel_rfl
 ·intro k p a v hp hJ
  refine os fun K hK=>?_
  obtain⟨y1,y2,y3,y4,z1,ha,ee1,ee2,ee3,ee4,gg1,h⟩:=hJ;have h:=Hd h;subst ha;go_simp;refine hK.out _ _ ⟨v.heap.size,y1,y2,y3,y4,.pointer (some ⟨v.heap.size,0,none⟩),?_,ee1,ee2,ee3,ee4,fun q hq=>ptr_set hq,h.out.alloc hp rfl _⟩;kernel_rfl
 intro p10_1 a v hJ;obtain⟨rfl,h⟩:=mlokJ10_fin hJ;clear hJ;replace M:=Hd h.fin1;clear h
 refine tn [] 12 fun K hK=>?_
 have kc:=(M.o.nth 0 rfl).2.1;have kf:=(M.o.nth 0 rfl).2.2;replace M:=Hd (M.o.set2 0 rfl ul uh);dsimp only [List.set] at M;go_simp;refine hK.out _ _ (Or.inr ⟨(M.o.nth 5 rfl).two,(M.o.nth 4 rfl).two,(M.o.nth 2 rfl).two,(M.o.nth 12 rfl).six,(M.o.nth 11 rfl).six⟩) (fun hHeld=>?_);clear hK K hHeld kc kf;refine tails_done (by kernel_rfl) ?_ _;refine NoPanic.normal ?_;clear hS;replace M:Hid (Own w [((w6_.heap.size+1),#[.int .i64 er5]),(p10_1,#[ul,uh]),(w7_.heap.size,#[wl,wh]),(w6_.heap.size,#[fl,fh]),(w5_.heap.size,#[gl,gh]),(w4_.heap.size,#[dl,dh]),((w3_.heap.size+1),#[ql,qh]),(w3_.heap.size,#[pl,ph]),((w.heap.size+1+1+1+1),#[al,ah]),((w.heap.size+1+1+1),#[(),(),(),(),(),(),(),()]),((w.heap.size+1+1),#[al,ah]),((w.heap.size+1),#[o0,o1,o2,o3,o4,o5]),(w.heap.size,#[i0,i1,i2,i3,i4,i5])] _):=Hd M.o.front;revert M;generalize ((v.setCell ⟨p10_1,0,none⟩ (ul:Value)).setCell ⟨p10_1,1,none⟩ (uh:Value))=W9_
 intro M;go_upto_region 11 with fail;replace M:=Hd M.o.drew;refine wp_region_noPanic ?_;refine tails_region (S:=fun w'=>(Cf w' w6_.heap.size 0 fl∧Cf w' w6_.heap.size 1 fh)∧(Cf w' w4_.heap.size 0 dl∧Cf w' w4_.heap.size 1 dh)∧(Cf w' w7_.heap.size 0 wl∧Cf w' w7_.heap.size 1 wh)∧(Cf w' (w.heap.size+1) 0 o0∧Cf w' (w.heap.size+1) 1 o1∧Cf w' (w.heap.size+1) 2 o2∧Cf w' (w.heap.size+1) 3 o3∧Cf w' (w.heap.size+1) 4 o4∧Cf w' (w.heap.size+1) 5 o5)) [] (by kernel_rfl) ?_ (fun hS=>?_)
 ·exact ⟨(M.o.nth 3 rfl).two,(M.o.nth 5 rfl).two,(M.o.nth 2 rfl).two,(M.o.nth 11 rfl).six⟩
 refine tq 0 hS ?_;refine tq 1 hS ?_;refine tq 3 hS ?_;refine tq 4 hS ?_;refine tq 5 hS ?_
 conv=>arg 9; simp only [Act.put,go_sem]
 refine lpx_ccc_1 M 2 6 7 8 [76,80,81,21] 1 (mlokJ11 w (w6_.heap.size+1) zl zh xl xh yl yh (fun k=>[er5,er6,er7,er8].getD k 0)) (by kernel_rfl) (by kernel_rfl) ?_ ?_ ?_ ?_ ?_ ?_ ?_
 ·intro A hA
  obtain⟨y1,hq1⟩:=put_ex (hA 76 (by simp));obtain⟨y2,hq2⟩:=put_ex (hA 80 (by simp));obtain⟨y3,hq3⟩:=put_ex (hA 81 (by simp));obtain⟨z1,hq4⟩:=put_ex (hA 21 (by simp));exact ⟨y1,y2,y3,z1,by rw [hq1,hq2,hq3,hq4],by omega,by omega,by omega,by simp,OwnF.start M.out 1⟩
 ·rintro k p a v ⟨y1,y2,y3,z1,_,_,_,_,_,h⟩
  exact ⟨(h.own.nth 3 rfl).two,(h.own.nth 5 rfl).two,(h.own.nth 2 rfl).two,(h.own.nth 11 rfl).six⟩
 ·intro p a v hJ
  refine os fun K hK=>?_
  obtain⟨y1,y2,y3,z1,ha,gg1,h⟩:=mlokJ11_0 hJ;have h:=Hd h;clear hJ;subst ha;go_simp;refine (d12.out _ _ (h.out.own.nth 0 rfl)).mono ?_;rintro rr w5 ⟨rfl,hp⟩
  try go_wp2_with fail
  refine hK.out _ _ ⟨_,y2,y3,z1,?_,fun _=>rfl,by omega,by omega,gg1,h.out.putHead hp⟩;kernel_rfl
 ·intro p a v hJ
  refine os fun K hK=>?_
  obtain⟨y2,y3,z1,ha,gg1,h⟩:=mlokJ11_1 hJ;have h:=Hd h;clear hJ;subst ha;go_simp;refine (d13.out _ _ (h.out.own.nth 0 rfl)).mono ?_;rintro rr w5 ⟨rfl,hp⟩
  try go_wp2_with fail
  refine hK.out _ _ ⟨_,_,y3,z1,?_,fun _=>rfl,fun _=>rfl,by omega,gg1,h.out.putHead hp⟩;kernel_rfl
 ·intro p a v hJ
  refine os fun K hK=>?_
  obtain⟨y3,z1,ha,gg1,h⟩:=mlokJ11_2 hJ;have h:=Hd h;clear hJ;subst ha;go_simp;refine (d14.out _ _ (h.out.own.nth 0 rfl)).mono ?_;rintro rr w5 ⟨rfl,hp⟩
  try go_wp2_with fail
  refine hK.out _ _ ⟨_,_,_,z1,?_,fun _=>rfl,fun _=>rfl,fun _=>rfl,gg1,h.out.putHead hp⟩;kernel_rfl
 ·intro k p a v hp hJ
  refine os fun K hK=>?_
  obtain⟨y1,y2,y3,z1,ha,ee1,ee2,ee3,gg1,h⟩:=hJ;have h:=Hd h;subst ha;go_simp;refine hK.out _ _ ⟨v.heap.size,y1,y2,y3,.pointer (some ⟨v.heap.size,0,none⟩),?_,ee1,ee2,ee3,fun q hq=>ptr_set hq,h.out.alloc hp rfl _⟩;kernel_rfl
 intro p11_1 a v hJ;obtain⟨rfl,h⟩:=mlokJ11_fin hJ;clear hJ;replace M:=Hd h.fin1;clear h
 refine tn [] 9 fun K hK=>?_
 have kc:=(M.o.nth 0 rfl).2.1;have kf:=(M.o.nth 0 rfl).2.2;replace M:=Hd (M.o.set2 0 rfl yl yh);dsimp only [List.set] at M;go_simp;refine hK.out _ _ (Or.inr ⟨(M.o.nth 4 rfl).two,(M.o.nth 6 rfl).two,(M.o.nth 3 rfl).two,(M.o.nth 12 rfl).six⟩) (fun hHeld=>?_);clear hK K hHeld kc kf;refine tails_done (by kernel_rfl) ?_ _;refine NoPanic.normal ?_;clear hS;replace M:Hid (Own w [((w6_.heap.size+1),#[.int .i64 er8]),(p11_1,#[yl,yh]),(p10_1,#[ul,uh]),(w7_.heap.size,#[wl,wh]),(w6_.heap.size,#[fl,fh]),(w5_.heap.size,#[gl,gh]),(w4_.heap.size,#[dl,dh]),((w3_.heap.size+1),#[ql,qh]),(w3_.heap.size,#[pl,ph]),((w.heap.size+1+1+1+1),#[al,ah]),((w.heap.size+1+1+1),#[(),(),(),(),(),(),(),()]),((w.heap.size+1+1),#[al,ah]),((w.heap.size+1),#[o0,o1,o2,o3,o4,o5]),(w.heap.size,#[i0,i1,i2,i3,i4,i5])] _):=Hd M.o.front;revert M;generalize ((v.setCell ⟨p11_1,0,none⟩ (yl:Value)).setCell ⟨p11_1,1,none⟩ (yh:Value))=W10_
 intro M;go_wp2_with fail;refine (err_any er8 _ 0 _ (M.o.nth 0 rfl).pc).mono ?_;rintro r w11_ ⟨rfl,rfl⟩;replace M:=Hd (M.o.made #[.int .i64 eh,.int .i64 ed,.int .i64 eg,.int .i64 ef,.int .i64 er8] 38).front;go_wp2_with fail;refine (cO.out _ _ (M.o.nth 1 rfl)).mono ?_;rintro r w12_ ⟨rfl,hb⟩;replace M:=Hd (M.o.below hb);clear hb
 rcases hX.out with ⟨hne,rfl⟩ | ⟨hne,rfl⟩
 ·clear hX
  obtain⟨k1,k2⟩:=(M.o.nth 9 rfl).two;obtain⟨k3,k4⟩:=(M.o.nth 8 rfl).two;obtain⟨k5,k6⟩:=(M.o.nth 3 rfl).two;obtain⟨k7,k8⟩:=(M.o.nth 2 rfl).two;have kc:=(M.o.nth 11 rfl).2.1;have kf:=(M.o.nth 11 rfl).2.2;replace M:Hid (Own w [((w6_.heap.size+1),#[.int .i64 er8]),(W10_.heap.size,#[.int .i64 eh,.int .i64 ed,.int .i64 eg,.int .i64 ef,.int .i64 er8]),(p11_1,#[yl,yh]),(p10_1,#[ul,uh]),(w7_.heap.size,#[wl,wh]),(w6_.heap.size,#[fl,fh]),(w5_.heap.size,#[gl,gh]),(w4_.heap.size,#[dl,dh]),((w3_.heap.size+1),#[ql,qh]),(w3_.heap.size,#[pl,ph]),((w.heap.size+1+1+1+1),#[al,ah]),((w.heap.size+1+1+1),#[pl,ph,ql,qh,ul,uh,yl,yh]),((w.heap.size+1+1),#[al,ah]),((w.heap.size+1),#[o0,o1,o2,o3,o4,o5]),(w.heap.size,#[i0,i1,i2,i3,i4,i5])] _):=Hd (((((((((M.o.setIn 11 rfl 0 (pl:Value)).setIn 11 rfl 1 (ph:Value)).setIn 11 rfl 2 (ql:Value)).setIn 11 rfl 3 (qh:Value)).setIn 11 rfl 4 (ul:Value)).setIn 11 rfl 5 (uh:Value)).setIn 11 rfl 6 (yl:Value)).setIn 11 rfl 7 (yh:Value)).to (by rfl))
  go_wp2;obtain⟨f1,f2,f3,f4,f5,f6,f7,f8⟩:=(M.o.nth 11 rfl).eight;exact bodyPost_ret (v:=.tuple #[.agg #[.float .f64 pl,.float .f64 ph,.float .f64 ql,.float .f64 qh,.float .f64 ul,.float .f64 uh,.float .f64 yl,.float .f64 yh],.int .i64 0]) (by simp [results,Tryz.results189,go_sem,f1,f2,f3,f4,f5,f6,f7,f8]) rfl ⟨rfl,M.o.base⟩
 ·clear hX
  have kc:=(M.o.nth 11 rfl).2.1;have kf:=(M.o.nth 11 rfl).2.2;replace M:Hid (Own w [((w6_.heap.size+1),#[.int .i64 er8]),(W10_.heap.size,#[.int .i64 eh,.int .i64 ed,.int .i64 eg,.int .i64 ef,.int .i64 er8]),(p11_1,#[yl,yh]),(p10_1,#[ul,uh]),(w7_.heap.size,#[wl,wh]),(w6_.heap.size,#[fl,fh]),(w5_.heap.size,#[gl,gh]),(w4_.heap.size,#[dl,dh]),((w3_.heap.size+1),#[ql,qh]),(w3_.heap.size,#[pl,ph]),((w.heap.size+1+1+1+1),#[al,ah]),((w.heap.size+1+1+1),#[(),(),(),(),(),(),(),()]),((w.heap.size+1+1),#[al,ah]),((w.heap.size+1),#[o0,o1,o2,o3,o4,o5]),(w.heap.size,#[i0,i1,i2,i3,i4,i5])] _):=Hd (((((((((M.o.setIn 11 rfl 0 (.float .f64 0)).setIn 11 rfl 1 (.float .f64 0)).setIn 11 rfl 2 (.float .f64 0)).setIn 11 rfl 3 (.float .f64 0)).setIn 11 rfl 4 (.float .f64 0)).setIn 11 rfl 5 (.float .f64 0)).setIn 11 rfl 6 (.float .f64 0)).setIn 11 rfl 7 (.float .f64 0)).to (by rfl));go_wp2;obtain⟨f1,f2,f3,f4,f5,f6,f7,f8⟩:=(M.o.nth 11 rfl).eight
  exact bodyPost_ret (v:=.tuple #[.agg #[.float .f64 0,.float .f64 0,.float .f64 0,.float .f64 0,.float .f64 0,.float .f64 0,.float .f64 0,.float .f64 0],.int .i64 ez]) (by simp [results,Tryz.results189,go_sem,f1,f2,f3,f4,f5,f6,f7,f8]) rfl ⟨rfl,M.o.base⟩
section
variable {w v:World} {pb:Nat} {rl rh sl sh tl th ul uh:Nat} {ek:Nat→Int} {l:RowL} {a0 a:Act} {p:List (Option Nat)}
end
section
variable {w v:World} {pb:Nat} {zl zh xl xh yl yh:Nat} {ek:Nat→Int} {l:RowL} {a0 a:Act} {p:List (Option Nat)}
end
end
end Go.Proofs.YtnaomilkgfkegaaGreat
