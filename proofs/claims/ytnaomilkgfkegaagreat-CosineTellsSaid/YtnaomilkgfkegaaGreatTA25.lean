/- What the claim stands on, part 26: CoA. -/
import Derived.Test.YtnaomilkgfkegaaGreatTA23
import Derived.Deep.RegionHeld3
set_option maxHeartbeats 16000000
set_option maxRecDepth 100000
namespace Go.Proofs.YtnaomilkgfkegaaGreat
section
open Go.RowKit
attribute [local go_sem] run_store_float
theorem run_store_fun (P:Program) (w:World) (a:Addr) (m:Mode) (f:Fn) (t c:Array Value):(store a (.func f t c) m).run P w=stored P w a (.func f t c) m:=run_store P w a _ m rfl
attribute [local go_sem] run_store_fun
theorem Below.again {B:Nat} {w v:World} (h:Below B w v) {p:Addr} {x:Value} (k:v.cell? p=some x):Below B w (v.setCell p x):=
 ⟨h.os,h.tape,h.output,by rw [size_set]; exact h.size,fun i hi=>(set_self v p x k i).trans (h.block i hi)⟩
theorem or2_ok (q:Nat) (w:World) (h:Has1 w (q,#[.int .i64 0,.int .i64 0])):Calls Tryz.prog 36 #[.slice (some ⟨q,0,none⟩) 2 2] w fun r w'=>r = .returned (.int .i64 0)∧Below w.heap.size w w':=by
 have k0:w.cell? ⟨q,0,none⟩=some (.int .i64 0):=h.2.1 0
 have k1:w.cell? ⟨q,1,none⟩=some (.int .i64 0):=h.2.1 1
 clear h
 go_enter Tryz.func36,Tryz.ntmps36
 go_wp2
 refine wp_loop_rounds 3 ?_
 rw [rounds_succ]
 go_wp2_with fail
 rw [rounds_succ]
 go_wp2_with fail
 rw [rounds_succ]
 go_wp2
 go_ret
 exact ⟨rfl,Below.refl _ _⟩
section
variable {P:Program} {ops:Array Oper} {Q:Exit→Act→World→Prop} {md:Region.Mode} {S:World→Prop}
theorem lpx_ccccccccccp_1 {a0:Act} {B v:World} {l:List (Nat×Array Value)} {x:Nat×Array Value} (_:Hid (Own B (x :: l) v)) {w0:World} {L0:Array Bool} (c1 c2 c3 c4 c5 c6 c7 c8 c9 c10 c11 m1:Nat) (slots:List Nat) (N:Nat) (J:List (Nat×Array Value)→Act→Nat→List (Option Nat)→Act→World→Prop) (hok:latOkP [false,false,false,false,false,false,false,false,false,false,true] md ops L0 [c1,c2,c3,c4,c5,c6,c7,c8,c9,c10,c11] [m1]=true)
   (hsl:(slots.all fun s=>decide (s < a0.tmps.size))=true) (h0:∀ A:Act,(∀ s,s∈slots→s < A.tmps.size)→J l A 0 (List.replicate 1 none) A w0)
   (hS:∀ k p a w,J l a0 k p a w→S w)
   (k1:∀ p a w,J l a0 0 p a w→wpOp P ops Q c1 (fun b v=>J l a0 1 p b v) a w)
   (k2:∀ p a w,J l a0 1 p a w→wpOp P ops Q c2 (fun b v=>J l a0 2 p b v) a w)
   (k3:∀ p a w,J l a0 2 p a w→wpOp P ops Q c3 (fun b v=>J l a0 3 p b v) a w)
   (k4:∀ p a w,J l a0 3 p a w→wpOp P ops Q c4 (fun b v=>J l a0 4 p b v) a w)
   (k5:∀ p a w,J l a0 4 p a w→wpOp P ops Q c5 (fun b v=>J l a0 5 p b v) a w)
   (k6:∀ p a w,J l a0 5 p a w→wpOp P ops Q c6 (fun b v=>J l a0 6 p b v) a w)
   (k7:∀ p a w,J l a0 6 p a w→wpOp P ops Q c7 (fun b v=>J l a0 7 p b v) a w)
   (k8:∀ p a w,J l a0 7 p a w→wpOp P ops Q c8 (fun b v=>J l a0 8 p b v) a w)
   (k9:∀ p a w,J l a0 8 p a w→wpOp P ops Q c9 (fun b v=>J l a0 9 p b v) a w)
   (k10:∀ p a w,J l a0 9 p a w→wpOp P ops Q c10 (fun b v=>J l a0 10 p b v) a w)
   (k11:∀ p a w,J l a0 10 p a w→∃ o x,ops[c11]? = some o∧YieldsIf P ops S o x a∧(∀ c a w,Q (.panic c) (a.put o.dst x) w→Q (.panic c) a w)∧J l a0 11 p (a.put o.dst x) w)
   (n1:∀ k p a w,p[0]? = some none→J l a0 k p a w→wpOp P ops Q m1 (fun b v=>∃ q,J l a0 k (p.set 0 (some q)) b v) a w)
   (fin:∀ q1 a w,J l a0 11 [some q1] a w→wpAnyV P md ops Q S [] N (lstOf L0 [c1,c2,c3,c4,c5,c6,c7,c8,c9,c10,c11] [m1] 11 [true]) a w) :
   wpAnyV P md ops Q S [] (N+12) L0 a0 w0:=by
 refine latP_from (pl:=[false,false,false,false,false,false,false,false,false,false,true]) [c1,c2,c3,c4,c5,c6,c7,c8,c9,c10,c11] [m1] slots N 12 (J l) hok rfl hsl h0 hS (fun k i p a w hk hn hJ=>?_) (fun k i p a w hk hn hJ=>?_) (fun k m i p a w hm hp hJ=>?_) (fun p a w hp hall hJ=>?_)
 · rcases k with _ | _ | _ | _ | _ | _ | _ | _ | _ | _ | _ | k
   · obtain rfl:c1=i:=by simpa using hk
     exact k1 p a w hJ
   · obtain rfl:c2=i:=by simpa using hk
     exact k2 p a w hJ
   · obtain rfl:c3=i:=by simpa using hk
     exact k3 p a w hJ
   · obtain rfl:c4=i:=by simpa using hk
     exact k4 p a w hJ
   · obtain rfl:c5=i:=by simpa using hk
     exact k5 p a w hJ
   · obtain rfl:c6=i:=by simpa using hk
     exact k6 p a w hJ
   · obtain rfl:c7=i:=by simpa using hk
     exact k7 p a w hJ
   · obtain rfl:c8=i:=by simpa using hk
     exact k8 p a w hJ
   · obtain rfl:c9=i:=by simpa using hk
     exact k9 p a w hJ
   · obtain rfl:c10=i:=by simpa using hk
     exact k10 p a w hJ
   · exact absurd hn (by decide)
   · simp at hk
 · rcases k with _ | _ | _ | _ | _ | _ | _ | _ | _ | _ | _ | k
   · exact absurd hn (by decide)
   · exact absurd hn (by decide)
   · exact absurd hn (by decide)
   · exact absurd hn (by decide)
   · exact absurd hn (by decide)
   · exact absurd hn (by decide)
   · exact absurd hn (by decide)
   · exact absurd hn (by decide)
   · exact absurd hn (by decide)
   · exact absurd hn (by decide)
   · obtain rfl:c11=i:=by simpa using hk
     exact k11 p a w hJ
   · simp at hk
 · rcases m with _ | m
   · obtain rfl:m1=i:=by simpa using hm
     exact n1 k p a w hp hJ
   · simp at hm
 · obtain⟨q1,rfl⟩:=fin_one hp hall
   exact fin q1 a w hJ
theorem lp_cccp_1 {a0:Act} {B v:World} {l:List (Nat×Array Value)} (_:Hid (Own B l v)) {w0:World} {L0:Array Bool} (c1 c2 c3 c4 m1:Nat) (slots:List Nat) (N:Nat) (J:List (Nat×Array Value)→Act→Nat→List (Option Nat)→Act→World→Prop) (hok:latOkP [false,false,false,true] md ops L0 [c1,c2,c3,c4] [m1]=true)
   (hsl:(slots.all fun s=>decide (s < a0.tmps.size))=true) (h0:∀ A:Act,(∀ s,s∈slots→s < A.tmps.size)→J l A 0 (List.replicate 1 none) A w0)
   (hS:∀ k p a w,J l a0 k p a w→S w)
   (k1:∀ p a w,J l a0 0 p a w→wpOp P ops Q c1 (fun b v=>J l a0 1 p b v) a w)
   (k2:∀ p a w,J l a0 1 p a w→wpOp P ops Q c2 (fun b v=>J l a0 2 p b v) a w)
   (k3:∀ p a w,J l a0 2 p a w→wpOp P ops Q c3 (fun b v=>J l a0 3 p b v) a w)
   (k4:∀ p a w,J l a0 3 p a w→∃ o x,ops[c4]? = some o∧YieldsIf P ops S o x a∧(∀ c a w,Q (.panic c) (a.put o.dst x) w→Q (.panic c) a w)∧J l a0 4 p (a.put o.dst x) w)
   (n1:∀ k p a w,p[0]? = some none→J l a0 k p a w→wpOp P ops Q m1 (fun b v=>∃ q,J l a0 k (p.set 0 (some q)) b v) a w)
   (fin:∀ q1 a w,J l a0 4 [some q1] a w→wpAnyV P md ops Q S [] N (lstOf L0 [c1,c2,c3,c4] [m1] 4 [true]) a w) :
   wpAnyV P md ops Q S [] (N+5) L0 a0 w0:=by
 refine latP_from (pl:=[false,false,false,true]) [c1,c2,c3,c4] [m1] slots N 5 (J l) hok rfl hsl h0 hS (fun k i p a w hk hn hJ=>?_) (fun k i p a w hk hn hJ=>?_) (fun k m i p a w hm hp hJ=>?_) (fun p a w hp hall hJ=>?_)
 · rcases k with _ | _ | _ | _ | k
   · obtain rfl:c1=i:=by simpa using hk
     exact k1 p a w hJ
   · obtain rfl:c2=i:=by simpa using hk
     exact k2 p a w hJ
   · obtain rfl:c3=i:=by simpa using hk
     exact k3 p a w hJ
   · exact absurd hn (by decide)
   · simp at hk
 · rcases k with _ | _ | _ | _ | k
   · exact absurd hn (by decide)
   · exact absurd hn (by decide)
   · exact absurd hn (by decide)
   · obtain rfl:c4=i:=by simpa using hk
     exact k4 p a w hJ
   · simp at hk
 · rcases m with _ | m
   · obtain rfl:m1=i:=by simpa using hm
     exact n1 k p a w hp hJ
   · simp at hm
 · obtain⟨q1,rfl⟩:=fin_one hp hall
   exact fin q1 a w hJ
end
theorem cclamped_walk {li gr al ah tl rl th rh:Nat} (w:World)
   (m_tl:(∀ ts t w,(Builtin.max_ ts t #[.float .f64 al,.float .f64 li]).run Tryz.prog w = .ok (.float .f64 tl) w))
   (m_rl:(∀ ts t w,(Builtin.min_ ts t #[.float .f64 tl,.float .f64 gr]).run Tryz.prog w = .ok (.float .f64 rl) w))
   (m_th:(∀ ts t w,(Builtin.max_ ts t #[.float .f64 ah,.float .f64 li]).run Tryz.prog w = .ok (.float .f64 th) w))
   (m_rh:(∀ ts t w,(Builtin.min_ ts t #[.float .f64 th,.float .f64 gr]).run Tryz.prog w = .ok (.float .f64 rh) w)) :
   Calls Tryz.prog 31 #[.agg #[.float .f64 al,.float .f64 ah],.float .f64 li,.float .f64 gr] w fun r w'=>r = .returned (.agg #[.float .f64 rl,.float .f64 rh])∧Below w.heap.size w w':=by
 have M:=Lib.hid (((Own.nil w).made #[.float .f64 al,.float .f64 ah] 31).made #[.float .f64 rl,.float .f64 rh] 31)
 simp only [World.size_alloc] at M
 have eqF:=eq_floats
 go_enter Tryz.func31,Tryz.ntmps31
 obtain⟨k1,k2⟩:=(M.out.nth 1 rfl).two
 go_wp2
 obtain⟨f1,f2⟩:=(M.out.nth 0 rfl).two
 exact bodyPost_ret (v:=.agg #[.float .f64 rl,.float .f64 rh]) (by simp [results,Tryz.results31,go_sem,f1,f2]) rfl ⟨rfl,M.out.base⟩
def cdJ5 (w:World) (pb:Nat) (pl ph xl xh ql qh yl yh dl dh ml mh gl gh zl zh:Nat) (l:RowL) (a0:Act) (k:Nat) (p:List (Option Nat)) (a:Act) (v:World):Prop:=
 ∃ y1 y2 y3 y4 y5 y6 y7 y8 y9 y10 y11 z1:Value,a=((((((((((((a0.put (some 27) y1).put (some 28) y2).put (some 31) y3).put (some 32) y4).put (some 33) y5).put (some 35) y6).put (some 36) y7).put (some 37) y8).put (some 38) y9).put (some 39) y10).put (some 40) y11).put (some 12) z1)∧(0 < k→y1 = .agg #[.float .f64 pl,.float .f64 ph])∧(1 < k→y2 = .agg #[.float .f64 xl,.float .f64 xh])∧(2 < k→y3 = .agg #[.float .f64 ql,.float .f64 qh])∧(3 < k→y4 = .agg #[.float .f64 yl,.float .f64 yh])∧(4 < k→y5 = .agg #[.float .f64 4607182418800017408,.float .f64 4607182418800017408])∧(5 < k→y6 = .agg #[.float .f64 dl,.float .f64 dh])∧(6 < k→y7 = .agg #[.float .f64 0,.float .f64 0])∧(7 < k→y8 = .agg #[.float .f64 ml,.float .f64 mh])∧(8 < k→y9 = .agg #[.float .f64 gl,.float .f64 gh])∧(9 < k→y10 = .agg #[.float .f64 zl,.float .f64 zh])∧(10 < k→y11 = .agg #[.float .f64 xl,.float .f64 xh,.float .f64 yl,.float .f64 yh,.float .f64 zl,.float .f64 zh])∧(∀ q,p[0]? = some (some q)→z1 = .pointer (some ⟨q,0,none⟩))∧OwnF w ((pb,#[.int .i64 0]) :: l) [#[.float .f64 0,.float .f64 0,.float .f64 0,.float .f64 0,.float .f64 0,.float .f64 0]] p v
section
variable {w v:World} {pb:Nat} {pl ph xl xh ql qh yl yh dl dh ml mh gl gh zl zh:Nat} {l:RowL} {a0 a:Act} {p:List (Option Nat)}
theorem cdJ5_0 (h:cdJ5 w pb pl ph xl xh ql qh yl yh dl dh ml mh gl gh zl zh l a0 0 p a v):∃ y1 y2 y3 y4 y5 y6 y7 y8 y9 y10 y11 z1:Value,a=((((((((((((a0.put (some 27) y1).put (some 28) y2).put (some 31) y3).put (some 32) y4).put (some 33) y5).put (some 35) y6).put (some 36) y7).put (some 37) y8).put (some 38) y9).put (some 39) y10).put (some 40) y11).put (some 12) z1)∧(∀ q,p[0]? = some (some q)→z1 = .pointer (some ⟨q,0,none⟩))∧OwnF w ((pb,#[.int .i64 0]) :: l) [#[.float .f64 0,.float .f64 0,.float .f64 0,.float .f64 0,.float .f64 0,.float .f64 0]] p v:=by
 obtain⟨y1,y2,y3,y4,y5,y6,y7,y8,y9,y10,y11,z1,ha,E1,E2,E3,E4,E5,E6,E7,E8,E9,E10,E11,G1,h⟩:=h
 exact ⟨y1,y2,y3,y4,y5,y6,y7,y8,y9,y10,y11,z1,ha,G1,h⟩
theorem cdJ5_1 (h:cdJ5 w pb pl ph xl xh ql qh yl yh dl dh ml mh gl gh zl zh l a0 1 p a v):∃ y2 y3 y4 y5 y6 y7 y8 y9 y10 y11 z1:Value,a=((((((((((((a0.put (some 27) (.agg #[.float .f64 pl,.float .f64 ph])).put (some 28) y2).put (some 31) y3).put (some 32) y4).put (some 33) y5).put (some 35) y6).put (some 36) y7).put (some 37) y8).put (some 38) y9).put (some 39) y10).put (some 40) y11).put (some 12) z1)∧(∀ q,p[0]? = some (some q)→z1 = .pointer (some ⟨q,0,none⟩))∧OwnF w ((pb,#[.int .i64 0]) :: l) [#[.float .f64 0,.float .f64 0,.float .f64 0,.float .f64 0,.float .f64 0,.float .f64 0]] p v:=by
 obtain⟨y1,y2,y3,y4,y5,y6,y7,y8,y9,y10,y11,z1,ha,E1,E2,E3,E4,E5,E6,E7,E8,E9,E10,E11,G1,h⟩:=h
 obtain rfl:=E1 (by decide)
 exact ⟨y2,y3,y4,y5,y6,y7,y8,y9,y10,y11,z1,ha,G1,h⟩
theorem cdJ5_2 (h:cdJ5 w pb pl ph xl xh ql qh yl yh dl dh ml mh gl gh zl zh l a0 2 p a v):∃ y3 y4 y5 y6 y7 y8 y9 y10 y11 z1:Value,a=((((((((((((a0.put (some 27) (.agg #[.float .f64 pl,.float .f64 ph])).put (some 28) (.agg #[.float .f64 xl,.float .f64 xh])).put (some 31) y3).put (some 32) y4).put (some 33) y5).put (some 35) y6).put (some 36) y7).put (some 37) y8).put (some 38) y9).put (some 39) y10).put (some 40) y11).put (some 12) z1)∧(∀ q,p[0]? = some (some q)→z1 = .pointer (some ⟨q,0,none⟩))∧OwnF w ((pb,#[.int .i64 0]) :: l) [#[.float .f64 0,.float .f64 0,.float .f64 0,.float .f64 0,.float .f64 0,.float .f64 0]] p v:=by
 obtain⟨y1,y2,y3,y4,y5,y6,y7,y8,y9,y10,y11,z1,ha,E1,E2,E3,E4,E5,E6,E7,E8,E9,E10,E11,G1,h⟩:=h
 obtain rfl:=E1 (by decide)
 obtain rfl:=E2 (by decide)
 exact ⟨y3,y4,y5,y6,y7,y8,y9,y10,y11,z1,ha,G1,h⟩
theorem cdJ5_3 (h:cdJ5 w pb pl ph xl xh ql qh yl yh dl dh ml mh gl gh zl zh l a0 3 p a v):∃ y4 y5 y6 y7 y8 y9 y10 y11 z1:Value,a=((((((((((((a0.put (some 27) (.agg #[.float .f64 pl,.float .f64 ph])).put (some 28) (.agg #[.float .f64 xl,.float .f64 xh])).put (some 31) (.agg #[.float .f64 ql,.float .f64 qh])).put (some 32) y4).put (some 33) y5).put (some 35) y6).put (some 36) y7).put (some 37) y8).put (some 38) y9).put (some 39) y10).put (some 40) y11).put (some 12) z1)∧(∀ q,p[0]? = some (some q)→z1 = .pointer (some ⟨q,0,none⟩))∧OwnF w ((pb,#[.int .i64 0]) :: l) [#[.float .f64 0,.float .f64 0,.float .f64 0,.float .f64 0,.float .f64 0,.float .f64 0]] p v:=by
 obtain⟨y1,y2,y3,y4,y5,y6,y7,y8,y9,y10,y11,z1,ha,E1,E2,E3,E4,E5,E6,E7,E8,E9,E10,E11,G1,h⟩:=h
 obtain rfl:=E1 (by decide)
 obtain rfl:=E2 (by decide)
 obtain rfl:=E3 (by decide)
 exact ⟨y4,y5,y6,y7,y8,y9,y10,y11,z1,ha,G1,h⟩
theorem cdJ5_4 (h:cdJ5 w pb pl ph xl xh ql qh yl yh dl dh ml mh gl gh zl zh l a0 4 p a v):∃ y5 y6 y7 y8 y9 y10 y11 z1:Value,a=((((((((((((a0.put (some 27) (.agg #[.float .f64 pl,.float .f64 ph])).put (some 28) (.agg #[.float .f64 xl,.float .f64 xh])).put (some 31) (.agg #[.float .f64 ql,.float .f64 qh])).put (some 32) (.agg #[.float .f64 yl,.float .f64 yh])).put (some 33) y5).put (some 35) y6).put (some 36) y7).put (some 37) y8).put (some 38) y9).put (some 39) y10).put (some 40) y11).put (some 12) z1)∧(∀ q,p[0]? = some (some q)→z1 = .pointer (some ⟨q,0,none⟩))∧OwnF w ((pb,#[.int .i64 0]) :: l) [#[.float .f64 0,.float .f64 0,.float .f64 0,.float .f64 0,.float .f64 0,.float .f64 0]] p v:=by
 obtain⟨y1,y2,y3,y4,y5,y6,y7,y8,y9,y10,y11,z1,ha,E1,E2,E3,E4,E5,E6,E7,E8,E9,E10,E11,G1,h⟩:=h
 obtain rfl:=E1 (by decide)
 obtain rfl:=E2 (by decide)
 obtain rfl:=E3 (by decide)
 obtain rfl:=E4 (by decide)
 exact ⟨y5,y6,y7,y8,y9,y10,y11,z1,ha,G1,h⟩
theorem cdJ5_5 (h:cdJ5 w pb pl ph xl xh ql qh yl yh dl dh ml mh gl gh zl zh l a0 5 p a v):∃ y6 y7 y8 y9 y10 y11 z1:Value,a=((((((((((((a0.put (some 27) (.agg #[.float .f64 pl,.float .f64 ph])).put (some 28) (.agg #[.float .f64 xl,.float .f64 xh])).put (some 31) (.agg #[.float .f64 ql,.float .f64 qh])).put (some 32) (.agg #[.float .f64 yl,.float .f64 yh])).put (some 33) (.agg #[.float .f64 4607182418800017408,.float .f64 4607182418800017408])).put (some 35) y6).put (some 36) y7).put (some 37) y8).put (some 38) y9).put (some 39) y10).put (some 40) y11).put (some 12) z1)∧(∀ q,p[0]? = some (some q)→z1 = .pointer (some ⟨q,0,none⟩))∧OwnF w ((pb,#[.int .i64 0]) :: l) [#[.float .f64 0,.float .f64 0,.float .f64 0,.float .f64 0,.float .f64 0,.float .f64 0]] p v:=by
 obtain⟨y1,y2,y3,y4,y5,y6,y7,y8,y9,y10,y11,z1,ha,E1,E2,E3,E4,E5,E6,E7,E8,E9,E10,E11,G1,h⟩:=h
 obtain rfl:=E1 (by decide)
 obtain rfl:=E2 (by decide)
 obtain rfl:=E3 (by decide)
 obtain rfl:=E4 (by decide)
 obtain rfl:=E5 (by decide)
 exact ⟨y6,y7,y8,y9,y10,y11,z1,ha,G1,h⟩
theorem cdJ5_6 (h:cdJ5 w pb pl ph xl xh ql qh yl yh dl dh ml mh gl gh zl zh l a0 6 p a v):∃ y7 y8 y9 y10 y11 z1:Value,a=((((((((((((a0.put (some 27) (.agg #[.float .f64 pl,.float .f64 ph])).put (some 28) (.agg #[.float .f64 xl,.float .f64 xh])).put (some 31) (.agg #[.float .f64 ql,.float .f64 qh])).put (some 32) (.agg #[.float .f64 yl,.float .f64 yh])).put (some 33) (.agg #[.float .f64 4607182418800017408,.float .f64 4607182418800017408])).put (some 35) (.agg #[.float .f64 dl,.float .f64 dh])).put (some 36) y7).put (some 37) y8).put (some 38) y9).put (some 39) y10).put (some 40) y11).put (some 12) z1)∧(∀ q,p[0]? = some (some q)→z1 = .pointer (some ⟨q,0,none⟩))∧OwnF w ((pb,#[.int .i64 0]) :: l) [#[.float .f64 0,.float .f64 0,.float .f64 0,.float .f64 0,.float .f64 0,.float .f64 0]] p v:=by
 obtain⟨y1,y2,y3,y4,y5,y6,y7,y8,y9,y10,y11,z1,ha,E1,E2,E3,E4,E5,E6,E7,E8,E9,E10,E11,G1,h⟩:=h
 obtain rfl:=E1 (by decide)
 obtain rfl:=E2 (by decide)
 obtain rfl:=E3 (by decide)
 obtain rfl:=E4 (by decide)
 obtain rfl:=E5 (by decide)
 obtain rfl:=E6 (by decide)
 exact ⟨y7,y8,y9,y10,y11,z1,ha,G1,h⟩
theorem cdJ5_7 (h:cdJ5 w pb pl ph xl xh ql qh yl yh dl dh ml mh gl gh zl zh l a0 7 p a v):∃ y8 y9 y10 y11 z1:Value,a=((((((((((((a0.put (some 27) (.agg #[.float .f64 pl,.float .f64 ph])).put (some 28) (.agg #[.float .f64 xl,.float .f64 xh])).put (some 31) (.agg #[.float .f64 ql,.float .f64 qh])).put (some 32) (.agg #[.float .f64 yl,.float .f64 yh])).put (some 33) (.agg #[.float .f64 4607182418800017408,.float .f64 4607182418800017408])).put (some 35) (.agg #[.float .f64 dl,.float .f64 dh])).put (some 36) (.agg #[.float .f64 0,.float .f64 0])).put (some 37) y8).put (some 38) y9).put (some 39) y10).put (some 40) y11).put (some 12) z1)∧(∀ q,p[0]? = some (some q)→z1 = .pointer (some ⟨q,0,none⟩))∧OwnF w ((pb,#[.int .i64 0]) :: l) [#[.float .f64 0,.float .f64 0,.float .f64 0,.float .f64 0,.float .f64 0,.float .f64 0]] p v:=by
 obtain⟨y1,y2,y3,y4,y5,y6,y7,y8,y9,y10,y11,z1,ha,E1,E2,E3,E4,E5,E6,E7,E8,E9,E10,E11,G1,h⟩:=h
 obtain rfl:=E1 (by decide)
 obtain rfl:=E2 (by decide)
 obtain rfl:=E3 (by decide)
 obtain rfl:=E4 (by decide)
 obtain rfl:=E5 (by decide)
 obtain rfl:=E6 (by decide)
 obtain rfl:=E7 (by decide)
 exact ⟨y8,y9,y10,y11,z1,ha,G1,h⟩
theorem cdJ5_8 (h:cdJ5 w pb pl ph xl xh ql qh yl yh dl dh ml mh gl gh zl zh l a0 8 p a v):∃ y9 y10 y11 z1:Value,a=((((((((((((a0.put (some 27) (.agg #[.float .f64 pl,.float .f64 ph])).put (some 28) (.agg #[.float .f64 xl,.float .f64 xh])).put (some 31) (.agg #[.float .f64 ql,.float .f64 qh])).put (some 32) (.agg #[.float .f64 yl,.float .f64 yh])).put (some 33) (.agg #[.float .f64 4607182418800017408,.float .f64 4607182418800017408])).put (some 35) (.agg #[.float .f64 dl,.float .f64 dh])).put (some 36) (.agg #[.float .f64 0,.float .f64 0])).put (some 37) (.agg #[.float .f64 ml,.float .f64 mh])).put (some 38) y9).put (some 39) y10).put (some 40) y11).put (some 12) z1)∧(∀ q,p[0]? = some (some q)→z1 = .pointer (some ⟨q,0,none⟩))∧OwnF w ((pb,#[.int .i64 0]) :: l) [#[.float .f64 0,.float .f64 0,.float .f64 0,.float .f64 0,.float .f64 0,.float .f64 0]] p v:=by
 obtain⟨y1,y2,y3,y4,y5,y6,y7,y8,y9,y10,y11,z1,ha,E1,E2,E3,E4,E5,E6,E7,E8,E9,E10,E11,G1,h⟩:=h
 obtain rfl:=E1 (by decide)
 obtain rfl:=E2 (by decide)
 obtain rfl:=E3 (by decide)
 obtain rfl:=E4 (by decide)
 obtain rfl:=E5 (by decide)
 obtain rfl:=E6 (by decide)
 obtain rfl:=E7 (by decide)
 obtain rfl:=E8 (by decide)
 exact ⟨y9,y10,y11,z1,ha,G1,h⟩
theorem cdJ5_9 (h:cdJ5 w pb pl ph xl xh ql qh yl yh dl dh ml mh gl gh zl zh l a0 9 p a v):∃ y10 y11 z1:Value,a=((((((((((((a0.put (some 27) (.agg #[.float .f64 pl,.float .f64 ph])).put (some 28) (.agg #[.float .f64 xl,.float .f64 xh])).put (some 31) (.agg #[.float .f64 ql,.float .f64 qh])).put (some 32) (.agg #[.float .f64 yl,.float .f64 yh])).put (some 33) (.agg #[.float .f64 4607182418800017408,.float .f64 4607182418800017408])).put (some 35) (.agg #[.float .f64 dl,.float .f64 dh])).put (some 36) (.agg #[.float .f64 0,.float .f64 0])).put (some 37) (.agg #[.float .f64 ml,.float .f64 mh])).put (some 38) (.agg #[.float .f64 gl,.float .f64 gh])).put (some 39) y10).put (some 40) y11).put (some 12) z1)∧(∀ q,p[0]? = some (some q)→z1 = .pointer (some ⟨q,0,none⟩))∧OwnF w ((pb,#[.int .i64 0]) :: l) [#[.float .f64 0,.float .f64 0,.float .f64 0,.float .f64 0,.float .f64 0,.float .f64 0]] p v:=by
 obtain⟨y1,y2,y3,y4,y5,y6,y7,y8,y9,y10,y11,z1,ha,E1,E2,E3,E4,E5,E6,E7,E8,E9,E10,E11,G1,h⟩:=h
 obtain rfl:=E1 (by decide)
 obtain rfl:=E2 (by decide)
 obtain rfl:=E3 (by decide)
 obtain rfl:=E4 (by decide)
 obtain rfl:=E5 (by decide)
 obtain rfl:=E6 (by decide)
 obtain rfl:=E7 (by decide)
 obtain rfl:=E8 (by decide)
 obtain rfl:=E9 (by decide)
 exact ⟨y10,y11,z1,ha,G1,h⟩
theorem cdJ5_10 (h:cdJ5 w pb pl ph xl xh ql qh yl yh dl dh ml mh gl gh zl zh l a0 10 p a v):∃ y11 z1:Value,a=((((((((((((a0.put (some 27) (.agg #[.float .f64 pl,.float .f64 ph])).put (some 28) (.agg #[.float .f64 xl,.float .f64 xh])).put (some 31) (.agg #[.float .f64 ql,.float .f64 qh])).put (some 32) (.agg #[.float .f64 yl,.float .f64 yh])).put (some 33) (.agg #[.float .f64 4607182418800017408,.float .f64 4607182418800017408])).put (some 35) (.agg #[.float .f64 dl,.float .f64 dh])).put (some 36) (.agg #[.float .f64 0,.float .f64 0])).put (some 37) (.agg #[.float .f64 ml,.float .f64 mh])).put (some 38) (.agg #[.float .f64 gl,.float .f64 gh])).put (some 39) (.agg #[.float .f64 zl,.float .f64 zh])).put (some 40) y11).put (some 12) z1)∧(∀ q,p[0]? = some (some q)→z1 = .pointer (some ⟨q,0,none⟩))∧OwnF w ((pb,#[.int .i64 0]) :: l) [#[.float .f64 0,.float .f64 0,.float .f64 0,.float .f64 0,.float .f64 0,.float .f64 0]] p v:=by
 obtain⟨y1,y2,y3,y4,y5,y6,y7,y8,y9,y10,y11,z1,ha,E1,E2,E3,E4,E5,E6,E7,E8,E9,E10,E11,G1,h⟩:=h
 obtain rfl:=E1 (by decide)
 obtain rfl:=E2 (by decide)
 obtain rfl:=E3 (by decide)
 obtain rfl:=E4 (by decide)
 obtain rfl:=E5 (by decide)
 obtain rfl:=E6 (by decide)
 obtain rfl:=E7 (by decide)
 obtain rfl:=E8 (by decide)
 obtain rfl:=E9 (by decide)
 obtain rfl:=E10 (by decide)
 exact ⟨y11,z1,ha,G1,h⟩
theorem cdJ5_fin {q1:Nat} (h:cdJ5 w pb pl ph xl xh ql qh yl yh dl dh ml mh gl gh zl zh l a0 11 [some q1] a v):a=((((((((((((a0.put (some 27) (.agg #[.float .f64 pl,.float .f64 ph])).put (some 28) (.agg #[.float .f64 xl,.float .f64 xh])).put (some 31) (.agg #[.float .f64 ql,.float .f64 qh])).put (some 32) (.agg #[.float .f64 yl,.float .f64 yh])).put (some 33) (.agg #[.float .f64 4607182418800017408,.float .f64 4607182418800017408])).put (some 35) (.agg #[.float .f64 dl,.float .f64 dh])).put (some 36) (.agg #[.float .f64 0,.float .f64 0])).put (some 37) (.agg #[.float .f64 ml,.float .f64 mh])).put (some 38) (.agg #[.float .f64 gl,.float .f64 gh])).put (some 39) (.agg #[.float .f64 zl,.float .f64 zh])).put (some 40) (.agg #[.float .f64 xl,.float .f64 xh,.float .f64 yl,.float .f64 yh,.float .f64 zl,.float .f64 zh])).put (some 12) (.pointer (some ⟨q1,0,none⟩)))∧OwnF w ((pb,#[.int .i64 0]) :: l) [#[.float .f64 0,.float .f64 0,.float .f64 0,.float .f64 0,.float .f64 0,.float .f64 0]] [some q1] v:=by
 obtain⟨y1,y2,y3,y4,y5,y6,y7,y8,y9,y10,y11,z1,ha,E1,E2,E3,E4,E5,E6,E7,E8,E9,E10,E11,G1,h⟩:=h
 obtain rfl:=E1 (by decide)
 obtain rfl:=E2 (by decide)
 obtain rfl:=E3 (by decide)
 obtain rfl:=E4 (by decide)
 obtain rfl:=E5 (by decide)
 obtain rfl:=E6 (by decide)
 obtain rfl:=E7 (by decide)
 obtain rfl:=E8 (by decide)
 obtain rfl:=E9 (by decide)
 obtain rfl:=E10 (by decide)
 obtain rfl:=E11 (by decide)
 obtain rfl:=G1 _ rfl
 exact ⟨ha,h⟩
end
theorem draw_walk {u o al ah bl bh sl sh cl ch jl jh pl ph xl xh ql qh yl yh dl dh ml mh gl gh zl zh:Nat} (w:World)
   (c1:Hid (∀ w,Calls Tryz.prog 28 #[.int .u64 u] w fun r w'=>r = .returned (.agg #[.float .f64 al,.float .f64 ah])∧Below w.heap.size w w'))
   (c2:Hid (∀ w,Calls Tryz.prog 28 #[.int .u64 o] w fun r w'=>r = .returned (.agg #[.float .f64 bl,.float .f64 bh])∧Below w.heap.size w w'))
   (c3:Hid (∀ w,Calls Tryz.prog 29 #[.agg #[.float .f64 bl,.float .f64 bh]] w fun r w'=>r = .returned (.tuple #[.agg #[.float .f64 sl,.float .f64 sh],.agg #[.float .f64 cl,.float .f64 ch],.int .i64 0])∧Below w.heap.size w w'))
   (d4:Hid (K1 30 0 0 al ah jl jh))
   (d5:Hid (K2 32 0 0 jl jh cl ch pl ph))
   (c6:Hid (∀ w,Calls Tryz.prog 31 #[.agg #[.float .f64 pl,.float .f64 ph],.float .f64 13830554455654793216,.float .f64 4607182418800017408] w fun r w'=>r = .returned (.agg #[.float .f64 xl,.float .f64 xh])∧Below w.heap.size w w'))
   (d7:Hid (K2 32 0 0 jl jh sl sh ql qh))
   (c8:Hid (∀ w,Calls Tryz.prog 31 #[.agg #[.float .f64 ql,.float .f64 qh],.float .f64 13830554455654793216,.float .f64 4607182418800017408] w fun r w'=>r = .returned (.agg #[.float .f64 yl,.float .f64 yh])∧Below w.heap.size w w'))
   (d9:Hid (KN 35 0 0 4607182418800017408 4607182418800017408 4607182418800017408))
   (d10:Hid (K2 34 0 0 4607182418800017408 4607182418800017408 al ah dl dh))
   (d11:Hid (KN 35 0 0 0 0 0))
   (d12:Hid (K2 33 0 0 dl dh 0 0 ml mh))
   (d13:Hid (K1 30 0 0 ml mh gl gh))
   (c14:Hid (∀ w,Calls Tryz.prog 31 #[.agg #[.float .f64 gl,.float .f64 gh],.float .f64 0,.float .f64 4607182418800017408] w fun r w'=>r = .returned (.agg #[.float .f64 zl,.float .f64 zh])∧Below w.heap.size w w')) :
   Calls Tryz.prog 13 #[.int .u64 u,.int .u64 o] w fun r w'=>r = .returned (.tuple #[.agg #[.float .f64 xl,.float .f64 xh,.float .f64 yl,.float .f64 yh,.float .f64 zl,.float .f64 zh],.int .i64 0])∧Below w.heap.size w w':=by
 have M:=Lib.hid ((Own.nil w).made #[.float .f64 0,.float .f64 0,.float .f64 0,.float .f64 0,.float .f64 0,.float .f64 0] 33)
 have eqF:=eq_floats
 go_enter Tryz.func13,Tryz.ntmps13
 go_wp2_with fail
 refine (c1.out _).mono ?_
 rintro r w1_ ⟨rfl,hb⟩
 replace M:=Lib.hid (M.out.below hb)
 clear hb
 replace M:=Lib.hid (M.out.made #[.float .f64 al,.float .f64 ah] 31)
 go_wp2_with fail
 refine (c2.out _).mono ?_
 rintro r w2_ ⟨rfl,hb⟩
 replace M:=Lib.hid (M.out.below hb)
 clear hb
 go_wp2_with fail
 refine (c3.out _).mono ?_
 rintro r w3_ ⟨rfl,hb⟩
 replace M:=Lib.hid (M.out.below hb)
 clear hb
 replace M:=Lib.hid (M.out.made #[.float .f64 sl,.float .f64 sh] 31)
 replace M:=Lib.hid (M.out.made #[.float .f64 cl,.float .f64 ch] 31)
 replace M:=Lib.hid (M.out.made #[.int .i64 0] 74)
 simp only [World.size_alloc] at M
 obtain⟨k1,k2⟩:=(M.out.nth 3 rfl).two
 go_wp2_with fail
 refine (d4.out _ _ (M.out.nth 0 rfl)).mono ?_
 rintro r w4_ ⟨rfl,hb⟩
 replace M:Hid (Own w [((w3_.heap.size+2),#[.int .i64 0]),((w3_.heap.size+1),#[.float .f64 cl,.float .f64 ch]),(w3_.heap.size,#[.float .f64 sl,.float .f64 sh]),(w1_.heap.size,#[.float .f64 al,.float .f64 ah]),(w.heap.size,#[.float .f64 0,.float .f64 0,.float .f64 0,.float .f64 0,.float .f64 0,.float .f64 0])] w4_):=Lib.hid (M.out.putAt 0 rfl hb)
 clear hb
 clear k1 k2
 replace M:=Lib.hid (M.out.made #[.float .f64 jl,.float .f64 jh] 31).front
 go_upto_region 5 with fail
 replace M:=Lib.hid M.out.drew
 revert M
 generalize (w4_.alloc (.cells #[.float .f64 jl,.float .f64 jh] 31))=W5_
 intro M
 refine wp_region_noPanic ?_
 refine tails_region (S:=fun w'=>(w'.cell? ⟨w4_.heap.size,0,none⟩=some (.float .f64 jl)∧w'.cell? ⟨w4_.heap.size,1,none⟩=some (.float .f64 jh))∧(w'.cell? ⟨(w3_.heap.size+1),0,none⟩=some (.float .f64 cl)∧w'.cell? ⟨(w3_.heap.size+1),1,none⟩=some (.float .f64 ch))∧(w'.cell? ⟨w3_.heap.size,0,none⟩=some (.float .f64 sl)∧w'.cell? ⟨w3_.heap.size,1,none⟩=some (.float .f64 sh))∧(w'.cell? ⟨w1_.heap.size,0,none⟩=some (.float .f64 al)∧w'.cell? ⟨w1_.heap.size,1,none⟩=some (.float .f64 ah))) [] (by kernel_rfl) ?_ (fun hS=>?_)
 · exact ⟨(M.out.nth 1 rfl).two,(M.out.nth 2 rfl).two,(M.out.nth 3 rfl).two,(M.out.nth 4 rfl).two⟩
 refine tk (x:=?_) 0 rfl (by kernel_rfl) ⟨by kernel_rfl,?_⟩ (fun _ _ _ h=>h) hS ?_
 rotate_left; focus (intro w hSw; (try dsimp only at hSw); go_simp; try with_reducible rfl)
 refine tk (x:=?_) 1 rfl (by kernel_rfl) ⟨by kernel_rfl,?_⟩ (fun _ _ _ h=>h) hS ?_
 rotate_left; focus (intro w hSw; (try dsimp only at hSw); go_simp; try with_reducible rfl)
 refine tk (x:=?_) 4 rfl (by kernel_rfl) ⟨by kernel_rfl,?_⟩ (fun _ _ _ h=>h) hS ?_
 rotate_left; focus (intro w hSw; (try dsimp only at hSw); go_simp; try with_reducible rfl)
 refine tk (x:=?_) 5 rfl (by kernel_rfl) ⟨by kernel_rfl,?_⟩ (fun _ _ _ h=>h) hS ?_
 rotate_left; focus (intro w hSw; (try dsimp only at hSw); go_simp; try with_reducible rfl)
 refine tk (x:=?_) 9 rfl (by kernel_rfl) ⟨by kernel_rfl,?_⟩ (fun _ _ _ h=>h) hS ?_
 rotate_left; focus (intro w hSw; (try dsimp only at hSw); go_simp; try with_reducible rfl)
 conv=>arg 9; simp only [Act.put,go_sem]
 refine lpx_ccccccccccp_1 M 2 3 6 7 8 10 11 12 13 14 15 16 [27,28,31,32,33,35,36,37,38,39,40,12] 1 (cdJ5 w (w3_.heap.size+2) pl ph xl xh ql qh yl yh dl dh ml mh gl gh zl zh) (by kernel_rfl) (by kernel_rfl) ?_ ?_ ?_ ?_ ?_ ?_ ?_ ?_ ?_ ?_ ?_ ?_ ?_ ?_ ?_
 · intro A hA
   obtain⟨y1,hq1⟩:=put_ex (hA 27 (by simp))
   obtain⟨y2,hq2⟩:=put_ex (hA 28 (by simp))
   obtain⟨y3,hq3⟩:=put_ex (hA 31 (by simp))
   obtain⟨y4,hq4⟩:=put_ex (hA 32 (by simp))
   obtain⟨y5,hq5⟩:=put_ex (hA 33 (by simp))
   obtain⟨y6,hq6⟩:=put_ex (hA 35 (by simp))
   obtain⟨y7,hq7⟩:=put_ex (hA 36 (by simp))
   obtain⟨y8,hq8⟩:=put_ex (hA 37 (by simp))
   obtain⟨y9,hq9⟩:=put_ex (hA 38 (by simp))
   obtain⟨y10,hq10⟩:=put_ex (hA 39 (by simp))
   obtain⟨y11,hq11⟩:=put_ex (hA 40 (by simp))
   obtain⟨z1,hq12⟩:=put_ex (hA 12 (by simp))
   exact ⟨y1,y2,y3,y4,y5,y6,y7,y8,y9,y10,y11,z1,by rw [hq1,hq2,hq3,hq4,hq5,hq6,hq7,hq8,hq9,hq10,hq11,hq12],by omega,by omega,by omega,by omega,by omega,by omega,by omega,by omega,by omega,by omega,by omega,by simp,OwnF.start M.out 1⟩
 · rintro k p a v ⟨y1,y2,y3,y4,y5,y6,y7,y8,y9,y10,y11,z1,_,_,_,_,_,_,_,_,_,_,_,_,_,h⟩
   exact ⟨(h.own.nth 1 rfl).two,(h.own.nth 2 rfl).two,(h.own.nth 3 rfl).two,(h.own.nth 4 rfl).two⟩
 · intro p a v hJ
   refine op_step (o:=_) rfl (fun K hK=>?_)
   obtain⟨y1,y2,y3,y4,y5,y6,y7,y8,y9,y10,y11,z1,ha,gg1,h⟩:=cdJ5_0 hJ
   have h:=Lib.hid h
   clear hJ
   subst ha
   go_simp
   refine (d5.out _ _ (h.out.own.nth 0 rfl)).mono ?_
   rintro rr w5 ⟨rfl,hp⟩
   try go_wp2_with fail
   refine hK.out _ _ ⟨_,y2,y3,y4,y5,y6,y7,y8,y9,y10,y11,z1,?_,fun _=>rfl,by omega,by omega,by omega,by omega,by omega,by omega,by omega,by omega,by omega,by omega,gg1,h.out.putHead hp⟩
   kernel_rfl
 · intro p a v hJ
   refine op_step (o:=_) rfl (fun K hK=>?_)
   obtain⟨y2,y3,y4,y5,y6,y7,y8,y9,y10,y11,z1,ha,gg1,h⟩:=cdJ5_1 hJ
   have h:=Lib.hid h
   clear hJ
   subst ha
   go_simp
   refine (c6.out _).mono ?_
   rintro rr w5 ⟨rfl,hp⟩
   try go_wp2_with fail
   refine hK.out _ _ ⟨_,_,y3,y4,y5,y6,y7,y8,y9,y10,y11,z1,?_,fun _=>rfl,fun _=>rfl,by omega,by omega,by omega,by omega,by omega,by omega,by omega,by omega,by omega,gg1,h.out.below hp⟩
   kernel_rfl
 · intro p a v hJ
   refine op_step (o:=_) rfl (fun K hK=>?_)
   obtain⟨y3,y4,y5,y6,y7,y8,y9,y10,y11,z1,ha,gg1,h⟩:=cdJ5_2 hJ
   have h:=Lib.hid h
   clear hJ
   subst ha
   go_simp
   refine (d7.out _ _ (h.out.own.nth 0 rfl)).mono ?_
   rintro rr w5 ⟨rfl,hp⟩
   try go_wp2_with fail
   refine hK.out _ _ ⟨_,_,_,y4,y5,y6,y7,y8,y9,y10,y11,z1,?_,fun _=>rfl,fun _=>rfl,fun _=>rfl,by omega,by omega,by omega,by omega,by omega,by omega,by omega,by omega,gg1,h.out.putHead hp⟩
   kernel_rfl
 · intro p a v hJ
   refine op_step (o:=_) rfl (fun K hK=>?_)
   obtain⟨y4,y5,y6,y7,y8,y9,y10,y11,z1,ha,gg1,h⟩:=cdJ5_3 hJ
   have h:=Lib.hid h
   clear hJ
   subst ha
   go_simp
   refine (c8.out _).mono ?_
   rintro rr w5 ⟨rfl,hp⟩
   try go_wp2_with fail
   refine hK.out _ _ ⟨_,_,_,_,y5,y6,y7,y8,y9,y10,y11,z1,?_,fun _=>rfl,fun _=>rfl,fun _=>rfl,fun _=>rfl,by omega,by omega,by omega,by omega,by omega,by omega,by omega,gg1,h.out.below hp⟩
   kernel_rfl
 · intro p a v hJ
   refine op_step (o:=_) rfl (fun K hK=>?_)
   obtain⟨y5,y6,y7,y8,y9,y10,y11,z1,ha,gg1,h⟩:=cdJ5_4 hJ
   have h:=Lib.hid h
   clear hJ
   subst ha
   go_simp
   refine (d9.out _ _ (h.out.own.nth 0 rfl)).mono ?_
   rintro rr w5 ⟨rfl,hp⟩
   try go_wp2_with fail
   refine hK.out _ _ ⟨_,_,_,_,_,y6,y7,y8,y9,y10,y11,z1,?_,fun _=>rfl,fun _=>rfl,fun _=>rfl,fun _=>rfl,fun _=>rfl,by omega,by omega,by omega,by omega,by omega,by omega,gg1,h.out.putHead hp⟩
   kernel_rfl
 · intro p a v hJ
   refine op_step (o:=_) rfl (fun K hK=>?_)
   obtain⟨y6,y7,y8,y9,y10,y11,z1,ha,gg1,h⟩:=cdJ5_5 hJ
   have h:=Lib.hid h
   clear hJ
   subst ha
   go_simp
   refine (d10.out _ _ (h.out.own.nth 0 rfl)).mono ?_
   rintro rr w5 ⟨rfl,hp⟩
   try go_wp2_with fail
   refine hK.out _ _ ⟨_,_,_,_,_,_,y7,y8,y9,y10,y11,z1,?_,fun _=>rfl,fun _=>rfl,fun _=>rfl,fun _=>rfl,fun _=>rfl,fun _=>rfl,by omega,by omega,by omega,by omega,by omega,gg1,h.out.putHead hp⟩
   kernel_rfl
 · intro p a v hJ
   refine op_step (o:=_) rfl (fun K hK=>?_)
   obtain⟨y7,y8,y9,y10,y11,z1,ha,gg1,h⟩:=cdJ5_6 hJ
   have h:=Lib.hid h
   clear hJ
   subst ha
   go_simp
   refine (d11.out _ _ (h.out.own.nth 0 rfl)).mono ?_
   rintro rr w5 ⟨rfl,hp⟩
   try go_wp2_with fail
   refine hK.out _ _ ⟨_,_,_,_,_,_,_,y8,y9,y10,y11,z1,?_,fun _=>rfl,fun _=>rfl,fun _=>rfl,fun _=>rfl,fun _=>rfl,fun _=>rfl,fun _=>rfl,by omega,by omega,by omega,by omega,gg1,h.out.putHead hp⟩
   kernel_rfl
 · intro p a v hJ
   refine op_step (o:=_) rfl (fun K hK=>?_)
   obtain⟨y8,y9,y10,y11,z1,ha,gg1,h⟩:=cdJ5_7 hJ
   have h:=Lib.hid h
   clear hJ
   subst ha
   go_simp
   refine (d12.out _ _ (h.out.own.nth 0 rfl)).mono ?_
   rintro rr w5 ⟨rfl,hp⟩
   try go_wp2_with fail
   refine hK.out _ _ ⟨_,_,_,_,_,_,_,_,y9,y10,y11,z1,?_,fun _=>rfl,fun _=>rfl,fun _=>rfl,fun _=>rfl,fun _=>rfl,fun _=>rfl,fun _=>rfl,fun _=>rfl,by omega,by omega,by omega,gg1,h.out.putHead hp⟩
   kernel_rfl
 · intro p a v hJ
   refine op_step (o:=_) rfl (fun K hK=>?_)
   obtain⟨y9,y10,y11,z1,ha,gg1,h⟩:=cdJ5_8 hJ
   have h:=Lib.hid h
   clear hJ
   subst ha
   go_simp
   refine (d13.out _ _ (h.out.own.nth 0 rfl)).mono ?_
   rintro rr w5 ⟨rfl,hp⟩
   try go_wp2_with fail
   refine hK.out _ _ ⟨_,_,_,_,_,_,_,_,_,y10,y11,z1,?_,fun _=>rfl,fun _=>rfl,fun _=>rfl,fun _=>rfl,fun _=>rfl,fun _=>rfl,fun _=>rfl,fun _=>rfl,fun _=>rfl,by omega,by omega,gg1,h.out.putHead hp⟩
   kernel_rfl
 · intro p a v hJ
   refine op_step (o:=_) rfl (fun K hK=>?_)
   obtain⟨y10,y11,z1,ha,gg1,h⟩:=cdJ5_9 hJ
   have h:=Lib.hid h
   clear hJ
   subst ha
   go_simp
   refine (c14.out _).mono ?_
   rintro rr w5 ⟨rfl,hp⟩
   try go_wp2_with fail
   refine hK.out _ _ ⟨_,_,_,_,_,_,_,_,_,_,y11,z1,?_,fun _=>rfl,fun _=>rfl,fun _=>rfl,fun _=>rfl,fun _=>rfl,fun _=>rfl,fun _=>rfl,fun _=>rfl,fun _=>rfl,fun _=>rfl,by omega,gg1,h.out.below hp⟩
   kernel_rfl
 · intro p a v hJ
   replace hJ:=cdJ5_10 hJ
   refine Exists.elim hJ (fun y11 hJ=>?_)
   refine Exists.elim hJ (fun z1 hJ=>?_)
   have ha:=hJ.1
   have gg1:=hJ.2.1
   have h:=hJ.2.2
   clear hJ
   subst ha
   refine ⟨_,.agg #[.float .f64 xl,.float .f64 xh,.float .f64 yl,.float .f64 yh,.float .f64 zl,.float .f64 zh],rfl,Or.inl ⟨by kernel_rfl,?_⟩,(fun _ _ _ h=>h),_,_,_,_,_,_,_,_,_,_,_,z1,?_,fun _=>rfl,fun _=>rfl,fun _=>rfl,fun _=>rfl,fun _=>rfl,fun _=>rfl,fun _=>rfl,fun _=>rfl,fun _=>rfl,fun _=>rfl,fun _=>rfl,gg1,h⟩
   · intro w hSw; clear hSw h; go_simp; try with_reducible rfl
   · kernel_rfl
 · intro k p a v hp hJ
   refine op_step (o:=_) rfl (fun K hK=>?_)
   obtain⟨y1,y2,y3,y4,y5,y6,y7,y8,y9,y10,y11,z1,ha,ee1,ee2,ee3,ee4,ee5,ee6,ee7,ee8,ee9,ee10,ee11,gg1,h⟩:=hJ
   have h:=Lib.hid h
   subst ha
   go_simp
   refine hK.out _ _ ⟨v.heap.size,y1,y2,y3,y4,y5,y6,y7,y8,y9,y10,y11,.pointer (some ⟨v.heap.size,0,none⟩),?_,ee1,ee2,ee3,ee4,ee5,ee6,ee7,ee8,ee9,ee10,ee11,fun q hq=>ptr_set hq,h.out.alloc hp rfl _⟩
   kernel_rfl
 intro p5_1 a v hJ
 obtain⟨rfl,h⟩:=cdJ5_fin hJ
 clear hJ
 replace M:=Lib.hid h.fin1
 clear h
 refine tails_one (T:=[]) (i:=17) (o:=_) rfl (by kernel_rfl) (fun K hK=>?_)
 have kc:=(M.out.nth 0 rfl).2.1
 have kf:=(M.out.nth 0 rfl).2.2
 replace M:Hid (Own w [(p5_1,#[.float .f64 xl,.float .f64 xh,.float .f64 yl,.float .f64 yh,.float .f64 zl,.float .f64 zh]),((w3_.heap.size+2),#[.int .i64 0]),(w4_.heap.size,#[.float .f64 jl,.float .f64 jh]),((w3_.heap.size+1),#[.float .f64 cl,.float .f64 ch]),(w3_.heap.size,#[.float .f64 sl,.float .f64 sh]),(w1_.heap.size,#[.float .f64 al,.float .f64 ah]),(w.heap.size,#[.float .f64 0,.float .f64 0,.float .f64 0,.float .f64 0,.float .f64 0,.float .f64 0])] _):=Lib.hid (M.out.set6 0 rfl (.float .f64 xl) (.float .f64 xh) (.float .f64 yl) (.float .f64 yh) (.float .f64 zl) (.float .f64 zh))
 go_simp
 refine hK.out _ _ (Or.inr ⟨(M.out.nth 2 rfl).two,(M.out.nth 3 rfl).two,(M.out.nth 4 rfl).two,(M.out.nth 5 rfl).two⟩) (fun hHeld=>?_)
 clear hK K hHeld kc kf
 refine tails_done (by kernel_rfl) ?_ _
 refine NoPanic.normal ?_
 clear hS
 replace M:Hid (Own w [((w3_.heap.size+2),#[.int .i64 0]),(p5_1,#[.float .f64 xl,.float .f64 xh,.float .f64 yl,.float .f64 yh,.float .f64 zl,.float .f64 zh]),(w4_.heap.size,#[.float .f64 jl,.float .f64 jh]),((w3_.heap.size+1),#[.float .f64 cl,.float .f64 ch]),(w3_.heap.size,#[.float .f64 sl,.float .f64 sh]),(w1_.heap.size,#[.float .f64 al,.float .f64 ah]),(w.heap.size,#[.float .f64 0,.float .f64 0,.float .f64 0,.float .f64 0,.float .f64 0,.float .f64 0])] _):=Lib.hid M.out.front
 revert M
 generalize ((((((v.setCell ⟨p5_1,0,none⟩ (.float .f64 xl)).setCell ⟨p5_1,1,none⟩ (.float .f64 xh)).setCell ⟨p5_1,2,none⟩ (.float .f64 yl)).setCell ⟨p5_1,3,none⟩ (.float .f64 yh)).setCell ⟨p5_1,4,none⟩ (.float .f64 zl)).setCell ⟨p5_1,5,none⟩ (.float .f64 zh))=W6_
 intro M
 go_wp2_with fail
 refine (err_any 0 _ 0 _ (M.out.nth 0 rfl).pc).mono ?_
 rintro r w7_ ⟨rfl,rfl⟩
 replace M:=Lib.hid (M.out.made #[.int .i64 0,.int .i64 0] 38).front
 go_wp2_with fail
 refine (or2_ok _ _ (M.out.nth 1 rfl)).mono ?_
 rintro r w8_ ⟨rfl,hb⟩
 replace M:=Lib.hid (M.out.below hb)
 clear hb
 obtain⟨k1,k2,k3,k4,k5,k6⟩:=(M.out.nth 2 rfl).six
 have kc:=(M.out.nth 7 rfl).2.1
 have kf:=(M.out.nth 7 rfl).2.2
 replace M:Hid (Own w [((w3_.heap.size+2),#[.int .i64 0]),(W6_.heap.size,#[.int .i64 0,.int .i64 0]),(p5_1,#[.float .f64 xl,.float .f64 xh,.float .f64 yl,.float .f64 yh,.float .f64 zl,.float .f64 zh]),(w4_.heap.size,#[.float .f64 jl,.float .f64 jh]),((w3_.heap.size+1),#[.float .f64 cl,.float .f64 ch]),(w3_.heap.size,#[.float .f64 sl,.float .f64 sh]),(w1_.heap.size,#[.float .f64 al,.float .f64 ah]),(w.heap.size,#[.float .f64 xl,.float .f64 xh,.float .f64 yl,.float .f64 yh,.float .f64 zl,.float .f64 zh])] _):=Lib.hid (M.out.set6 7 rfl (.float .f64 xl) (.float .f64 xh) (.float .f64 yl) (.float .f64 yh) (.float .f64 zl) (.float .f64 zh))
 go_wp2
 obtain⟨f1,f2,f3,f4,f5,f6⟩:=(M.out.nth 7 rfl).six
 exact bodyPost_ret (v:=.tuple #[.agg #[.float .f64 xl,.float .f64 xh,.float .f64 yl,.float .f64 yh,.float .f64 zl,.float .f64 zh],.int .i64 0]) (by simp [results,Tryz.results13,go_sem,f1,f2,f3,f4,f5,f6]) rfl ⟨rfl,M.out.base⟩
theorem downSub_walk (a b x q:Nat) (w:World) (hQ:Has1 w (q,#[.int .i64 0]))
   (cO:Hid (∀ w,Calls Tryz.prog 51 #[.float .f64 a,.float .f64 b,.bool false] w fun r w'=>r = .returned (.tuple #[.float .f64 x,.int .i64 0])∧Below w.heap.size w w')) :
   Calls Tryz.prog 47 #[.func (.func 51) #[] #[],.float .f64 a,.float .f64 b,.pointer (some ⟨q,0,none⟩)] w fun r w'=>r = .returned (.float .f64 x)∧Below w.heap.size w w':=by
 go_enter Tryz.func47,Tryz.ntmps47
 go_wp2_with fail
 refine (cO.out _).mono ?_
 rintro r w1 ⟨rfl,hb⟩
 have k:=(Has1.below hQ hb).pc
 have kf:=(Has1.below hQ hb).2.2
 have B:=Lib.hid (Below.again hb k)
 clear hb hQ cO
 go_wp2
 go_ret
 exact ⟨rfl,B.out⟩
theorem downMul_walk (a b x q:Nat) (w:World) (hQ:Has1 w (q,#[.int .i64 0]))
   (cO:Hid (∀ w,Calls Tryz.prog 50 #[.float .f64 a,.float .f64 b,.bool false] w fun r w'=>r = .returned (.tuple #[.float .f64 x,.int .i64 0])∧Below w.heap.size w w')) :
   Calls Tryz.prog 47 #[.func (.func 50) #[] #[],.float .f64 a,.float .f64 b,.pointer (some ⟨q,0,none⟩)] w fun r w'=>r = .returned (.float .f64 x)∧Below w.heap.size w w':=by
 go_enter Tryz.func47,Tryz.ntmps47
 go_wp2_with fail
 refine (cO.out _).mono ?_
 rintro r w1 ⟨rfl,hb⟩
 have k:=(Has1.below hQ hb).pc
 have kf:=(Has1.below hQ hb).2.2
 have B:=Lib.hid (Below.again hb k)
 clear hb hQ cO
 go_wp2
 go_ret
 exact ⟨rfl,B.out⟩
theorem downAdd_walk (a b x q:Nat) (w:World) (hQ:Has1 w (q,#[.int .i64 0]))
   (cO:Hid (∀ w,Calls Tryz.prog 49 #[.float .f64 a,.float .f64 b,.bool false] w fun r w'=>r = .returned (.tuple #[.float .f64 x,.int .i64 0])∧Below w.heap.size w w')) :
   Calls Tryz.prog 47 #[.func (.func 49) #[] #[],.float .f64 a,.float .f64 b,.pointer (some ⟨q,0,none⟩)] w fun r w'=>r = .returned (.float .f64 x)∧Below w.heap.size w w':=by
 go_enter Tryz.func47,Tryz.ntmps47
 go_wp2_with fail
 refine (cO.out _).mono ?_
 rintro r w1 ⟨rfl,hb⟩
 have k:=(Has1.below hQ hb).pc
 have kf:=(Has1.below hQ hb).2.2
 have B:=Lib.hid (Below.again hb k)
 clear hb hQ cO
 go_wp2
 go_ret
 exact ⟨rfl,B.out⟩
theorem middle_walk {al ah d g m:Nat} (w:World) (p q:Nat) (hP:Hid (Has1 w (p,#[.func (.func 47) #[] #[.pointer (some ⟨q,0,none⟩)]]))) (hQ:Hid (Has1 w (q,#[.int .i64 0])))
   (c1:Hid (∀ v,Has1 v (q,#[.int .i64 0])→Calls Tryz.prog 47 #[.func (.func 51) #[] #[],.float .f64 ah,.float .f64 al,.pointer (some ⟨q,0,none⟩)] v fun r w'=>r = .returned (.float .f64 d)∧Below v.heap.size v w'))
   (c2:Hid (∀ v,Has1 v (q,#[.int .i64 0])→Calls Tryz.prog 47 #[.func (.func 50) #[] #[],.float .f64 4602678819172646912,.float .f64 d,.pointer (some ⟨q,0,none⟩)] v fun r w'=>r = .returned (.float .f64 g)∧Below v.heap.size v w'))
   (c3:Hid (∀ v,Has1 v (q,#[.int .i64 0])→Calls Tryz.prog 47 #[.func (.func 49) #[] #[],.float .f64 al,.float .f64 g,.pointer (some ⟨q,0,none⟩)] v fun r w'=>r = .returned (.float .f64 m)∧Below v.heap.size v w')) :
   Calls Tryz.prog 48 #[.agg #[.float .f64 al,.float .f64 ah],.pointer (some ⟨p,0,none⟩)] w fun r w'=>r = .returned (.float .f64 m)∧Below w.heap.size w w':=by
 have M:=Lib.hid ((Own.nil w).made #[.float .f64 al,.float .f64 ah] 31)
 have eqF:=eq_floats
 go_enter Tryz.func48,Tryz.ntmps48
 go_upto_region 1 with fail
 replace M:=Lib.hid M.out.drew
 revert M
 generalize (w.alloc (.cells #[.float .f64 al,.float .f64 ah] 31))=W0_
 intro M
 refine wp_region_noPanic ?_
 refine tails_region (S:=fun w'=>(w'.cell? ⟨p,0,none⟩=some (.func (.func 47) #[] #[.pointer (some ⟨q,0,none⟩)]))∧(w'.cell? ⟨w.heap.size,0,none⟩=some (.float .f64 al)∧w'.cell? ⟨w.heap.size,1,none⟩=some (.float .f64 ah))) [] (by kernel_rfl) ?_ (fun hS=>?_)
 · exact ⟨(hP.out.below M.out.base).pc,(M.out.nth 0 rfl).two⟩
 refine tk (x:=?_) 0 rfl (by kernel_rfl) ⟨by kernel_rfl,?_⟩ (fun _ _ _ h=>h) hS ?_
 rotate_left; focus (intro w hSw; (try dsimp only at hSw); go_simp; try with_reducible rfl)
 refine tk (x:=?_) 1 rfl (by kernel_rfl) ⟨by kernel_rfl,?_⟩ (fun _ _ _ h=>h) hS ?_
 rotate_left; focus (intro w hSw; (try dsimp only at hSw); go_simp; try with_reducible rfl)
 refine tk (x:=?_) 2 rfl (by kernel_rfl) ⟨by kernel_rfl,?_⟩ (fun _ _ _ h=>h) hS ?_
 rotate_left; focus (intro w hSw; (try dsimp only at hSw); go_simp; try with_reducible rfl)
 refine tk (x:=?_) 3 rfl (by kernel_rfl) ⟨by kernel_rfl,?_⟩ (fun _ _ _ h=>h) hS ?_
 rotate_left; focus (intro w hSw; (try dsimp only at hSw); go_simp; try with_reducible rfl)
 refine tk (x:=?_) 4 rfl (by kernel_rfl) ⟨by kernel_rfl,?_⟩ (fun _ _ _ h=>h) hS ?_
 rotate_left; focus (intro w hSw; (try dsimp only at hSw); go_simp; try with_reducible rfl)
 refine tk (x:=?_) 5 rfl (by kernel_rfl) ⟨by kernel_rfl,?_⟩ (fun _ _ _ h=>h) hS ?_
 rotate_left; focus (intro w hSw; (try dsimp only at hSw); go_simp; try with_reducible rfl)
 refine tk (x:=?_) 6 rfl (by kernel_rfl) ⟨by kernel_rfl,?_⟩ (fun _ _ _ h=>h) hS ?_
 rotate_left; focus (intro w hSw; (try dsimp only at hSw); go_simp; try with_reducible rfl)
 refine tk (x:=?_) 7 rfl (by kernel_rfl) ⟨by kernel_rfl,?_⟩ (fun _ _ _ h=>h) hS ?_
 rotate_left; focus (intro w hSw; (try dsimp only at hSw); go_simp; try with_reducible rfl)
 refine tk (x:=?_) 8 rfl (by kernel_rfl) ⟨by kernel_rfl,?_⟩ (fun _ _ _ h=>h) hS ?_
 rotate_left; focus (intro w hSw; (try dsimp only at hSw); go_simp; try with_reducible rfl)
 conv=>arg 9; simp only [Act.put,go_sem]
 refine tails_one (T:=[]) (i:=9) (o:=_) rfl (by kernel_rfl) (fun K hK=>?_)
 go_simp
 refine (c1.out _ (hQ.out.below M.out.base)).mono ?_
 rintro rr w1_ ⟨rfl,hb⟩
 replace M:=Lib.hid (M.out.below hb)
 clear hb
 try go_wp2_with fail
 refine hK.out _ _ (Or.inr ⟨(hP.out.below M.out.base).pc,(M.out.nth 0 rfl).two⟩) (fun hHeld=>?_)
 clear hK K hHeld
 replace hS:=(And.intro (hP.out.below M.out.base).pc (M.out.nth 0 rfl).two)
 refine tails_one (T:=[]) (i:=10) (o:=_) rfl (by kernel_rfl) (fun K hK=>?_)
 go_simp
 refine (c2.out _ (hQ.out.below M.out.base)).mono ?_
 rintro rr w2_ ⟨rfl,hb⟩
 replace M:=Lib.hid (M.out.below hb)
 clear hb
 try go_wp2_with fail
 refine hK.out _ _ (Or.inr ⟨(hP.out.below M.out.base).pc,(M.out.nth 0 rfl).two⟩) (fun hHeld=>?_)
 clear hK K hHeld
 replace hS:=(And.intro (hP.out.below M.out.base).pc (M.out.nth 0 rfl).two)
 refine tails_one (T:=[]) (i:=11) (o:=_) rfl (by kernel_rfl) (fun K hK=>?_)
 go_simp
 refine (c3.out _ (hQ.out.below M.out.base)).mono ?_
 rintro rr w3_ ⟨rfl,hb⟩
 replace M:=Lib.hid (M.out.below hb)
 clear hb
 try go_wp2_with fail
 refine hK.out _ _ (Or.inr ⟨(hP.out.below M.out.base).pc,(M.out.nth 0 rfl).two⟩) (fun hHeld=>?_)
 clear hK K hHeld
 replace hS:=(And.intro (hP.out.below M.out.base).pc (M.out.nth 0 rfl).two)
 refine tails_one (T:=[]) (i:=12) (o:=_) rfl (by kernel_rfl) (fun K hK=>?_)
 go_simp
 refine hK.out _ _ (Or.inr ⟨(hP.out.below M.out.base).pc,(M.out.nth 0 rfl).two⟩) (fun hHeld=>?_)
 clear hK K hHeld
 refine tails_done (by kernel_rfl) ?_ _
 refine NoPanic.normal ?_
 clear hS
 go_wp2
 go_ret
 exact ⟨rfl,M.out.base⟩
def ciJ6 (w:World) (m0 m1 m2:Nat) (l:RowL) (a0:Act) (k:Nat) (p:List (Option Nat)) (a:Act) (v:World):Prop:=
 ∃ y1 y2 y3 y4 z1:Value,a=(((((a0.put (some 30) y1).put (some 34) y2).put (some 38) y3).put (some 39) y4).put (some 7) z1)∧(0 < k→y1 = .float .f64 m0)∧(1 < k→y2 = .float .f64 m1)∧(2 < k→y3 = .float .f64 m2)∧(3 < k→y4 = .agg #[.float .f64 m0,.float .f64 m1,.float .f64 m2])∧(∀ q,p[0]? = some (some q)→z1 = .pointer (some ⟨q,0,none⟩))∧OwnF w l [#[.float .f64 0,.float .f64 0,.float .f64 0]] p v
section
variable {w v:World} {m0 m1 m2:Nat} {l:RowL} {a0 a:Act} {p:List (Option Nat)}
theorem ciJ6_0 (h:ciJ6 w m0 m1 m2 l a0 0 p a v):∃ y1 y2 y3 y4 z1:Value,a=(((((a0.put (some 30) y1).put (some 34) y2).put (some 38) y3).put (some 39) y4).put (some 7) z1)∧(∀ q,p[0]? = some (some q)→z1 = .pointer (some ⟨q,0,none⟩))∧OwnF w l [#[.float .f64 0,.float .f64 0,.float .f64 0]] p v:=by
 obtain⟨y1,y2,y3,y4,z1,ha,E1,E2,E3,E4,G1,h⟩:=h
 exact ⟨y1,y2,y3,y4,z1,ha,G1,h⟩
theorem ciJ6_1 (h:ciJ6 w m0 m1 m2 l a0 1 p a v):∃ y2 y3 y4 z1:Value,a=(((((a0.put (some 30) (.float .f64 m0)).put (some 34) y2).put (some 38) y3).put (some 39) y4).put (some 7) z1)∧(∀ q,p[0]? = some (some q)→z1 = .pointer (some ⟨q,0,none⟩))∧OwnF w l [#[.float .f64 0,.float .f64 0,.float .f64 0]] p v:=by
 obtain⟨y1,y2,y3,y4,z1,ha,E1,E2,E3,E4,G1,h⟩:=h
 obtain rfl:=E1 (by decide)
 exact ⟨y2,y3,y4,z1,ha,G1,h⟩
theorem ciJ6_2 (h:ciJ6 w m0 m1 m2 l a0 2 p a v):∃ y3 y4 z1:Value,a=(((((a0.put (some 30) (.float .f64 m0)).put (some 34) (.float .f64 m1)).put (some 38) y3).put (some 39) y4).put (some 7) z1)∧(∀ q,p[0]? = some (some q)→z1 = .pointer (some ⟨q,0,none⟩))∧OwnF w l [#[.float .f64 0,.float .f64 0,.float .f64 0]] p v:=by
 obtain⟨y1,y2,y3,y4,z1,ha,E1,E2,E3,E4,G1,h⟩:=h
 obtain rfl:=E1 (by decide)
 obtain rfl:=E2 (by decide)
 exact ⟨y3,y4,z1,ha,G1,h⟩
theorem ciJ6_3 (h:ciJ6 w m0 m1 m2 l a0 3 p a v):∃ y4 z1:Value,a=(((((a0.put (some 30) (.float .f64 m0)).put (some 34) (.float .f64 m1)).put (some 38) (.float .f64 m2)).put (some 39) y4).put (some 7) z1)∧(∀ q,p[0]? = some (some q)→z1 = .pointer (some ⟨q,0,none⟩))∧OwnF w l [#[.float .f64 0,.float .f64 0,.float .f64 0]] p v:=by
 obtain⟨y1,y2,y3,y4,z1,ha,E1,E2,E3,E4,G1,h⟩:=h
 obtain rfl:=E1 (by decide)
 obtain rfl:=E2 (by decide)
 obtain rfl:=E3 (by decide)
 exact ⟨y4,z1,ha,G1,h⟩
theorem ciJ6_fin {q1:Nat} (h:ciJ6 w m0 m1 m2 l a0 4 [some q1] a v):a=(((((a0.put (some 30) (.float .f64 m0)).put (some 34) (.float .f64 m1)).put (some 38) (.float .f64 m2)).put (some 39) (.agg #[.float .f64 m0,.float .f64 m1,.float .f64 m2])).put (some 7) (.pointer (some ⟨q1,0,none⟩)))∧OwnF w l [#[.float .f64 0,.float .f64 0,.float .f64 0]] [some q1] v:=by
 obtain⟨y1,y2,y3,y4,z1,ha,E1,E2,E3,E4,G1,h⟩:=h
 obtain rfl:=E1 (by decide)
 obtain rfl:=E2 (by decide)
 obtain rfl:=E3 (by decide)
 obtain rfl:=E4 (by decide)
 obtain rfl:=G1 _ rfl
 exact ⟨ha,h⟩
end
theorem mid_walk {a0 a1 a2 a3 a4 a5 m0 m1 m2:Nat} (w:World)
   (c1:Hid (∀ w,Calls Tryz.prog 46 #[.agg #[.float .f64 a0,.float .f64 a1]] w fun r w'=>r = .returned (.bool true)∧Below w.heap.size w w'))
   (c2:Hid (∀ w,Calls Tryz.prog 46 #[.agg #[.float .f64 a2,.float .f64 a3]] w fun r w'=>r = .returned (.bool true)∧Below w.heap.size w w'))
   (c3:Hid (∀ w,Calls Tryz.prog 46 #[.agg #[.float .f64 a4,.float .f64 a5]] w fun r w'=>r = .returned (.bool true)∧Below w.heap.size w w'))
   (c4:Hid (∀ p q v,Has1 v (q,#[.int .i64 0])→Has1 v (p,#[.func (.func 47) #[] #[.pointer (some ⟨q,0,none⟩)]])→Calls Tryz.prog 48 #[.agg #[.float .f64 a0,.float .f64 a1],.pointer (some ⟨p,0,none⟩)] v fun r w'=>r = .returned (.float .f64 m0)∧Below v.heap.size v w'))
   (c5:Hid (∀ p q v,Has1 v (q,#[.int .i64 0])→Has1 v (p,#[.func (.func 47) #[] #[.pointer (some ⟨q,0,none⟩)]])→Calls Tryz.prog 48 #[.agg #[.float .f64 a2,.float .f64 a3],.pointer (some ⟨p,0,none⟩)] v fun r w'=>r = .returned (.float .f64 m1)∧Below v.heap.size v w'))
   (c6:Hid (∀ p q v,Has1 v (q,#[.int .i64 0])→Has1 v (p,#[.func (.func 47) #[] #[.pointer (some ⟨q,0,none⟩)]])→Calls Tryz.prog 48 #[.agg #[.float .f64 a4,.float .f64 a5],.pointer (some ⟨p,0,none⟩)] v fun r w'=>r = .returned (.float .f64 m2)∧Below v.heap.size v w')) :
   Calls Tryz.prog 15 #[.agg #[.float .f64 a0,.float .f64 a1,.float .f64 a2,.float .f64 a3,.float .f64 a4,.float .f64 a5]] w fun r w'=>r = .returned (.tuple #[.agg #[.float .f64 m0,.float .f64 m1,.float .f64 m2],.int .i64 0])∧Below w.heap.size w w':=by
 have M:=Lib.hid (((Own.nil w).made #[.float .f64 a0,.float .f64 a1,.float .f64 a2,.float .f64 a3,.float .f64 a4,.float .f64 a5] 33).made #[.float .f64 0,.float .f64 0,.float .f64 0] 49)
 simp only [World.size_alloc] at M
 have eqF:=eq_floats
 go_enter Tryz.func15,Tryz.ntmps15
 obtain⟨k1,k2,k3,k4,k5,k6⟩:=(M.out.nth 1 rfl).six
 go_wp2_with fail
 refine (c1.out _).mono ?_
 rintro r w1_ ⟨rfl,hb⟩
 replace M:=Lib.hid (M.out.below hb)
 clear hb
 clear k1 k2 k3 k4 k5 k6
 obtain⟨k1,k2,k3,k4,k5,k6⟩:=(M.out.nth 1 rfl).six
 go_wp2_with fail
 refine (c2.out _).mono ?_
 rintro r w2_ ⟨rfl,hb⟩
 replace M:=Lib.hid (M.out.below hb)
 clear hb
 clear k1 k2 k3 k4 k5 k6
 obtain⟨k1,k2,k3,k4,k5,k6⟩:=(M.out.nth 1 rfl).six
 go_wp2_with fail
 refine (c3.out _).mono ?_
 rintro r w3_ ⟨rfl,hb⟩
 replace M:=Lib.hid (M.out.below hb)
 clear hb
 clear k1 k2 k3 k4 k5 k6
 replace M:=Lib.hid (M.out.made #[.int .i64 0] 38)
 replace M:=Lib.hid (M.out.made #[.func (.func 47) #[] #[.pointer (some ⟨w3_.heap.size,0,none⟩)]] 85)
 simp only [World.size_alloc] at M
 go_upto_region 6 with fail
 replace M:=Lib.hid M.out.drew
 revert M
 generalize ((w3_.alloc (.cells #[.int .i64 0] 38)).alloc (.cells #[.func (.func 47) #[] #[.pointer (some ⟨w3_.heap.size,0,none⟩)]] 85))=W4_
 intro M
 refine wp_region_noPanic ?_
 refine tails_region (S:=fun w'=>(w'.cell? ⟨w.heap.size,0,none⟩=some (.float .f64 a0)∧w'.cell? ⟨w.heap.size,1,none⟩=some (.float .f64 a1)∧w'.cell? ⟨w.heap.size,2,none⟩=some (.float .f64 a2)∧w'.cell? ⟨w.heap.size,3,none⟩=some (.float .f64 a3)∧w'.cell? ⟨w.heap.size,4,none⟩=some (.float .f64 a4)∧w'.cell? ⟨w.heap.size,5,none⟩=some (.float .f64 a5))) [] (by kernel_rfl) ?_ (fun hS=>?_)
 · exact (M.out.nth 3 rfl).six
 refine tk (x:=?_) 0 rfl (by kernel_rfl) ⟨by kernel_rfl,?_⟩ (fun _ _ _ h=>h) hS ?_
 rotate_left; focus (intro w hSw; (try dsimp only at hSw); go_simp; try with_reducible rfl)
 refine tk (x:=?_) 1 rfl (by kernel_rfl) ⟨by kernel_rfl,?_⟩ (fun _ _ _ h=>h) hS ?_
 rotate_left; focus (intro w hSw; (try dsimp only at hSw); go_simp; try with_reducible rfl)
 refine tk (x:=?_) 2 rfl (by kernel_rfl) ⟨by kernel_rfl,?_⟩ (fun _ _ _ h=>h) hS ?_
 rotate_left; focus (intro w hSw; (try dsimp only at hSw); go_simp; try with_reducible rfl)
 refine tk (x:=?_) 4 rfl (by kernel_rfl) ⟨by kernel_rfl,?_⟩ (fun _ _ _ h=>h) hS ?_
 rotate_left; focus (intro w hSw; (try dsimp only at hSw); go_simp; try with_reducible rfl)
 refine tk (x:=?_) 5 rfl (by kernel_rfl) ⟨by kernel_rfl,?_⟩ (fun _ _ _ h=>h) hS ?_
 rotate_left; focus (intro w hSw; (try dsimp only at hSw); go_simp; try with_reducible rfl)
 refine tk (x:=?_) 6 rfl (by kernel_rfl) ⟨by kernel_rfl,?_⟩ (fun _ _ _ h=>h) hS ?_
 rotate_left; focus (intro w hSw; (try dsimp only at hSw); go_simp; try with_reducible rfl)
 refine tk (x:=?_) 8 rfl (by kernel_rfl) ⟨by kernel_rfl,?_⟩ (fun _ _ _ h=>h) hS ?_
 rotate_left; focus (intro w hSw; (try dsimp only at hSw); go_simp; try with_reducible rfl)
 refine tk (x:=?_) 9 rfl (by kernel_rfl) ⟨by kernel_rfl,?_⟩ (fun _ _ _ h=>h) hS ?_
 rotate_left; focus (intro w hSw; (try dsimp only at hSw); go_simp; try with_reducible rfl)
 refine tk (x:=?_) 10 rfl (by kernel_rfl) ⟨by kernel_rfl,?_⟩ (fun _ _ _ h=>h) hS ?_
 rotate_left; focus (intro w hSw; (try dsimp only at hSw); go_simp; try with_reducible rfl)
 conv=>arg 9; simp only [Act.put,go_sem]
 refine lp_cccp_1 M 3 7 11 12 13 [30,34,38,39,7] 1 (ciJ6 w m0 m1 m2) (by kernel_rfl) (by kernel_rfl) ?_ ?_ ?_ ?_ ?_ ?_ ?_ ?_
 · intro A hA
   obtain⟨y1,hq1⟩:=put_ex (hA 30 (by simp))
   obtain⟨y2,hq2⟩:=put_ex (hA 34 (by simp))
   obtain⟨y3,hq3⟩:=put_ex (hA 38 (by simp))
   obtain⟨y4,hq4⟩:=put_ex (hA 39 (by simp))
   obtain⟨z1,hq5⟩:=put_ex (hA 7 (by simp))
   exact ⟨y1,y2,y3,y4,z1,by rw [hq1,hq2,hq3,hq4,hq5],by omega,by omega,by omega,by omega,by simp,OwnF.start M.out 1⟩
 · rintro k p a v ⟨y1,y2,y3,y4,z1,_,_,_,_,_,_,h⟩
   exact (h.own.nth 3 rfl).six
 · intro p a v hJ
   refine op_step (o:=_) rfl (fun K hK=>?_)
   obtain⟨y1,y2,y3,y4,z1,ha,gg1,h⟩:=ciJ6_0 hJ
   have h:=Lib.hid h
   clear hJ
   subst ha
   go_simp
   refine (c4.out _ _ _ (h.out.own.nth 1 rfl) (h.out.own.nth 0 rfl)).mono ?_
   rintro rr w5 ⟨rfl,hp⟩
   try go_wp2_with fail
   refine hK.out _ _ ⟨_,y2,y3,y4,z1,?_,fun _=>rfl,by omega,by omega,by omega,gg1,h.out.below hp⟩
   kernel_rfl
 · intro p a v hJ
   refine op_step (o:=_) rfl (fun K hK=>?_)
   obtain⟨y2,y3,y4,z1,ha,gg1,h⟩:=ciJ6_1 hJ
   have h:=Lib.hid h
   clear hJ
   subst ha
   go_simp
   refine (c5.out _ _ _ (h.out.own.nth 1 rfl) (h.out.own.nth 0 rfl)).mono ?_
   rintro rr w5 ⟨rfl,hp⟩
   try go_wp2_with fail
   refine hK.out _ _ ⟨_,_,y3,y4,z1,?_,fun _=>rfl,fun _=>rfl,by omega,by omega,gg1,h.out.below hp⟩
   kernel_rfl
 · intro p a v hJ
   refine op_step (o:=_) rfl (fun K hK=>?_)
   obtain⟨y3,y4,z1,ha,gg1,h⟩:=ciJ6_2 hJ
   have h:=Lib.hid h
   clear hJ
   subst ha
   go_simp
   refine (c6.out _ _ _ (h.out.own.nth 1 rfl) (h.out.own.nth 0 rfl)).mono ?_
   rintro rr w5 ⟨rfl,hp⟩
   try go_wp2_with fail
   refine hK.out _ _ ⟨_,_,_,y4,z1,?_,fun _=>rfl,fun _=>rfl,fun _=>rfl,by omega,gg1,h.out.below hp⟩
   kernel_rfl
 · intro p a v hJ
   replace hJ:=ciJ6_3 hJ
   refine Exists.elim hJ (fun y4 hJ=>?_)
   refine Exists.elim hJ (fun z1 hJ=>?_)
   have ha:=hJ.1
   have gg1:=hJ.2.1
   have h:=hJ.2.2
   clear hJ
   subst ha
   refine ⟨_,.agg #[.float .f64 m0,.float .f64 m1,.float .f64 m2],rfl,Or.inl ⟨by kernel_rfl,?_⟩,(fun _ _ _ h=>h),_,_,_,_,z1,?_,fun _=>rfl,fun _=>rfl,fun _=>rfl,fun _=>rfl,gg1,h⟩
   · intro w hSw; clear hSw h; go_simp; try with_reducible rfl
   · kernel_rfl
 · intro k p a v hp hJ
   refine op_step (o:=_) rfl (fun K hK=>?_)
   obtain⟨y1,y2,y3,y4,z1,ha,ee1,ee2,ee3,ee4,gg1,h⟩:=hJ
   have h:=Lib.hid h
   subst ha
   go_simp
   refine hK.out _ _ ⟨v.heap.size,y1,y2,y3,y4,.pointer (some ⟨v.heap.size,0,none⟩),?_,ee1,ee2,ee3,ee4,fun q hq=>ptr_set hq,h.out.alloc hp rfl _⟩
   kernel_rfl
 intro p6_1 a v hJ
 obtain⟨rfl,h⟩:=ciJ6_fin hJ
 clear hJ
 replace M:=Lib.hid h.fin1
 clear h
 refine tails_one (T:=[]) (i:=14) (o:=_) rfl (by kernel_rfl) (fun K hK=>?_)
 have kc:=(M.out.nth 0 rfl).2.1
 have kf:=(M.out.nth 0 rfl).2.2
 replace M:Hid (Own w [(p6_1,#[.float .f64 m0,.float .f64 0,.float .f64 0]),((w3_.heap.size+1),#[.func (.func 47) #[] #[.pointer (some ⟨w3_.heap.size,0,none⟩)]]),(w3_.heap.size,#[.int .i64 0]),((w.heap.size+1),#[.float .f64 0,.float .f64 0,.float .f64 0]),(w.heap.size,#[.float .f64 a0,.float .f64 a1,.float .f64 a2,.float .f64 a3,.float .f64 a4,.float .f64 a5])] _):=Lib.hid ((M.out.setIn 0 rfl 0 (.float .f64 m0)).to (by rfl))
 replace M:Hid (Own w [(p6_1,#[.float .f64 m0,.float .f64 m1,.float .f64 0]),((w3_.heap.size+1),#[.func (.func 47) #[] #[.pointer (some ⟨w3_.heap.size,0,none⟩)]]),(w3_.heap.size,#[.int .i64 0]),((w.heap.size+1),#[.float .f64 0,.float .f64 0,.float .f64 0]),(w.heap.size,#[.float .f64 a0,.float .f64 a1,.float .f64 a2,.float .f64 a3,.float .f64 a4,.float .f64 a5])] _):=Lib.hid ((M.out.setIn 0 rfl 1 (.float .f64 m1)).to (by rfl))
 replace M:Hid (Own w [(p6_1,#[.float .f64 m0,.float .f64 m1,.float .f64 m2]),((w3_.heap.size+1),#[.func (.func 47) #[] #[.pointer (some ⟨w3_.heap.size,0,none⟩)]]),(w3_.heap.size,#[.int .i64 0]),((w.heap.size+1),#[.float .f64 0,.float .f64 0,.float .f64 0]),(w.heap.size,#[.float .f64 a0,.float .f64 a1,.float .f64 a2,.float .f64 a3,.float .f64 a4,.float .f64 a5])] _):=Lib.hid ((M.out.setIn 0 rfl 2 (.float .f64 m2)).to (by rfl))
 go_simp
 refine hK.out _ _ (Or.inr (M.out.nth 4 rfl).six) (fun hHeld=>?_)
 clear hK K hHeld kc kf
 refine tails_done (by kernel_rfl) ?_ _
 refine NoPanic.normal ?_
 clear hS
 revert M
 generalize (((v.setCell ⟨p6_1,0,none⟩ (.float .f64 m0)).setCell ⟨p6_1,1,none⟩ (.float .f64 m1)).setCell ⟨p6_1,2,none⟩ (.float .f64 m2))=W5_
 intro M
 have k1:=(M.out.nth 2 rfl).pc
 obtain⟨k2,k3,k4⟩:=(M.out.nth 0 rfl).three
 have kc:=(M.out.nth 3 rfl).2.1
 have kf:=(M.out.nth 3 rfl).2.2
 replace M:Hid (Own w [(p6_1,#[.float .f64 m0,.float .f64 m1,.float .f64 m2]),((w3_.heap.size+1),#[.func (.func 47) #[] #[.pointer (some ⟨w3_.heap.size,0,none⟩)]]),(w3_.heap.size,#[.int .i64 0]),((w.heap.size+1),#[.float .f64 m0,.float .f64 0,.float .f64 0]),(w.heap.size,#[.float .f64 a0,.float .f64 a1,.float .f64 a2,.float .f64 a3,.float .f64 a4,.float .f64 a5])] _):=Lib.hid ((M.out.setIn 3 rfl 0 (.float .f64 m0)).to (by rfl))
 replace M:Hid (Own w [(p6_1,#[.float .f64 m0,.float .f64 m1,.float .f64 m2]),((w3_.heap.size+1),#[.func (.func 47) #[] #[.pointer (some ⟨w3_.heap.size,0,none⟩)]]),(w3_.heap.size,#[.int .i64 0]),((w.heap.size+1),#[.float .f64 m0,.float .f64 m1,.float .f64 0]),(w.heap.size,#[.float .f64 a0,.float .f64 a1,.float .f64 a2,.float .f64 a3,.float .f64 a4,.float .f64 a5])] _):=Lib.hid ((M.out.setIn 3 rfl 1 (.float .f64 m1)).to (by rfl))
 replace M:Hid (Own w [(p6_1,#[.float .f64 m0,.float .f64 m1,.float .f64 m2]),((w3_.heap.size+1),#[.func (.func 47) #[] #[.pointer (some ⟨w3_.heap.size,0,none⟩)]]),(w3_.heap.size,#[.int .i64 0]),((w.heap.size+1),#[.float .f64 m0,.float .f64 m1,.float .f64 m2]),(w.heap.size,#[.float .f64 a0,.float .f64 a1,.float .f64 a2,.float .f64 a3,.float .f64 a4,.float .f64 a5])] _):=Lib.hid ((M.out.setIn 3 rfl 2 (.float .f64 m2)).to (by rfl))
 go_wp2
 obtain⟨f1,f2,f3⟩:=(M.out.nth 3 rfl).three
 exact bodyPost_ret (v:=.tuple #[.agg #[.float .f64 m0,.float .f64 m1,.float .f64 m2],.int .i64 0]) (by simp [results,Tryz.results15,go_sem,f1,f2,f3]) rfl ⟨rfl,M.out.base⟩
theorem mid_bad0 {a0 a1 a2 a3 a4 a5:Nat} (w:World)
   (c1:Hid (∀ w,Calls Tryz.prog 46 #[.agg #[.float .f64 a0,.float .f64 a1]] w fun r w'=>r = .returned (.bool false)∧Below w.heap.size w w')) :
   Calls Tryz.prog 15 #[.agg #[.float .f64 a0,.float .f64 a1,.float .f64 a2,.float .f64 a3,.float .f64 a4,.float .f64 a5]] w fun r w'=>r = .returned (.tuple #[.agg #[.float .f64 0,.float .f64 0,.float .f64 0],.int .i64 20])∧Below w.heap.size w w':=by
 have M:=Lib.hid (((Own.nil w).made #[.float .f64 a0,.float .f64 a1,.float .f64 a2,.float .f64 a3,.float .f64 a4,.float .f64 a5] 33).made #[.float .f64 0,.float .f64 0,.float .f64 0] 49)
 simp only [World.size_alloc] at M
 have eqF:=eq_floats
 go_enter Tryz.func15,Tryz.ntmps15
 obtain⟨k1,k2,k3,k4,k5,k6⟩:=(M.out.nth 1 rfl).six
 go_wp2_with fail
 refine (c1.out _).mono ?_
 rintro r w1_ ⟨rfl,hb⟩
 replace M:=Lib.hid (M.out.below hb)
 clear hb
 clear k1 k2 k3 k4 k5 k6
 have kc:=(M.out.nth 0 rfl).2.1
 have kf:=(M.out.nth 0 rfl).2.2
 replace M:Hid (Own w [((w.heap.size+1),#[.float .f64 0,.float .f64 0,.float .f64 0]),(w.heap.size,#[.float .f64 a0,.float .f64 a1,.float .f64 a2,.float .f64 a3,.float .f64 a4,.float .f64 a5])] _):=Lib.hid ((M.out.setIn 0 rfl 0 (.float .f64 0)).to (by rfl))
 replace M:Hid (Own w [((w.heap.size+1),#[.float .f64 0,.float .f64 0,.float .f64 0]),(w.heap.size,#[.float .f64 a0,.float .f64 a1,.float .f64 a2,.float .f64 a3,.float .f64 a4,.float .f64 a5])] _):=Lib.hid ((M.out.setIn 0 rfl 1 (.float .f64 0)).to (by rfl))
 replace M:Hid (Own w [((w.heap.size+1),#[.float .f64 0,.float .f64 0,.float .f64 0]),(w.heap.size,#[.float .f64 a0,.float .f64 a1,.float .f64 a2,.float .f64 a3,.float .f64 a4,.float .f64 a5])] _):=Lib.hid ((M.out.setIn 0 rfl 2 (.float .f64 0)).to (by rfl))
 go_wp2
 obtain⟨f1,f2,f3⟩:=(M.out.nth 0 rfl).three
 exact bodyPost_ret (v:=.tuple #[.agg #[.float .f64 0,.float .f64 0,.float .f64 0],.int .i64 20]) (by simp [results,Tryz.results15,go_sem,f1,f2,f3]) rfl ⟨rfl,M.out.base⟩
theorem mid_bad1 {a0 a1 a2 a3 a4 a5:Nat} (w:World)
   (c1:Hid (∀ w,Calls Tryz.prog 46 #[.agg #[.float .f64 a0,.float .f64 a1]] w fun r w'=>r = .returned (.bool true)∧Below w.heap.size w w'))
   (c2:Hid (∀ w,Calls Tryz.prog 46 #[.agg #[.float .f64 a2,.float .f64 a3]] w fun r w'=>r = .returned (.bool false)∧Below w.heap.size w w')) :
   Calls Tryz.prog 15 #[.agg #[.float .f64 a0,.float .f64 a1,.float .f64 a2,.float .f64 a3,.float .f64 a4,.float .f64 a5]] w fun r w'=>r = .returned (.tuple #[.agg #[.float .f64 0,.float .f64 0,.float .f64 0],.int .i64 20])∧Below w.heap.size w w':=by
 have M:=Lib.hid (((Own.nil w).made #[.float .f64 a0,.float .f64 a1,.float .f64 a2,.float .f64 a3,.float .f64 a4,.float .f64 a5] 33).made #[.float .f64 0,.float .f64 0,.float .f64 0] 49)
 simp only [World.size_alloc] at M
 have eqF:=eq_floats
 go_enter Tryz.func15,Tryz.ntmps15
 obtain⟨k1,k2,k3,k4,k5,k6⟩:=(M.out.nth 1 rfl).six
 go_wp2_with fail
 refine (c1.out _).mono ?_
 rintro r w1_ ⟨rfl,hb⟩
 replace M:=Lib.hid (M.out.below hb)
 clear hb
 clear k1 k2 k3 k4 k5 k6
 obtain⟨k1,k2,k3,k4,k5,k6⟩:=(M.out.nth 1 rfl).six
 go_wp2_with fail
 refine (c2.out _).mono ?_
 rintro r w2_ ⟨rfl,hb⟩
 replace M:=Lib.hid (M.out.below hb)
 clear hb
 clear k1 k2 k3 k4 k5 k6
 have kc:=(M.out.nth 0 rfl).2.1
 have kf:=(M.out.nth 0 rfl).2.2
 replace M:Hid (Own w [((w.heap.size+1),#[.float .f64 0,.float .f64 0,.float .f64 0]),(w.heap.size,#[.float .f64 a0,.float .f64 a1,.float .f64 a2,.float .f64 a3,.float .f64 a4,.float .f64 a5])] _):=Lib.hid ((M.out.setIn 0 rfl 0 (.float .f64 0)).to (by rfl))
 replace M:Hid (Own w [((w.heap.size+1),#[.float .f64 0,.float .f64 0,.float .f64 0]),(w.heap.size,#[.float .f64 a0,.float .f64 a1,.float .f64 a2,.float .f64 a3,.float .f64 a4,.float .f64 a5])] _):=Lib.hid ((M.out.setIn 0 rfl 1 (.float .f64 0)).to (by rfl))
 replace M:Hid (Own w [((w.heap.size+1),#[.float .f64 0,.float .f64 0,.float .f64 0]),(w.heap.size,#[.float .f64 a0,.float .f64 a1,.float .f64 a2,.float .f64 a3,.float .f64 a4,.float .f64 a5])] _):=Lib.hid ((M.out.setIn 0 rfl 2 (.float .f64 0)).to (by rfl))
 go_wp2
 obtain⟨f1,f2,f3⟩:=(M.out.nth 0 rfl).three
 exact bodyPost_ret (v:=.tuple #[.agg #[.float .f64 0,.float .f64 0,.float .f64 0],.int .i64 20]) (by simp [results,Tryz.results15,go_sem,f1,f2,f3]) rfl ⟨rfl,M.out.base⟩
theorem mid_bad2 {a0 a1 a2 a3 a4 a5:Nat} (w:World)
   (c1:Hid (∀ w,Calls Tryz.prog 46 #[.agg #[.float .f64 a0,.float .f64 a1]] w fun r w'=>r = .returned (.bool true)∧Below w.heap.size w w'))
   (c2:Hid (∀ w,Calls Tryz.prog 46 #[.agg #[.float .f64 a2,.float .f64 a3]] w fun r w'=>r = .returned (.bool true)∧Below w.heap.size w w'))
   (c3:Hid (∀ w,Calls Tryz.prog 46 #[.agg #[.float .f64 a4,.float .f64 a5]] w fun r w'=>r = .returned (.bool false)∧Below w.heap.size w w')) :
   Calls Tryz.prog 15 #[.agg #[.float .f64 a0,.float .f64 a1,.float .f64 a2,.float .f64 a3,.float .f64 a4,.float .f64 a5]] w fun r w'=>r = .returned (.tuple #[.agg #[.float .f64 0,.float .f64 0,.float .f64 0],.int .i64 20])∧Below w.heap.size w w':=by
 have M:=Lib.hid (((Own.nil w).made #[.float .f64 a0,.float .f64 a1,.float .f64 a2,.float .f64 a3,.float .f64 a4,.float .f64 a5] 33).made #[.float .f64 0,.float .f64 0,.float .f64 0] 49)
 simp only [World.size_alloc] at M
 have eqF:=eq_floats
 go_enter Tryz.func15,Tryz.ntmps15
 obtain⟨k1,k2,k3,k4,k5,k6⟩:=(M.out.nth 1 rfl).six
 go_wp2_with fail
 refine (c1.out _).mono ?_
 rintro r w1_ ⟨rfl,hb⟩
 replace M:=Lib.hid (M.out.below hb)
 clear hb
 clear k1 k2 k3 k4 k5 k6
 obtain⟨k1,k2,k3,k4,k5,k6⟩:=(M.out.nth 1 rfl).six
 go_wp2_with fail
 refine (c2.out _).mono ?_
 rintro r w2_ ⟨rfl,hb⟩
 replace M:=Lib.hid (M.out.below hb)
 clear hb
 clear k1 k2 k3 k4 k5 k6
 obtain⟨k1,k2,k3,k4,k5,k6⟩:=(M.out.nth 1 rfl).six
 go_wp2_with fail
 refine (c3.out _).mono ?_
 rintro r w3_ ⟨rfl,hb⟩
 replace M:=Lib.hid (M.out.below hb)
 clear hb
 clear k1 k2 k3 k4 k5 k6
 have kc:=(M.out.nth 0 rfl).2.1
 have kf:=(M.out.nth 0 rfl).2.2
 replace M:Hid (Own w [((w.heap.size+1),#[.float .f64 0,.float .f64 0,.float .f64 0]),(w.heap.size,#[.float .f64 a0,.float .f64 a1,.float .f64 a2,.float .f64 a3,.float .f64 a4,.float .f64 a5])] _):=Lib.hid ((M.out.setIn 0 rfl 0 (.float .f64 0)).to (by rfl))
 replace M:Hid (Own w [((w.heap.size+1),#[.float .f64 0,.float .f64 0,.float .f64 0]),(w.heap.size,#[.float .f64 a0,.float .f64 a1,.float .f64 a2,.float .f64 a3,.float .f64 a4,.float .f64 a5])] _):=Lib.hid ((M.out.setIn 0 rfl 1 (.float .f64 0)).to (by rfl))
 replace M:Hid (Own w [((w.heap.size+1),#[.float .f64 0,.float .f64 0,.float .f64 0]),(w.heap.size,#[.float .f64 a0,.float .f64 a1,.float .f64 a2,.float .f64 a3,.float .f64 a4,.float .f64 a5])] _):=Lib.hid ((M.out.setIn 0 rfl 2 (.float .f64 0)).to (by rfl))
 go_wp2
 obtain⟨f1,f2,f3⟩:=(M.out.nth 0 rfl).three
 exact bodyPost_ret (v:=.tuple #[.agg #[.float .f64 0,.float .f64 0,.float .f64 0],.int .i64 20]) (by simp [results,Tryz.results15,go_sem,f1,f2,f3]) rfl ⟨rfl,M.out.base⟩
end
end Go.Proofs.YtnaomilkgfkegaaGreat
