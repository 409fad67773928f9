/- What the claim stands on, part 25: CoTA. -/
import Derived.Test.YtnaomilkgfkegaaGreatTA23
import Derived.Deep.RegionHeld3
set_option maxHeartbeats 16000000
set_option maxRecDepth 100000
namespace Go.Proofs.YtnaomilkgfkegaaGreat
section
open Go.RowKit
attribute [local go_sem] run_store_float
section
variable {P:Program} {ops:Array Oper} {Q:Exit→Act→World→Prop} {md:Region.Mode} {S:World→Prop}
theorem lpx_ccccc_1 {a0:Act} {B v:World} {l:List (Nat×Array Value)} {x:Nat×Array Value} (_:Hid (Own B (x :: l) v)) {w0:World} {L0:Array Bool} (c1 c2 c3 c4 c5 m1:Nat) (slots:List Nat) (N:Nat) (J:List (Nat×Array Value)→Act→Nat→List (Option Nat)→Act→World→Prop) (hok:latOkP [false,false,false,false,false] md ops L0 [c1,c2,c3,c4,c5] [m1]=true)
   (hsl:(slots.all fun s=>decide (s < a0.tmps.size))=true) (h0:∀ A:Act,(∀ s,s∈slots→s < A.tmps.size)→J l A 0 (List.replicate 1 none) A w0)
   (hS:∀ k p a w,J l a0 k p a w→S w)
   (k1:∀ p a w,J l a0 0 p a w→wpOp P ops Q c1 (fun b v=>J l a0 1 p b v) a w)
   (k2:∀ p a w,J l a0 1 p a w→wpOp P ops Q c2 (fun b v=>J l a0 2 p b v) a w)
   (k3:∀ p a w,J l a0 2 p a w→wpOp P ops Q c3 (fun b v=>J l a0 3 p b v) a w)
   (k4:∀ p a w,J l a0 3 p a w→wpOp P ops Q c4 (fun b v=>J l a0 4 p b v) a w)
   (k5:∀ p a w,J l a0 4 p a w→wpOp P ops Q c5 (fun b v=>J l a0 5 p b v) a w)
   (n1:∀ k p a w,p[0]? = some none→J l a0 k p a w→wpOp P ops Q m1 (fun b v=>∃ q,J l a0 k (p.set 0 (some q)) b v) a w)
   (fin:∀ q1 a w,J l a0 5 [some q1] a w→wpAnyV P md ops Q S [] N (lstOf L0 [c1,c2,c3,c4,c5] [m1] 5 [true]) a w) :
   wpAnyV P md ops Q S [] (N+6) L0 a0 w0:=by
 refine latP_from (pl:=[false,false,false,false,false]) [c1,c2,c3,c4,c5] [m1] slots N 6 (J l) hok rfl hsl h0 hS (fun k i p a w hk hn hJ=>?_) (fun k i p a w hk hn hJ=>?_) (fun k m i p a w hm hp hJ=>?_) (fun p a w hp hall hJ=>?_)
 · rcases k with _ | _ | _ | _ | _ | k
   · obtain rfl:c1=i:=by simpa using hk
     exact k1 p a w hJ
   · obtain rfl:c2=i:=by simpa using hk
     exact k2 p a w hJ
   · obtain rfl:c3=i:=by simpa using hk
     exact k3 p a w hJ
   · obtain rfl:c4=i:=by simpa using hk
     exact k4 p a w hJ
   · obtain rfl:c5=i:=by simpa using hk
     exact k5 p a w hJ
   · simp at hk
 · rcases k with _ | _ | _ | _ | _ | k
   · exact absurd hn (by decide)
   · exact absurd hn (by decide)
   · exact absurd hn (by decide)
   · exact absurd hn (by decide)
   · exact absurd hn (by decide)
   · simp at hk
 · rcases m with _ | m
   · obtain rfl:m1=i:=by simpa using hm
     exact n1 k p a w hp hJ
   · simp at hm
 · obtain⟨q1,rfl⟩:=fin_one hp hall
   exact fin q1 a w hJ
theorem lpx_cccccp_1 {a0:Act} {B v:World} {l:List (Nat×Array Value)} {x:Nat×Array Value} (_:Hid (Own B (x :: l) v)) {w0:World} {L0:Array Bool} (c1 c2 c3 c4 c5 c6 m1:Nat) (slots:List Nat) (N:Nat) (J:List (Nat×Array Value)→Act→Nat→List (Option Nat)→Act→World→Prop) (hok:latOkP [false,false,false,false,false,true] md ops L0 [c1,c2,c3,c4,c5,c6] [m1]=true)
   (hsl:(slots.all fun s=>decide (s < a0.tmps.size))=true) (h0:∀ A:Act,(∀ s,s∈slots→s < A.tmps.size)→J l A 0 (List.replicate 1 none) A w0)
   (hS:∀ k p a w,J l a0 k p a w→S w)
   (k1:∀ p a w,J l a0 0 p a w→wpOp P ops Q c1 (fun b v=>J l a0 1 p b v) a w)
   (k2:∀ p a w,J l a0 1 p a w→wpOp P ops Q c2 (fun b v=>J l a0 2 p b v) a w)
   (k3:∀ p a w,J l a0 2 p a w→wpOp P ops Q c3 (fun b v=>J l a0 3 p b v) a w)
   (k4:∀ p a w,J l a0 3 p a w→wpOp P ops Q c4 (fun b v=>J l a0 4 p b v) a w)
   (k5:∀ p a w,J l a0 4 p a w→wpOp P ops Q c5 (fun b v=>J l a0 5 p b v) a w)
   (k6:∀ p a w,J l a0 5 p a w→∃ o x,ops[c6]? = some o∧YieldsIf P ops S o x a∧(∀ c a w,Q (.panic c) (a.put o.dst x) w→Q (.panic c) a w)∧J l a0 6 p (a.put o.dst x) w)
   (n1:∀ k p a w,p[0]? = some none→J l a0 k p a w→wpOp P ops Q m1 (fun b v=>∃ q,J l a0 k (p.set 0 (some q)) b v) a w)
   (fin:∀ q1 a w,J l a0 6 [some q1] a w→wpAnyV P md ops Q S [] N (lstOf L0 [c1,c2,c3,c4,c5,c6] [m1] 6 [true]) a w) :
   wpAnyV P md ops Q S [] (N+7) L0 a0 w0:=by
 refine latP_from (pl:=[false,false,false,false,false,true]) [c1,c2,c3,c4,c5,c6] [m1] slots N 7 (J l) hok rfl hsl h0 hS (fun k i p a w hk hn hJ=>?_) (fun k i p a w hk hn hJ=>?_) (fun k m i p a w hm hp hJ=>?_) (fun p a w hp hall hJ=>?_)
 · rcases k with _ | _ | _ | _ | _ | _ | k
   · obtain rfl:c1=i:=by simpa using hk
     exact k1 p a w hJ
   · obtain rfl:c2=i:=by simpa using hk
     exact k2 p a w hJ
   · obtain rfl:c3=i:=by simpa using hk
     exact k3 p a w hJ
   · obtain rfl:c4=i:=by simpa using hk
     exact k4 p a w hJ
   · obtain rfl:c5=i:=by simpa using hk
     exact k5 p a w hJ
   · exact absurd hn (by decide)
   · simp at hk
 · rcases k with _ | _ | _ | _ | _ | _ | k
   · exact absurd hn (by decide)
   · exact absurd hn (by decide)
   · exact absurd hn (by decide)
   · exact absurd hn (by decide)
   · exact absurd hn (by decide)
   · obtain rfl:c6=i:=by simpa using hk
     exact k6 p a w hJ
   · simp at hk
 · rcases m with _ | m
   · obtain rfl:m1=i:=by simpa using hm
     exact n1 k p a w hp hJ
   · simp at hm
 · obtain⟨q1,rfl⟩:=fin_one hp hall
   exact fin q1 a w hJ
end
def rdJ7 (w:World) (pb:Nat) (dl dh ml mh gl gh:Nat) (l:RowL) (a0:Act) (k:Nat) (p:List (Option Nat)) (a:Act) (v:World):Prop:=
 ∃ y1 y2 y3 y4 y5 z1:Value,a=((((((a0.put (some 36) y1).put (some 38) y2).put (some 40) y3).put (some 41) y4).put (some 42) y5).put (some 12) z1)∧(0 < k→y1 = .agg #[.float .f64 4607182418800017408,.float .f64 4607182418800017408])∧(1 < k→y2 = .agg #[.float .f64 dl,.float .f64 dh])∧(2 < k→y3 = .agg #[.float .f64 0,.float .f64 0])∧(3 < k→y4 = .agg #[.float .f64 ml,.float .f64 mh])∧(4 < k→y5 = .agg #[.float .f64 gl,.float .f64 gh])∧(∀ q,p[0]? = some (some q)→z1 = .pointer (some ⟨q,0,none⟩))∧OwnF w ((pb,#[.int .i64 0]) :: l) [#[.float .f64 0,.float .f64 0]] p v
section
variable {w v:World} {pb:Nat} {dl dh ml mh gl gh:Nat} {l:RowL} {a0 a:Act} {p:List (Option Nat)}
theorem rdJ7_0 (h:rdJ7 w pb dl dh ml mh gl gh l a0 0 p a v):∃ y1 y2 y3 y4 y5 z1:Value,a=((((((a0.put (some 36) y1).put (some 38) y2).put (some 40) y3).put (some 41) y4).put (some 42) y5).put (some 12) z1)∧(∀ q,p[0]? = some (some q)→z1 = .pointer (some ⟨q,0,none⟩))∧OwnF w ((pb,#[.int .i64 0]) :: l) [#[.float .f64 0,.float .f64 0]] p v:=by
 obtain⟨y1,y2,y3,y4,y5,z1,ha,E1,E2,E3,E4,E5,G1,h⟩:=h
 exact ⟨y1,y2,y3,y4,y5,z1,ha,G1,h⟩
theorem rdJ7_1 (h:rdJ7 w pb dl dh ml mh gl gh l a0 1 p a v):∃ y2 y3 y4 y5 z1:Value,a=((((((a0.put (some 36) (.agg #[.float .f64 4607182418800017408,.float .f64 4607182418800017408])).put (some 38) y2).put (some 40) y3).put (some 41) y4).put (some 42) y5).put (some 12) z1)∧(∀ q,p[0]? = some (some q)→z1 = .pointer (some ⟨q,0,none⟩))∧OwnF w ((pb,#[.int .i64 0]) :: l) [#[.float .f64 0,.float .f64 0]] p v:=by
 obtain⟨y1,y2,y3,y4,y5,z1,ha,E1,E2,E3,E4,E5,G1,h⟩:=h
 obtain rfl:=E1 (by decide)
 exact ⟨y2,y3,y4,y5,z1,ha,G1,h⟩
theorem rdJ7_2 (h:rdJ7 w pb dl dh ml mh gl gh l a0 2 p a v):∃ y3 y4 y5 z1:Value,a=((((((a0.put (some 36) (.agg #[.float .f64 4607182418800017408,.float .f64 4607182418800017408])).put (some 38) (.agg #[.float .f64 dl,.float .f64 dh])).put (some 40) y3).put (some 41) y4).put (some 42) y5).put (some 12) z1)∧(∀ q,p[0]? = some (some q)→z1 = .pointer (some ⟨q,0,none⟩))∧OwnF w ((pb,#[.int .i64 0]) :: l) [#[.float .f64 0,.float .f64 0]] p v:=by
 obtain⟨y1,y2,y3,y4,y5,z1,ha,E1,E2,E3,E4,E5,G1,h⟩:=h
 obtain rfl:=E1 (by decide)
 obtain rfl:=E2 (by decide)
 exact ⟨y3,y4,y5,z1,ha,G1,h⟩
theorem rdJ7_3 (h:rdJ7 w pb dl dh ml mh gl gh l a0 3 p a v):∃ y4 y5 z1:Value,a=((((((a0.put (some 36) (.agg #[.float .f64 4607182418800017408,.float .f64 4607182418800017408])).put (some 38) (.agg #[.float .f64 dl,.float .f64 dh])).put (some 40) (.agg #[.float .f64 0,.float .f64 0])).put (some 41) y4).put (some 42) y5).put (some 12) z1)∧(∀ q,p[0]? = some (some q)→z1 = .pointer (some ⟨q,0,none⟩))∧OwnF w ((pb,#[.int .i64 0]) :: l) [#[.float .f64 0,.float .f64 0]] p v:=by
 obtain⟨y1,y2,y3,y4,y5,z1,ha,E1,E2,E3,E4,E5,G1,h⟩:=h
 obtain rfl:=E1 (by decide)
 obtain rfl:=E2 (by decide)
 obtain rfl:=E3 (by decide)
 exact ⟨y4,y5,z1,ha,G1,h⟩
theorem rdJ7_4 (h:rdJ7 w pb dl dh ml mh gl gh l a0 4 p a v):∃ y5 z1:Value,a=((((((a0.put (some 36) (.agg #[.float .f64 4607182418800017408,.float .f64 4607182418800017408])).put (some 38) (.agg #[.float .f64 dl,.float .f64 dh])).put (some 40) (.agg #[.float .f64 0,.float .f64 0])).put (some 41) (.agg #[.float .f64 ml,.float .f64 mh])).put (some 42) y5).put (some 12) z1)∧(∀ q,p[0]? = some (some q)→z1 = .pointer (some ⟨q,0,none⟩))∧OwnF w ((pb,#[.int .i64 0]) :: l) [#[.float .f64 0,.float .f64 0]] p v:=by
 obtain⟨y1,y2,y3,y4,y5,z1,ha,E1,E2,E3,E4,E5,G1,h⟩:=h
 obtain rfl:=E1 (by decide)
 obtain rfl:=E2 (by decide)
 obtain rfl:=E3 (by decide)
 obtain rfl:=E4 (by decide)
 exact ⟨y5,z1,ha,G1,h⟩
theorem rdJ7_fin {q1:Nat} (h:rdJ7 w pb dl dh ml mh gl gh l a0 5 [some q1] a v):a=((((((a0.put (some 36) (.agg #[.float .f64 4607182418800017408,.float .f64 4607182418800017408])).put (some 38) (.agg #[.float .f64 dl,.float .f64 dh])).put (some 40) (.agg #[.float .f64 0,.float .f64 0])).put (some 41) (.agg #[.float .f64 ml,.float .f64 mh])).put (some 42) (.agg #[.float .f64 gl,.float .f64 gh])).put (some 12) (.pointer (some ⟨q1,0,none⟩)))∧OwnF w ((pb,#[.int .i64 0]) :: l) [#[.float .f64 0,.float .f64 0]] [some q1] v:=by
 obtain⟨y1,y2,y3,y4,y5,z1,ha,E1,E2,E3,E4,E5,G1,h⟩:=h
 obtain rfl:=E1 (by decide)
 obtain rfl:=E2 (by decide)
 obtain rfl:=E3 (by decide)
 obtain rfl:=E4 (by decide)
 obtain rfl:=E5 (by decide)
 obtain rfl:=G1 _ rfl
 exact ⟨ha,h⟩
end
def rdJ8 (w:World) (pb:Nat) (pl ph xl xh ql qh yl yh zl zh:Nat) (l:RowL) (a0:Act) (k:Nat) (p:List (Option Nat)) (a:Act) (v:World):Prop:=
 ∃ y1 y2 y3 y4 y5 y6 z1:Value,a=(((((((a0.put (some 46) y1).put (some 47) y2).put (some 51) y3).put (some 52) y4).put (some 54) y5).put (some 55) y6).put (some 13) z1)∧(0 < k→y1 = .agg #[.float .f64 pl,.float .f64 ph])∧(1 < k→y2 = .agg #[.float .f64 xl,.float .f64 xh])∧(2 < k→y3 = .agg #[.float .f64 ql,.float .f64 qh])∧(3 < k→y4 = .agg #[.float .f64 yl,.float .f64 yh])∧(4 < k→y5 = .agg #[.float .f64 zl,.float .f64 zh])∧(5 < k→y6 = .agg #[.float .f64 xl,.float .f64 xh,.float .f64 yl,.float .f64 yh,.float .f64 zl,.float .f64 zh])∧(∀ q,p[0]? = some (some q)→z1 = .pointer (some ⟨q,0,none⟩))∧OwnF w ((pb,#[.int .i64 0]) :: l) [#[.float .f64 0,.float .f64 0,.float .f64 0,.float .f64 0,.float .f64 0,.float .f64 0]] p v
section
variable {w v:World} {pb:Nat} {pl ph xl xh ql qh yl yh zl zh:Nat} {l:RowL} {a0 a:Act} {p:List (Option Nat)}
theorem rdJ8_0 (h:rdJ8 w pb pl ph xl xh ql qh yl yh zl zh l a0 0 p a v):∃ y1 y2 y3 y4 y5 y6 z1:Value,a=(((((((a0.put (some 46) y1).put (some 47) y2).put (some 51) y3).put (some 52) y4).put (some 54) y5).put (some 55) y6).put (some 13) z1)∧(∀ q,p[0]? = some (some q)→z1 = .pointer (some ⟨q,0,none⟩))∧OwnF w ((pb,#[.int .i64 0]) :: l) [#[.float .f64 0,.float .f64 0,.float .f64 0,.float .f64 0,.float .f64 0,.float .f64 0]] p v:=by
 obtain⟨y1,y2,y3,y4,y5,y6,z1,ha,E1,E2,E3,E4,E5,E6,G1,h⟩:=h
 exact ⟨y1,y2,y3,y4,y5,y6,z1,ha,G1,h⟩
theorem rdJ8_1 (h:rdJ8 w pb pl ph xl xh ql qh yl yh zl zh l a0 1 p a v):∃ y2 y3 y4 y5 y6 z1:Value,a=(((((((a0.put (some 46) (.agg #[.float .f64 pl,.float .f64 ph])).put (some 47) y2).put (some 51) y3).put (some 52) y4).put (some 54) y5).put (some 55) y6).put (some 13) z1)∧(∀ q,p[0]? = some (some q)→z1 = .pointer (some ⟨q,0,none⟩))∧OwnF w ((pb,#[.int .i64 0]) :: l) [#[.float .f64 0,.float .f64 0,.float .f64 0,.float .f64 0,.float .f64 0,.float .f64 0]] p v:=by
 obtain⟨y1,y2,y3,y4,y5,y6,z1,ha,E1,E2,E3,E4,E5,E6,G1,h⟩:=h
 obtain rfl:=E1 (by decide)
 exact ⟨y2,y3,y4,y5,y6,z1,ha,G1,h⟩
theorem rdJ8_2 (h:rdJ8 w pb pl ph xl xh ql qh yl yh zl zh l a0 2 p a v):∃ y3 y4 y5 y6 z1:Value,a=(((((((a0.put (some 46) (.agg #[.float .f64 pl,.float .f64 ph])).put (some 47) (.agg #[.float .f64 xl,.float .f64 xh])).put (some 51) y3).put (some 52) y4).put (some 54) y5).put (some 55) y6).put (some 13) z1)∧(∀ q,p[0]? = some (some q)→z1 = .pointer (some ⟨q,0,none⟩))∧OwnF w ((pb,#[.int .i64 0]) :: l) [#[.float .f64 0,.float .f64 0,.float .f64 0,.float .f64 0,.float .f64 0,.float .f64 0]] p v:=by
 obtain⟨y1,y2,y3,y4,y5,y6,z1,ha,E1,E2,E3,E4,E5,E6,G1,h⟩:=h
 obtain rfl:=E1 (by decide)
 obtain rfl:=E2 (by decide)
 exact ⟨y3,y4,y5,y6,z1,ha,G1,h⟩
theorem rdJ8_3 (h:rdJ8 w pb pl ph xl xh ql qh yl yh zl zh l a0 3 p a v):∃ y4 y5 y6 z1:Value,a=(((((((a0.put (some 46) (.agg #[.float .f64 pl,.float .f64 ph])).put (some 47) (.agg #[.float .f64 xl,.float .f64 xh])).put (some 51) (.agg #[.float .f64 ql,.float .f64 qh])).put (some 52) y4).put (some 54) y5).put (some 55) y6).put (some 13) z1)∧(∀ q,p[0]? = some (some q)→z1 = .pointer (some ⟨q,0,none⟩))∧OwnF w ((pb,#[.int .i64 0]) :: l) [#[.float .f64 0,.float .f64 0,.float .f64 0,.float .f64 0,.float .f64 0,.float .f64 0]] p v:=by
 obtain⟨y1,y2,y3,y4,y5,y6,z1,ha,E1,E2,E3,E4,E5,E6,G1,h⟩:=h
 obtain rfl:=E1 (by decide)
 obtain rfl:=E2 (by decide)
 obtain rfl:=E3 (by decide)
 exact ⟨y4,y5,y6,z1,ha,G1,h⟩
theorem rdJ8_4 (h:rdJ8 w pb pl ph xl xh ql qh yl yh zl zh l a0 4 p a v):∃ y5 y6 z1:Value,a=(((((((a0.put (some 46) (.agg #[.float .f64 pl,.float .f64 ph])).put (some 47) (.agg #[.float .f64 xl,.float .f64 xh])).put (some 51) (.agg #[.float .f64 ql,.float .f64 qh])).put (some 52) (.agg #[.float .f64 yl,.float .f64 yh])).put (some 54) y5).put (some 55) y6).put (some 13) z1)∧(∀ q,p[0]? = some (some q)→z1 = .pointer (some ⟨q,0,none⟩))∧OwnF w ((pb,#[.int .i64 0]) :: l) [#[.float .f64 0,.float .f64 0,.float .f64 0,.float .f64 0,.float .f64 0,.float .f64 0]] p v:=by
 obtain⟨y1,y2,y3,y4,y5,y6,z1,ha,E1,E2,E3,E4,E5,E6,G1,h⟩:=h
 obtain rfl:=E1 (by decide)
 obtain rfl:=E2 (by decide)
 obtain rfl:=E3 (by decide)
 obtain rfl:=E4 (by decide)
 exact ⟨y5,y6,z1,ha,G1,h⟩
theorem rdJ8_5 (h:rdJ8 w pb pl ph xl xh ql qh yl yh zl zh l a0 5 p a v):∃ y6 z1:Value,a=(((((((a0.put (some 46) (.agg #[.float .f64 pl,.float .f64 ph])).put (some 47) (.agg #[.float .f64 xl,.float .f64 xh])).put (some 51) (.agg #[.float .f64 ql,.float .f64 qh])).put (some 52) (.agg #[.float .f64 yl,.float .f64 yh])).put (some 54) (.agg #[.float .f64 zl,.float .f64 zh])).put (some 55) y6).put (some 13) z1)∧(∀ q,p[0]? = some (some q)→z1 = .pointer (some ⟨q,0,none⟩))∧OwnF w ((pb,#[.int .i64 0]) :: l) [#[.float .f64 0,.float .f64 0,.float .f64 0,.float .f64 0,.float .f64 0,.float .f64 0]] p v:=by
 obtain⟨y1,y2,y3,y4,y5,y6,z1,ha,E1,E2,E3,E4,E5,E6,G1,h⟩:=h
 obtain rfl:=E1 (by decide)
 obtain rfl:=E2 (by decide)
 obtain rfl:=E3 (by decide)
 obtain rfl:=E4 (by decide)
 obtain rfl:=E5 (by decide)
 exact ⟨y6,z1,ha,G1,h⟩
theorem rdJ8_fin {q1:Nat} (h:rdJ8 w pb pl ph xl xh ql qh yl yh zl zh l a0 6 [some q1] a v):a=(((((((a0.put (some 46) (.agg #[.float .f64 pl,.float .f64 ph])).put (some 47) (.agg #[.float .f64 xl,.float .f64 xh])).put (some 51) (.agg #[.float .f64 ql,.float .f64 qh])).put (some 52) (.agg #[.float .f64 yl,.float .f64 yh])).put (some 54) (.agg #[.float .f64 zl,.float .f64 zh])).put (some 55) (.agg #[.float .f64 xl,.float .f64 xh,.float .f64 yl,.float .f64 yh,.float .f64 zl,.float .f64 zh])).put (some 13) (.pointer (some ⟨q1,0,none⟩)))∧OwnF w ((pb,#[.int .i64 0]) :: l) [#[.float .f64 0,.float .f64 0,.float .f64 0,.float .f64 0,.float .f64 0,.float .f64 0]] [some q1] v:=by
 obtain⟨y1,y2,y3,y4,y5,y6,z1,ha,E1,E2,E3,E4,E5,E6,G1,h⟩:=h
 obtain rfl:=E1 (by decide)
 obtain rfl:=E2 (by decide)
 obtain rfl:=E3 (by decide)
 obtain rfl:=E4 (by decide)
 obtain rfl:=E5 (by decide)
 obtain rfl:=E6 (by decide)
 obtain rfl:=G1 _ rfl
 exact ⟨ha,h⟩
end
theorem rdraw_walk {u o bl bh sl sh cl ch al ah jl jh dl dh ml mh gl gh pl ph xl xh ql qh yl yh zl zh:Nat} (w:World)
   (c1:Hid (∀ w,Calls Tryz.prog 39 #[.int .u64 o] w fun r w'=>r = .returned (.agg #[.float .f64 bl,.float .f64 bh])∧Below w.heap.size w w'))
   (c2:Hid (∀ w,Calls Tryz.prog 38 #[.agg #[.float .f64 bl,.float .f64 bh]] w fun r w'=>r = .returned (.tuple #[.agg #[.float .f64 sl,.float .f64 sh],.agg #[.float .f64 cl,.float .f64 ch],.int .i64 0])∧Below w.heap.size w w'))
   (c3:Hid (∀ w,Calls Tryz.prog 39 #[.int .u64 u] w fun r w'=>r = .returned (.agg #[.float .f64 al,.float .f64 ah])∧Below w.heap.size w w'))
   (d4:Hid (K1 40 0 0 al ah jl jh))
   (d5:Hid (KN 43 0 0 4607182418800017408 4607182418800017408 4607182418800017408))
   (d6:Hid (K2 42 0 0 4607182418800017408 4607182418800017408 al ah dl dh))
   (d7:Hid (KN 43 0 0 0 0 0))
   (d8:Hid (K2 41 0 0 dl dh 0 0 ml mh))
   (d9:Hid (K1 40 0 0 ml mh gl gh))
   (d10:Hid (K2 45 0 0 jl jh cl ch pl ph))
   (c11:Hid (∀ w,Calls Tryz.prog 44 #[.agg #[.float .f64 pl,.float .f64 ph],.float .f64 13830554455654793216,.float .f64 4607182418800017408] w fun r w'=>r = .returned (.agg #[.float .f64 xl,.float .f64 xh])∧Below w.heap.size w w'))
   (d12:Hid (K2 45 0 0 jl jh sl sh ql qh))
   (c13:Hid (∀ w,Calls Tryz.prog 44 #[.agg #[.float .f64 ql,.float .f64 qh],.float .f64 13830554455654793216,.float .f64 4607182418800017408] w fun r w'=>r = .returned (.agg #[.float .f64 yl,.float .f64 yh])∧Below w.heap.size w w'))
   (c14:Hid (∀ w,Calls Tryz.prog 44 #[.agg #[.float .f64 gl,.float .f64 gh],.float .f64 0,.float .f64 4607182418800017408] w fun r w'=>r = .returned (.agg #[.float .f64 zl,.float .f64 zh])∧Below w.heap.size w w')) :
   Calls Tryz.prog 14 #[.int .u64 u,.int .u64 o] w fun r w'=>r = .returned (.tuple #[.agg #[.float .f64 xl,.float .f64 xh,.float .f64 yl,.float .f64 yh,.float .f64 zl,.float .f64 zh],.int .i64 0])∧Below w.heap.size w w':=by
 have M:=Lib.hid ((Own.nil w).made #[.float .f64 0,.float .f64 0,.float .f64 0,.float .f64 0,.float .f64 0,.float .f64 0] 33)
 have eqF:=eq_floats
 go_enter Tryz.func14,Tryz.ntmps14
 go_wp2_with fail
 refine (c1.out _).mono ?_
 rintro r w1_ ⟨rfl,hb⟩
 replace M:=Lib.hid (M.out.below hb)
 clear hb
 go_wp2_with fail
 refine (c2.out _).mono ?_
 rintro r w2_ ⟨rfl,hb⟩
 replace M:=Lib.hid (M.out.below hb)
 clear hb
 replace M:=Lib.hid (M.out.made #[.float .f64 sl,.float .f64 sh] 31)
 replace M:=Lib.hid (M.out.made #[.float .f64 cl,.float .f64 ch] 31)
 replace M:=Lib.hid (M.out.made #[.int .i64 0] 81)
 simp only [World.size_alloc] at M
 go_wp2_with fail
 refine (c3.out _).mono ?_
 rintro r w3_ ⟨rfl,hb⟩
 replace M:=Lib.hid (M.out.below hb)
 clear hb
 replace M:=Lib.hid (M.out.made #[.float .f64 al,.float .f64 ah] 31).front
 go_wp2_with fail
 refine (d4.out _ _ (M.out.nth 0 rfl)).mono ?_
 rintro r w4_ ⟨rfl,hb⟩
 replace M:Hid (Own w [((w2_.heap.size+2),#[.int .i64 0]),(w3_.heap.size,#[.float .f64 al,.float .f64 ah]),((w2_.heap.size+1),#[.float .f64 cl,.float .f64 ch]),(w2_.heap.size,#[.float .f64 sl,.float .f64 sh]),(w.heap.size,#[.float .f64 0,.float .f64 0,.float .f64 0,.float .f64 0,.float .f64 0,.float .f64 0])] w4_):=Lib.hid (M.out.putAt 0 rfl hb)
 clear hb
 replace M:=Lib.hid (M.out.made #[.float .f64 jl,.float .f64 jh] 31).front
 go_upto_region 7 with fail
 replace M:=Lib.hid M.out.drew
 revert M
 generalize (w4_.alloc (.cells #[.float .f64 jl,.float .f64 jh] 31))=W5_
 intro M
 refine wp_region_noPanic ?_
 refine tails_region (S:=fun w'=>(w'.cell? ⟨w3_.heap.size,0,none⟩=some (.float .f64 al)∧w'.cell? ⟨w3_.heap.size,1,none⟩=some (.float .f64 ah))) [] (by kernel_rfl) ?_ (fun hS=>?_)
 · exact (M.out.nth 2 rfl).two
 refine tk (x:=?_) 0 rfl (by kernel_rfl) ⟨by kernel_rfl,?_⟩ (fun _ _ _ h=>h) hS ?_
 rotate_left; focus (intro w hSw; (try dsimp only at hSw); go_simp; try with_reducible rfl)
 refine tk (x:=?_) 1 rfl (by kernel_rfl) ⟨by kernel_rfl,?_⟩ (fun _ _ _ h=>h) hS ?_
 rotate_left; focus (intro w hSw; (try dsimp only at hSw); go_simp; try with_reducible rfl)
 refine tk (x:=?_) 2 rfl (by kernel_rfl) ⟨by kernel_rfl,?_⟩ (fun _ _ _ h=>h) hS ?_
 rotate_left; focus (intro w hSw; (try dsimp only at hSw); go_simp; try with_reducible rfl)
 refine tk (x:=?_) 3 rfl (by kernel_rfl) ⟨by kernel_rfl,?_⟩ (fun _ _ _ h=>h) hS ?_
 rotate_left; focus (intro w hSw; (try dsimp only at hSw); go_simp; try with_reducible rfl)
 refine tk (x:=?_) 5 rfl (by kernel_rfl) ⟨by kernel_rfl,?_⟩ (fun _ _ _ h=>h) hS ?_
 rotate_left; focus (intro w hSw; (try dsimp only at hSw); go_simp; try with_reducible rfl)
 refine tk (x:=?_) 7 rfl (by kernel_rfl) ⟨by kernel_rfl,?_⟩ (fun _ _ _ h=>h) hS ?_
 rotate_left; focus (intro w hSw; (try dsimp only at hSw); go_simp; try with_reducible rfl)
 conv=>arg 9; simp only [Act.put,go_sem]
 refine lpx_ccccc_1 M 4 6 8 9 10 11 [36,38,40,41,42,12] 1 (rdJ7 w (w2_.heap.size+2) dl dh ml mh gl gh) (by kernel_rfl) (by kernel_rfl) ?_ ?_ ?_ ?_ ?_ ?_ ?_ ?_ ?_
 · intro A hA
   obtain⟨y1,hq1⟩:=put_ex (hA 36 (by simp))
   obtain⟨y2,hq2⟩:=put_ex (hA 38 (by simp))
   obtain⟨y3,hq3⟩:=put_ex (hA 40 (by simp))
   obtain⟨y4,hq4⟩:=put_ex (hA 41 (by simp))
   obtain⟨y5,hq5⟩:=put_ex (hA 42 (by simp))
   obtain⟨z1,hq6⟩:=put_ex (hA 12 (by simp))
   exact ⟨y1,y2,y3,y4,y5,z1,by rw [hq1,hq2,hq3,hq4,hq5,hq6],by omega,by omega,by omega,by omega,by omega,by simp,OwnF.start M.out 1⟩
 · rintro k p a v ⟨y1,y2,y3,y4,y5,z1,_,_,_,_,_,_,_,h⟩
   exact (h.own.nth 2 rfl).two
 · intro p a v hJ
   refine op_step (o:=_) rfl (fun K hK=>?_)
   obtain⟨y1,y2,y3,y4,y5,z1,ha,gg1,h⟩:=rdJ7_0 hJ
   have h:=Lib.hid h
   clear hJ
   subst ha
   go_simp
   refine (d5.out _ _ (h.out.own.nth 0 rfl)).mono ?_
   rintro rr w5 ⟨rfl,hp⟩
   try go_wp2_with fail
   refine hK.out _ _ ⟨_,y2,y3,y4,y5,z1,?_,fun _=>rfl,by omega,by omega,by omega,by omega,gg1,h.out.putHead hp⟩
   kernel_rfl
 · intro p a v hJ
   refine op_step (o:=_) rfl (fun K hK=>?_)
   obtain⟨y2,y3,y4,y5,z1,ha,gg1,h⟩:=rdJ7_1 hJ
   have h:=Lib.hid h
   clear hJ
   subst ha
   go_simp
   refine (d6.out _ _ (h.out.own.nth 0 rfl)).mono ?_
   rintro rr w5 ⟨rfl,hp⟩
   try go_wp2_with fail
   refine hK.out _ _ ⟨_,_,y3,y4,y5,z1,?_,fun _=>rfl,fun _=>rfl,by omega,by omega,by omega,gg1,h.out.putHead hp⟩
   kernel_rfl
 · intro p a v hJ
   refine op_step (o:=_) rfl (fun K hK=>?_)
   obtain⟨y3,y4,y5,z1,ha,gg1,h⟩:=rdJ7_2 hJ
   have h:=Lib.hid h
   clear hJ
   subst ha
   go_simp
   refine (d7.out _ _ (h.out.own.nth 0 rfl)).mono ?_
   rintro rr w5 ⟨rfl,hp⟩
   try go_wp2_with fail
   refine hK.out _ _ ⟨_,_,_,y4,y5,z1,?_,fun _=>rfl,fun _=>rfl,fun _=>rfl,by omega,by omega,gg1,h.out.putHead hp⟩
   kernel_rfl
 · intro p a v hJ
   refine op_step (o:=_) rfl (fun K hK=>?_)
   obtain⟨y4,y5,z1,ha,gg1,h⟩:=rdJ7_3 hJ
   have h:=Lib.hid h
   clear hJ
   subst ha
   go_simp
   refine (d8.out _ _ (h.out.own.nth 0 rfl)).mono ?_
   rintro rr w5 ⟨rfl,hp⟩
   try go_wp2_with fail
   refine hK.out _ _ ⟨_,_,_,_,y5,z1,?_,fun _=>rfl,fun _=>rfl,fun _=>rfl,fun _=>rfl,by omega,gg1,h.out.putHead hp⟩
   kernel_rfl
 · intro p a v hJ
   refine op_step (o:=_) rfl (fun K hK=>?_)
   obtain⟨y5,z1,ha,gg1,h⟩:=rdJ7_4 hJ
   have h:=Lib.hid h
   clear hJ
   subst ha
   go_simp
   refine (d9.out _ _ (h.out.own.nth 0 rfl)).mono ?_
   rintro rr w5 ⟨rfl,hp⟩
   try go_wp2_with fail
   refine hK.out _ _ ⟨_,_,_,_,_,z1,?_,fun _=>rfl,fun _=>rfl,fun _=>rfl,fun _=>rfl,fun _=>rfl,gg1,h.out.putHead hp⟩
   kernel_rfl
 · intro k p a v hp hJ
   refine op_step (o:=_) rfl (fun K hK=>?_)
   obtain⟨y1,y2,y3,y4,y5,z1,ha,ee1,ee2,ee3,ee4,ee5,gg1,h⟩:=hJ
   have h:=Lib.hid h
   subst ha
   go_simp
   refine hK.out _ _ ⟨v.heap.size,y1,y2,y3,y4,y5,.pointer (some ⟨v.heap.size,0,none⟩),?_,ee1,ee2,ee3,ee4,ee5,fun q hq=>ptr_set hq,h.out.alloc hp rfl _⟩
   kernel_rfl
 intro p7_1 a v hJ
 obtain⟨rfl,h⟩:=rdJ7_fin hJ
 clear hJ
 replace M:=Lib.hid h.fin1
 clear h
 refine tails_one (T:=[]) (i:=12) (o:=_) rfl (by kernel_rfl) (fun K hK=>?_)
 have kc:=(M.out.nth 0 rfl).2.1
 have kf:=(M.out.nth 0 rfl).2.2
 replace M:Hid (Own w [(p7_1,#[.float .f64 gl,.float .f64 gh]),((w2_.heap.size+2),#[.int .i64 0]),(w4_.heap.size,#[.float .f64 jl,.float .f64 jh]),(w3_.heap.size,#[.float .f64 al,.float .f64 ah]),((w2_.heap.size+1),#[.float .f64 cl,.float .f64 ch]),(w2_.heap.size,#[.float .f64 sl,.float .f64 sh]),(w.heap.size,#[.float .f64 0,.float .f64 0,.float .f64 0,.float .f64 0,.float .f64 0,.float .f64 0])] _):=Lib.hid (M.out.set2 0 rfl (.float .f64 gl) (.float .f64 gh))
 go_simp
 refine hK.out _ _ (Or.inr (M.out.nth 3 rfl).two) (fun hHeld=>?_)
 clear hK K hHeld kc kf
 refine tails_done (by kernel_rfl) ?_ _
 refine NoPanic.normal ?_
 clear hS
 replace M:Hid (Own w [((w2_.heap.size+2),#[.int .i64 0]),(p7_1,#[.float .f64 gl,.float .f64 gh]),(w4_.heap.size,#[.float .f64 jl,.float .f64 jh]),(w3_.heap.size,#[.float .f64 al,.float .f64 ah]),((w2_.heap.size+1),#[.float .f64 cl,.float .f64 ch]),(w2_.heap.size,#[.float .f64 sl,.float .f64 sh]),(w.heap.size,#[.float .f64 0,.float .f64 0,.float .f64 0,.float .f64 0,.float .f64 0,.float .f64 0])] _):=Lib.hid M.out.front
 revert M
 generalize ((v.setCell ⟨p7_1,0,none⟩ (.float .f64 gl)).setCell ⟨p7_1,1,none⟩ (.float .f64 gh))=W6_
 intro M
 go_upto_region 8 with fail
 replace M:=Lib.hid M.out.drew
 refine wp_region_noPanic ?_
 refine tails_region (S:=fun w'=>(w'.cell? ⟨w4_.heap.size,0,none⟩=some (.float .f64 jl)∧w'.cell? ⟨w4_.heap.size,1,none⟩=some (.float .f64 jh))∧(w'.cell? ⟨(w2_.heap.size+1),0,none⟩=some (.float .f64 cl)∧w'.cell? ⟨(w2_.heap.size+1),1,none⟩=some (.float .f64 ch))∧(w'.cell? ⟨w2_.heap.size,0,none⟩=some (.float .f64 sl)∧w'.cell? ⟨w2_.heap.size,1,none⟩=some (.float .f64 sh))∧(w'.cell? ⟨p7_1,0,none⟩=some (.float .f64 gl)∧w'.cell? ⟨p7_1,1,none⟩=some (.float .f64 gh))) [] (by kernel_rfl) ?_ (fun hS=>?_)
 · exact ⟨(M.out.nth 2 rfl).two,(M.out.nth 4 rfl).two,(M.out.nth 5 rfl).two,(M.out.nth 1 rfl).two⟩
 refine tk (x:=?_) 0 rfl (by kernel_rfl) ⟨by kernel_rfl,?_⟩ (fun _ _ _ h=>h) hS ?_
 rotate_left; focus (intro w hSw; (try dsimp only at hSw); go_simp; try with_reducible rfl)
 refine tk (x:=?_) 1 rfl (by kernel_rfl) ⟨by kernel_rfl,?_⟩ (fun _ _ _ h=>h) hS ?_
 rotate_left; focus (intro w hSw; (try dsimp only at hSw); go_simp; try with_reducible rfl)
 refine tk (x:=?_) 2 rfl (by kernel_rfl) ⟨by kernel_rfl,?_⟩ (fun _ _ _ h=>h) hS ?_
 rotate_left; focus (intro w hSw; (try dsimp only at hSw); go_simp; try with_reducible rfl)
 refine tk (x:=?_) 5 rfl (by kernel_rfl) ⟨by kernel_rfl,?_⟩ (fun _ _ _ h=>h) hS ?_
 rotate_left; focus (intro w hSw; (try dsimp only at hSw); go_simp; try with_reducible rfl)
 refine tk (x:=?_) 6 rfl (by kernel_rfl) ⟨by kernel_rfl,?_⟩ (fun _ _ _ h=>h) hS ?_
 rotate_left; focus (intro w hSw; (try dsimp only at hSw); go_simp; try with_reducible rfl)
 refine tk (x:=?_) 7 rfl (by kernel_rfl) ⟨by kernel_rfl,?_⟩ (fun _ _ _ h=>h) hS ?_
 rotate_left; focus (intro w hSw; (try dsimp only at hSw); go_simp; try with_reducible rfl)
 refine tk (x:=?_) 10 rfl (by kernel_rfl) ⟨by kernel_rfl,?_⟩ (fun _ _ _ h=>h) hS ?_
 rotate_left; focus (intro w hSw; (try dsimp only at hSw); go_simp; try with_reducible rfl)
 conv=>arg 9; simp only [Act.put,go_sem]
 refine lpx_cccccp_1 M 3 4 8 9 11 12 13 [46,47,51,52,54,55,13] 1 (rdJ8 w (w2_.heap.size+2) pl ph xl xh ql qh yl yh zl zh) (by kernel_rfl) (by kernel_rfl) ?_ ?_ ?_ ?_ ?_ ?_ ?_ ?_ ?_ ?_
 · intro A hA
   obtain⟨y1,hq1⟩:=put_ex (hA 46 (by simp))
   obtain⟨y2,hq2⟩:=put_ex (hA 47 (by simp))
   obtain⟨y3,hq3⟩:=put_ex (hA 51 (by simp))
   obtain⟨y4,hq4⟩:=put_ex (hA 52 (by simp))
   obtain⟨y5,hq5⟩:=put_ex (hA 54 (by simp))
   obtain⟨y6,hq6⟩:=put_ex (hA 55 (by simp))
   obtain⟨z1,hq7⟩:=put_ex (hA 13 (by simp))
   exact ⟨y1,y2,y3,y4,y5,y6,z1,by rw [hq1,hq2,hq3,hq4,hq5,hq6,hq7],by omega,by omega,by omega,by omega,by omega,by omega,by simp,OwnF.start M.out 1⟩
 · rintro k p a v ⟨y1,y2,y3,y4,y5,y6,z1,_,_,_,_,_,_,_,_,h⟩
   exact ⟨(h.own.nth 2 rfl).two,(h.own.nth 4 rfl).two,(h.own.nth 5 rfl).two,(h.own.nth 1 rfl).two⟩
 · intro p a v hJ
   refine op_step (o:=_) rfl (fun K hK=>?_)
   obtain⟨y1,y2,y3,y4,y5,y6,z1,ha,gg1,h⟩:=rdJ8_0 hJ
   have h:=Lib.hid h
   clear hJ
   subst ha
   go_simp
   refine (d10.out _ _ (h.out.own.nth 0 rfl)).mono ?_
   rintro rr w5 ⟨rfl,hp⟩
   try go_wp2_with fail
   refine hK.out _ _ ⟨_,y2,y3,y4,y5,y6,z1,?_,fun _=>rfl,by omega,by omega,by omega,by omega,by omega,gg1,h.out.putHead hp⟩
   kernel_rfl
 · intro p a v hJ
   refine op_step (o:=_) rfl (fun K hK=>?_)
   obtain⟨y2,y3,y4,y5,y6,z1,ha,gg1,h⟩:=rdJ8_1 hJ
   have h:=Lib.hid h
   clear hJ
   subst ha
   go_simp
   refine (c11.out _).mono ?_
   rintro rr w5 ⟨rfl,hp⟩
   try go_wp2_with fail
   refine hK.out _ _ ⟨_,_,y3,y4,y5,y6,z1,?_,fun _=>rfl,fun _=>rfl,by omega,by omega,by omega,by omega,gg1,h.out.below hp⟩
   kernel_rfl
 · intro p a v hJ
   refine op_step (o:=_) rfl (fun K hK=>?_)
   obtain⟨y3,y4,y5,y6,z1,ha,gg1,h⟩:=rdJ8_2 hJ
   have h:=Lib.hid h
   clear hJ
   subst ha
   go_simp
   refine (d12.out _ _ (h.out.own.nth 0 rfl)).mono ?_
   rintro rr w5 ⟨rfl,hp⟩
   try go_wp2_with fail
   refine hK.out _ _ ⟨_,_,_,y4,y5,y6,z1,?_,fun _=>rfl,fun _=>rfl,fun _=>rfl,by omega,by omega,by omega,gg1,h.out.putHead hp⟩
   kernel_rfl
 · intro p a v hJ
   refine op_step (o:=_) rfl (fun K hK=>?_)
   obtain⟨y4,y5,y6,z1,ha,gg1,h⟩:=rdJ8_3 hJ
   have h:=Lib.hid h
   clear hJ
   subst ha
   go_simp
   refine (c13.out _).mono ?_
   rintro rr w5 ⟨rfl,hp⟩
   try go_wp2_with fail
   refine hK.out _ _ ⟨_,_,_,_,y5,y6,z1,?_,fun _=>rfl,fun _=>rfl,fun _=>rfl,fun _=>rfl,by omega,by omega,gg1,h.out.below hp⟩
   kernel_rfl
 · intro p a v hJ
   refine op_step (o:=_) rfl (fun K hK=>?_)
   obtain⟨y5,y6,z1,ha,gg1,h⟩:=rdJ8_4 hJ
   have h:=Lib.hid h
   clear hJ
   subst ha
   go_simp
   refine (c14.out _).mono ?_
   rintro rr w5 ⟨rfl,hp⟩
   try go_wp2_with fail
   refine hK.out _ _ ⟨_,_,_,_,_,y6,z1,?_,fun _=>rfl,fun _=>rfl,fun _=>rfl,fun _=>rfl,fun _=>rfl,by omega,gg1,h.out.below hp⟩
   kernel_rfl
 · intro p a v hJ
   replace hJ:=rdJ8_5 hJ
   refine Exists.elim hJ (fun y6 hJ=>?_)
   refine Exists.elim hJ (fun z1 hJ=>?_)
   have ha:=hJ.1
   have gg1:=hJ.2.1
   have h:=hJ.2.2
   clear hJ
   subst ha
   refine ⟨_,.agg #[.float .f64 xl,.float .f64 xh,.float .f64 yl,.float .f64 yh,.float .f64 zl,.float .f64 zh],rfl,Or.inl ⟨by kernel_rfl,?_⟩,(fun _ _ _ h=>h),_,_,_,_,_,_,z1,?_,fun _=>rfl,fun _=>rfl,fun _=>rfl,fun _=>rfl,fun _=>rfl,fun _=>rfl,gg1,h⟩
   · intro w hSw; clear hSw h; go_simp; try with_reducible rfl
   · kernel_rfl
 · intro k p a v hp hJ
   refine op_step (o:=_) rfl (fun K hK=>?_)
   obtain⟨y1,y2,y3,y4,y5,y6,z1,ha,ee1,ee2,ee3,ee4,ee5,ee6,gg1,h⟩:=hJ
   have h:=Lib.hid h
   subst ha
   go_simp
   refine hK.out _ _ ⟨v.heap.size,y1,y2,y3,y4,y5,y6,.pointer (some ⟨v.heap.size,0,none⟩),?_,ee1,ee2,ee3,ee4,ee5,ee6,fun q hq=>ptr_set hq,h.out.alloc hp rfl _⟩
   kernel_rfl
 intro p8_1 a v hJ
 obtain⟨rfl,h⟩:=rdJ8_fin hJ
 clear hJ
 replace M:=Lib.hid h.fin1
 clear h
 refine tails_one (T:=[]) (i:=14) (o:=_) rfl (by kernel_rfl) (fun K hK=>?_)
 have kc:=(M.out.nth 0 rfl).2.1
 have kf:=(M.out.nth 0 rfl).2.2
 replace M:Hid (Own w [(p8_1,#[.float .f64 xl,.float .f64 xh,.float .f64 yl,.float .f64 yh,.float .f64 zl,.float .f64 zh]),((w2_.heap.size+2),#[.int .i64 0]),(p7_1,#[.float .f64 gl,.float .f64 gh]),(w4_.heap.size,#[.float .f64 jl,.float .f64 jh]),(w3_.heap.size,#[.float .f64 al,.float .f64 ah]),((w2_.heap.size+1),#[.float .f64 cl,.float .f64 ch]),(w2_.heap.size,#[.float .f64 sl,.float .f64 sh]),(w.heap.size,#[.float .f64 0,.float .f64 0,.float .f64 0,.float .f64 0,.float .f64 0,.float .f64 0])] _):=Lib.hid (M.out.set6 0 rfl (.float .f64 xl) (.float .f64 xh) (.float .f64 yl) (.float .f64 yh) (.float .f64 zl) (.float .f64 zh))
 go_simp
 refine hK.out _ _ (Or.inr ⟨(M.out.nth 3 rfl).two,(M.out.nth 5 rfl).two,(M.out.nth 6 rfl).two,(M.out.nth 2 rfl).two⟩) (fun hHeld=>?_)
 clear hK K hHeld kc kf
 refine tails_done (by kernel_rfl) ?_ _
 refine NoPanic.normal ?_
 clear hS
 replace M:Hid (Own w [((w2_.heap.size+2),#[.int .i64 0]),(p8_1,#[.float .f64 xl,.float .f64 xh,.float .f64 yl,.float .f64 yh,.float .f64 zl,.float .f64 zh]),(p7_1,#[.float .f64 gl,.float .f64 gh]),(w4_.heap.size,#[.float .f64 jl,.float .f64 jh]),(w3_.heap.size,#[.float .f64 al,.float .f64 ah]),((w2_.heap.size+1),#[.float .f64 cl,.float .f64 ch]),(w2_.heap.size,#[.float .f64 sl,.float .f64 sh]),(w.heap.size,#[.float .f64 0,.float .f64 0,.float .f64 0,.float .f64 0,.float .f64 0,.float .f64 0])] _):=Lib.hid M.out.front
 revert M
 generalize ((((((v.setCell ⟨p8_1,0,none⟩ (.float .f64 xl)).setCell ⟨p8_1,1,none⟩ (.float .f64 xh)).setCell ⟨p8_1,2,none⟩ (.float .f64 yl)).setCell ⟨p8_1,3,none⟩ (.float .f64 yh)).setCell ⟨p8_1,4,none⟩ (.float .f64 zl)).setCell ⟨p8_1,5,none⟩ (.float .f64 zh))=W7_
 intro M
 have k1:=(M.out.nth 0 rfl).pc
 obtain⟨k2,k3,k4,k5,k6,k7⟩:=(M.out.nth 1 rfl).six
 have kc:=(M.out.nth 7 rfl).2.1
 have kf:=(M.out.nth 7 rfl).2.2
 replace M:Hid (Own w [((w2_.heap.size+2),#[.int .i64 0]),(p8_1,#[.float .f64 xl,.float .f64 xh,.float .f64 yl,.float .f64 yh,.float .f64 zl,.float .f64 zh]),(p7_1,#[.float .f64 gl,.float .f64 gh]),(w4_.heap.size,#[.float .f64 jl,.float .f64 jh]),(w3_.heap.size,#[.float .f64 al,.float .f64 ah]),((w2_.heap.size+1),#[.float .f64 cl,.float .f64 ch]),(w2_.heap.size,#[.float .f64 sl,.float .f64 sh]),(w.heap.size,#[.float .f64 xl,.float .f64 xh,.float .f64 yl,.float .f64 yh,.float .f64 zl,.float .f64 zh])] _):=Lib.hid (M.out.set6 7 rfl (.float .f64 xl) (.float .f64 xh) (.float .f64 yl) (.float .f64 yh) (.float .f64 zl) (.float .f64 zh))
 go_wp2
 obtain⟨f1,f2,f3,f4,f5,f6⟩:=(M.out.nth 7 rfl).six
 exact bodyPost_ret (v:=.tuple #[.agg #[.float .f64 xl,.float .f64 xh,.float .f64 yl,.float .f64 yh,.float .f64 zl,.float .f64 zh],.int .i64 0]) (by simp [results,Tryz.results14,go_sem,f1,f2,f3,f4,f5,f6]) rfl ⟨rfl,M.out.base⟩
theorem rmid1_walk {al ah d g m:Nat} (w:World)
   (c1:Hid (∀ w,Calls Tryz.prog 89 #[.float .f64 ah,.float .f64 al,.bool false] w fun r w'=>r = .returned (.tuple #[.float .f64 d,.int .i64 0])∧Below w.heap.size w w'))
   (c2:Hid (∀ w,Calls Tryz.prog 100 #[.float .f64 4602678819172646912,.float .f64 d,.bool false] w fun r w'=>r = .returned (.tuple #[.float .f64 g,.int .i64 0])∧Below w.heap.size w w'))
   (c3:Hid (∀ w,Calls Tryz.prog 101 #[.float .f64 al,.float .f64 g,.bool false] w fun r w'=>r = .returned (.tuple #[.float .f64 m,.int .i64 0])∧Below w.heap.size w w')) :
   Calls Tryz.prog 53 #[.agg #[.float .f64 al,.float .f64 ah]] w fun r w'=>r = .returned (.tuple #[.float .f64 m,.int .i64 0])∧Below w.heap.size w w':=by
 have M:=Lib.hid ((Own.nil w).made #[.float .f64 al,.float .f64 ah] 31)
 have eqF:=eq_floats
 go_enter Tryz.func53,Tryz.ntmps53
 obtain⟨k1,k2⟩:=(M.out.nth 0 rfl).two
 go_wp2_with fail
 refine (c1.out _).mono ?_
 rintro r w1_ ⟨rfl,hb⟩
 replace M:=Lib.hid (M.out.below hb)
 clear hb
 clear k1 k2
 go_wp2_with fail
 refine (c2.out _).mono ?_
 rintro r w2_ ⟨rfl,hb⟩
 replace M:=Lib.hid (M.out.below hb)
 clear hb
 obtain⟨k1,k2⟩:=(M.out.nth 0 rfl).two
 go_wp2_with fail
 refine (c3.out _).mono ?_
 rintro r w3_ ⟨rfl,hb⟩
 replace M:=Lib.hid (M.out.below hb)
 clear hb
 clear k1 k2
 go_wp2
 go_ret2
 exact ⟨rfl,M.out.base⟩
theorem rmid_walk {a0 a1 a2 a3 a4 a5 m0 m1 m2:Nat} (w:World)
   (c1:Hid (∀ w,Calls Tryz.prog 52 #[.agg #[.float .f64 a0,.float .f64 a1]] w fun r w'=>r = .returned (.bool true)∧Below w.heap.size w w'))
   (c2:Hid (∀ w,Calls Tryz.prog 52 #[.agg #[.float .f64 a2,.float .f64 a3]] w fun r w'=>r = .returned (.bool true)∧Below w.heap.size w w'))
   (c3:Hid (∀ w,Calls Tryz.prog 52 #[.agg #[.float .f64 a4,.float .f64 a5]] w fun r w'=>r = .returned (.bool true)∧Below w.heap.size w w'))
   (c4:Hid (∀ w,Calls Tryz.prog 53 #[.agg #[.float .f64 a0,.float .f64 a1]] w fun r w'=>r = .returned (.tuple #[.float .f64 m0,.int .i64 0])∧Below w.heap.size w w'))
   (c5:Hid (∀ w,Calls Tryz.prog 53 #[.agg #[.float .f64 a2,.float .f64 a3]] w fun r w'=>r = .returned (.tuple #[.float .f64 m1,.int .i64 0])∧Below w.heap.size w w'))
   (c6:Hid (∀ w,Calls Tryz.prog 53 #[.agg #[.float .f64 a4,.float .f64 a5]] w fun r w'=>r = .returned (.tuple #[.float .f64 m2,.int .i64 0])∧Below w.heap.size w w')) :
   Calls Tryz.prog 16 #[.agg #[.float .f64 a0,.float .f64 a1,.float .f64 a2,.float .f64 a3,.float .f64 a4,.float .f64 a5]] w fun r w'=>r = .returned (.tuple #[.agg #[.float .f64 m0,.float .f64 m1,.float .f64 m2],.int .i64 0])∧Below w.heap.size w w':=by
 have M:=Lib.hid (((Own.nil w).made #[.float .f64 a0,.float .f64 a1,.float .f64 a2,.float .f64 a3,.float .f64 a4,.float .f64 a5] 33).made #[.float .f64 0,.float .f64 0,.float .f64 0] 49)
 simp only [World.size_alloc] at M
 have eqF:=eq_floats
 go_enter Tryz.func16,Tryz.ntmps16
 obtain⟨k1,k2,k3,k4,k5,k6⟩:=(M.out.nth 1 rfl).six
 go_wp2_with fail
 refine (c1.out _).mono ?_
 rintro r w1_ ⟨rfl,hb⟩
 replace M:=Lib.hid (M.out.below hb)
 clear hb
 clear k1 k2 k3 k4 k5 k6
 obtain⟨k1,k2,k3,k4,k5,k6⟩:=(M.out.nth 1 rfl).six
 go_wp2_with fail
 refine (c2.out _).mono ?_
 rintro r w2_ ⟨rfl,hb⟩
 replace M:=Lib.hid (M.out.below hb)
 clear hb
 clear k1 k2 k3 k4 k5 k6
 obtain⟨k1,k2,k3,k4,k5,k6⟩:=(M.out.nth 1 rfl).six
 go_wp2_with fail
 refine (c3.out _).mono ?_
 rintro r w3_ ⟨rfl,hb⟩
 replace M:=Lib.hid (M.out.below hb)
 clear hb
 clear k1 k2 k3 k4 k5 k6
 obtain⟨k1,k2,k3,k4,k5,k6⟩:=(M.out.nth 1 rfl).six
 go_wp2_with fail
 refine (c4.out _).mono ?_
 rintro r w4_ ⟨rfl,hb⟩
 replace M:=Lib.hid (M.out.below hb)
 clear hb
 clear k1 k2 k3 k4 k5 k6
 obtain⟨k1,k2,k3,k4,k5,k6⟩:=(M.out.nth 1 rfl).six
 go_wp2_with fail
 refine (c5.out _).mono ?_
 rintro r w5_ ⟨rfl,hb⟩
 replace M:=Lib.hid (M.out.below hb)
 clear hb
 clear k1 k2 k3 k4 k5 k6
 obtain⟨k1,k2,k3,k4,k5,k6⟩:=(M.out.nth 1 rfl).six
 go_wp2_with fail
 refine (c6.out _).mono ?_
 rintro r w6_ ⟨rfl,hb⟩
 replace M:=Lib.hid (M.out.below hb)
 clear hb
 clear k1 k2 k3 k4 k5 k6
 have kc:=(M.out.nth 0 rfl).2.1
 have kf:=(M.out.nth 0 rfl).2.2
 replace M:Hid (Own w [((w.heap.size+1),#[.float .f64 m0,.float .f64 0,.float .f64 0]),(w.heap.size,#[.float .f64 a0,.float .f64 a1,.float .f64 a2,.float .f64 a3,.float .f64 a4,.float .f64 a5])] _):=Lib.hid ((M.out.setIn 0 rfl 0 (.float .f64 m0)).to (by rfl))
 replace M:Hid (Own w [((w.heap.size+1),#[.float .f64 m0,.float .f64 m1,.float .f64 0]),(w.heap.size,#[.float .f64 a0,.float .f64 a1,.float .f64 a2,.float .f64 a3,.float .f64 a4,.float .f64 a5])] _):=Lib.hid ((M.out.setIn 0 rfl 1 (.float .f64 m1)).to (by rfl))
 replace M:Hid (Own w [((w.heap.size+1),#[.float .f64 m0,.float .f64 m1,.float .f64 m2]),(w.heap.size,#[.float .f64 a0,.float .f64 a1,.float .f64 a2,.float .f64 a3,.float .f64 a4,.float .f64 a5])] _):=Lib.hid ((M.out.setIn 0 rfl 2 (.float .f64 m2)).to (by rfl))
 go_wp2
 obtain⟨f1,f2,f3⟩:=(M.out.nth 0 rfl).three
 exact bodyPost_ret (v:=.tuple #[.agg #[.float .f64 m0,.float .f64 m1,.float .f64 m2],.int .i64 0]) (by simp [results,Tryz.results16,go_sem,f1,f2,f3]) rfl ⟨rfl,M.out.base⟩
theorem rmid_bad0 {a0 a1 a2 a3 a4 a5:Nat} (w:World)
   (c1:Hid (∀ w,Calls Tryz.prog 52 #[.agg #[.float .f64 a0,.float .f64 a1]] w fun r w'=>r = .returned (.bool false)∧Below w.heap.size w w')) :
   Calls Tryz.prog 16 #[.agg #[.float .f64 a0,.float .f64 a1,.float .f64 a2,.float .f64 a3,.float .f64 a4,.float .f64 a5]] w fun r w'=>r = .returned (.tuple #[.agg #[.float .f64 0,.float .f64 0,.float .f64 0],.int .i64 20])∧Below w.heap.size w w':=by
 have M:=Lib.hid (((Own.nil w).made #[.float .f64 a0,.float .f64 a1,.float .f64 a2,.float .f64 a3,.float .f64 a4,.float .f64 a5] 33).made #[.float .f64 0,.float .f64 0,.float .f64 0] 49)
 simp only [World.size_alloc] at M
 have eqF:=eq_floats
 go_enter Tryz.func16,Tryz.ntmps16
 obtain⟨k1,k2,k3,k4,k5,k6⟩:=(M.out.nth 1 rfl).six
 go_wp2_with fail
 refine (c1.out _).mono ?_
 rintro r w1_ ⟨rfl,hb⟩
 replace M:=Lib.hid (M.out.below hb)
 clear hb
 clear k1 k2 k3 k4 k5 k6
 have kc:=(M.out.nth 0 rfl).2.1
 have kf:=(M.out.nth 0 rfl).2.2
 replace M:Hid (Own w [((w.heap.size+1),#[.float .f64 0,.float .f64 0,.float .f64 0]),(w.heap.size,#[.float .f64 a0,.float .f64 a1,.float .f64 a2,.float .f64 a3,.float .f64 a4,.float .f64 a5])] _):=Lib.hid ((M.out.setIn 0 rfl 0 (.float .f64 0)).to (by rfl))
 replace M:Hid (Own w [((w.heap.size+1),#[.float .f64 0,.float .f64 0,.float .f64 0]),(w.heap.size,#[.float .f64 a0,.float .f64 a1,.float .f64 a2,.float .f64 a3,.float .f64 a4,.float .f64 a5])] _):=Lib.hid ((M.out.setIn 0 rfl 1 (.float .f64 0)).to (by rfl))
 replace M:Hid (Own w [((w.heap.size+1),#[.float .f64 0,.float .f64 0,.float .f64 0]),(w.heap.size,#[.float .f64 a0,.float .f64 a1,.float .f64 a2,.float .f64 a3,.float .f64 a4,.float .f64 a5])] _):=Lib.hid ((M.out.setIn 0 rfl 2 (.float .f64 0)).to (by rfl))
 go_wp2
 obtain⟨f1,f2,f3⟩:=(M.out.nth 0 rfl).three
 exact bodyPost_ret (v:=.tuple #[.agg #[.float .f64 0,.float .f64 0,.float .f64 0],.int .i64 20]) (by simp [results,Tryz.results16,go_sem,f1,f2,f3]) rfl ⟨rfl,M.out.base⟩
theorem rmid_bad1 {a0 a1 a2 a3 a4 a5:Nat} (w:World)
   (c1:Hid (∀ w,Calls Tryz.prog 52 #[.agg #[.float .f64 a0,.float .f64 a1]] w fun r w'=>r = .returned (.bool true)∧Below w.heap.size w w'))
   (c2:Hid (∀ w,Calls Tryz.prog 52 #[.agg #[.float .f64 a2,.float .f64 a3]] w fun r w'=>r = .returned (.bool false)∧Below w.heap.size w w')) :
   Calls Tryz.prog 16 #[.agg #[.float .f64 a0,.float .f64 a1,.float .f64 a2,.float .f64 a3,.float .f64 a4,.float .f64 a5]] w fun r w'=>r = .returned (.tuple #[.agg #[.float .f64 0,.float .f64 0,.float .f64 0],.int .i64 20])∧Below w.heap.size w w':=by
 have M:=Lib.hid (((Own.nil w).made #[.float .f64 a0,.float .f64 a1,.float .f64 a2,.float .f64 a3,.float .f64 a4,.float .f64 a5] 33).made #[.float .f64 0,.float .f64 0,.float .f64 0] 49)
 simp only [World.size_alloc] at M
 have eqF:=eq_floats
 go_enter Tryz.func16,Tryz.ntmps16
 obtain⟨k1,k2,k3,k4,k5,k6⟩:=(M.out.nth 1 rfl).six
 go_wp2_with fail
 refine (c1.out _).mono ?_
 rintro r w1_ ⟨rfl,hb⟩
 replace M:=Lib.hid (M.out.below hb)
 clear hb
 clear k1 k2 k3 k4 k5 k6
 obtain⟨k1,k2,k3,k4,k5,k6⟩:=(M.out.nth 1 rfl).six
 go_wp2_with fail
 refine (c2.out _).mono ?_
 rintro r w2_ ⟨rfl,hb⟩
 replace M:=Lib.hid (M.out.below hb)
 clear hb
 clear k1 k2 k3 k4 k5 k6
 have kc:=(M.out.nth 0 rfl).2.1
 have kf:=(M.out.nth 0 rfl).2.2
 replace M:Hid (Own w [((w.heap.size+1),#[.float .f64 0,.float .f64 0,.float .f64 0]),(w.heap.size,#[.float .f64 a0,.float .f64 a1,.float .f64 a2,.float .f64 a3,.float .f64 a4,.float .f64 a5])] _):=Lib.hid ((M.out.setIn 0 rfl 0 (.float .f64 0)).to (by rfl))
 replace M:Hid (Own w [((w.heap.size+1),#[.float .f64 0,.float .f64 0,.float .f64 0]),(w.heap.size,#[.float .f64 a0,.float .f64 a1,.float .f64 a2,.float .f64 a3,.float .f64 a4,.float .f64 a5])] _):=Lib.hid ((M.out.setIn 0 rfl 1 (.float .f64 0)).to (by rfl))
 replace M:Hid (Own w [((w.heap.size+1),#[.float .f64 0,.float .f64 0,.float .f64 0]),(w.heap.size,#[.float .f64 a0,.float .f64 a1,.float .f64 a2,.float .f64 a3,.float .f64 a4,.float .f64 a5])] _):=Lib.hid ((M.out.setIn 0 rfl 2 (.float .f64 0)).to (by rfl))
 go_wp2
 obtain⟨f1,f2,f3⟩:=(M.out.nth 0 rfl).three
 exact bodyPost_ret (v:=.tuple #[.agg #[.float .f64 0,.float .f64 0,.float .f64 0],.int .i64 20]) (by simp [results,Tryz.results16,go_sem,f1,f2,f3]) rfl ⟨rfl,M.out.base⟩
theorem rmid_bad2 {a0 a1 a2 a3 a4 a5:Nat} (w:World)
   (c1:Hid (∀ w,Calls Tryz.prog 52 #[.agg #[.float .f64 a0,.float .f64 a1]] w fun r w'=>r = .returned (.bool true)∧Below w.heap.size w w'))
   (c2:Hid (∀ w,Calls Tryz.prog 52 #[.agg #[.float .f64 a2,.float .f64 a3]] w fun r w'=>r = .returned (.bool true)∧Below w.heap.size w w'))
   (c3:Hid (∀ w,Calls Tryz.prog 52 #[.agg #[.float .f64 a4,.float .f64 a5]] w fun r w'=>r = .returned (.bool false)∧Below w.heap.size w w')) :
   Calls Tryz.prog 16 #[.agg #[.float .f64 a0,.float .f64 a1,.float .f64 a2,.float .f64 a3,.float .f64 a4,.float .f64 a5]] w fun r w'=>r = .returned (.tuple #[.agg #[.float .f64 0,.float .f64 0,.float .f64 0],.int .i64 20])∧Below w.heap.size w w':=by
 have M:=Lib.hid (((Own.nil w).made #[.float .f64 a0,.float .f64 a1,.float .f64 a2,.float .f64 a3,.float .f64 a4,.float .f64 a5] 33).made #[.float .f64 0,.float .f64 0,.float .f64 0] 49)
 simp only [World.size_alloc] at M
 have eqF:=eq_floats
 go_enter Tryz.func16,Tryz.ntmps16
 obtain⟨k1,k2,k3,k4,k5,k6⟩:=(M.out.nth 1 rfl).six
 go_wp2_with fail
 refine (c1.out _).mono ?_
 rintro r w1_ ⟨rfl,hb⟩
 replace M:=Lib.hid (M.out.below hb)
 clear hb
 clear k1 k2 k3 k4 k5 k6
 obtain⟨k1,k2,k3,k4,k5,k6⟩:=(M.out.nth 1 rfl).six
 go_wp2_with fail
 refine (c2.out _).mono ?_
 rintro r w2_ ⟨rfl,hb⟩
 replace M:=Lib.hid (M.out.below hb)
 clear hb
 clear k1 k2 k3 k4 k5 k6
 obtain⟨k1,k2,k3,k4,k5,k6⟩:=(M.out.nth 1 rfl).six
 go_wp2_with fail
 refine (c3.out _).mono ?_
 rintro r w3_ ⟨rfl,hb⟩
 replace M:=Lib.hid (M.out.below hb)
 clear hb
 clear k1 k2 k3 k4 k5 k6
 have kc:=(M.out.nth 0 rfl).2.1
 have kf:=(M.out.nth 0 rfl).2.2
 replace M:Hid (Own w [((w.heap.size+1),#[.float .f64 0,.float .f64 0,.float .f64 0]),(w.heap.size,#[.float .f64 a0,.float .f64 a1,.float .f64 a2,.float .f64 a3,.float .f64 a4,.float .f64 a5])] _):=Lib.hid ((M.out.setIn 0 rfl 0 (.float .f64 0)).to (by rfl))
 replace M:Hid (Own w [((w.heap.size+1),#[.float .f64 0,.float .f64 0,.float .f64 0]),(w.heap.size,#[.float .f64 a0,.float .f64 a1,.float .f64 a2,.float .f64 a3,.float .f64 a4,.float .f64 a5])] _):=Lib.hid ((M.out.setIn 0 rfl 1 (.float .f64 0)).to (by rfl))
 replace M:Hid (Own w [((w.heap.size+1),#[.float .f64 0,.float .f64 0,.float .f64 0]),(w.heap.size,#[.float .f64 a0,.float .f64 a1,.float .f64 a2,.float .f64 a3,.float .f64 a4,.float .f64 a5])] _):=Lib.hid ((M.out.setIn 0 rfl 2 (.float .f64 0)).to (by rfl))
 go_wp2
 obtain⟨f1,f2,f3⟩:=(M.out.nth 0 rfl).three
 exact bodyPost_ret (v:=.tuple #[.agg #[.float .f64 0,.float .f64 0,.float .f64 0],.int .i64 20]) (by simp [results,Tryz.results16,go_sem,f1,f2,f3]) rfl ⟨rfl,M.out.base⟩
end
end Go.Proofs.YtnaomilkgfkegaaGreat
