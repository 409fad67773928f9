/- What the claim stands on, part 29: MiK. -/
import Derived.Test.YtnaomilkgfkegaaGreatWA0
import Derived.RangeFuncNested
import Derived.RangeFuncBound
import Derived.RangeFuncCalls
import Derived.RangeFuncLeaves
import Derived.Shelf.Abstract
import Derived.OwnWalkIn
import Derived.TacticsInMore
import Derived.LoopNIn
import Derived.LoopIn
set_option maxHeartbeats 8000000
set_option maxRecDepth 100000
namespace Go.Proofs.YtnaomilkgfkegaaGreat
section
open Go.RowKit Go.Shelf
attribute [local go_sem] Oper.semAt_some run_store_float
structure Ar where
 lo:Nat
 hi:Nat
 ls:Nat
 gs:Nat
 r:∀ w,Calls Tryz.prog 46 #[.agg #[lo,hi]] w (Rt (.bool true) w)
def enA (x:Ar):Array Value:=#[.agg #[.float .f64 x.lo,.float .f64 x.hi],.agg #[.float .f64 x.ls,.float .f64 x.gs]]
structure Kc (W W':World):Prop where
 size:W.heap.size≤W'.heap.size
 same:∀ (k:Nat) (o:Obj),W.heap[k]? = some o→o.isCells=true→W'.heap[k]? = some o
theorem Kc.refl (W:World):Kc W W:=⟨Nat.le_refl _,fun _ _ h _=>h⟩
theorem Kc.trans {A B C:World} (h:Kc A B) (k:Kc B C):Kc A C:=⟨Nat.le_trans h.size k.size,fun i o hi ho=>k.same i o (h.same i o hi ho) ho⟩
theorem Kc.alloc (W:World) (o:Obj):Kc W (W.alloc o):=⟨by simp,fun k _ hk _=>(Below.heap_alloc W o k (Array.getElem?_eq_some_iff.1 hk).1).trans hk⟩
theorem Kc.of_below {W W':World} (h:Below W.heap.size W W'):Kc W W':=⟨h.size,fun k _ hk _=>(h.block k (Array.getElem?_eq_some_iff.1 hk).1).trans hk⟩
theorem Kc.cell {A B:World} (h:Kc A B) {a:Addr} {v:Value} (e:A.cell? a=some v):B.cell? a=some v:=by
 obtain⟨o,ho,hc⟩:=cells_of_cell e;have:=h.same _ _ ho hc;unfold World.cell? at e ⊢
 rw [this]; rw [ho] at e; exact e
theorem kc_b (W:World) (l:Nat) (o o':Obj) (h:W.heap[l]? = some o) (hc:o.isCells=false):Kc W (W.putObj l o'):=by
 refine ⟨by simp,fun k p hk hp=>?_⟩
 by_cases e:k=l
 ·subst e; rw [h] at hk; cases hk; rw [hc] at hp; cases hp
 ·rw [World.putObj_heap_other e]; exact hk
def Row (W:World) (b:Nat) (vs:Array Value):Prop:=∀ (i:Nat) (v:Value),vs[i]? = some v→W.cell? ⟨b,i,none⟩=some v
theorem Row.kc {A B:World} {b:Nat} {vs:Array Value} (r:Row A b vs) (h:Kc A B):Row B b vs:=fun i v e=>h.cell (r i v e)
theorem Row.new (W:World) (vs:Array Value) (t:TypeId):Row (W.alloc (.cells vs t)) W.heap.size vs:=fun _ _ e=>(World.cell?_alloc_at _ _ _ _ rfl).trans e
theorem abides_new {β:Type} {B:Nat} {J:β→World→Prop} (h:AbidesFrom B J) {s:β} {W:World} (o:Obj) (j:J s W):J s (W.alloc o):=h s W _ none j (World.grownBy_alloc W o none) (fun _ e=>by cases e)
theorem arg0_in (F:Fence) (n:Nat) (hF:F.fn 215) (hro:F.round=none) (hn:1≤n) (l b1 b2 b3 b4 b5 b6:Nat) (e1 e2 e3 e4 e5 e6:Ar) (J Jx:List Ar→World→Prop)
  (q1:e1.ls=13830554455654793216∧e1.gs=4607182418800017408) (q2:e2.ls=13830554455654793216∧e2.gs=4607182418800017408) (q3:e3.ls=0∧e3.gs=4607182418800017408) (q4:e4.ls=13830554455654793216∧e4.gs=4607182418800017408) (q5:e5.ls=13830554455654793216∧e5.gs=4607182418800017408) (q6:e6.ls=0∧e6.gs=4607182418800017408)
  (hY:∀ pre x W,J pre W→pre.length < 6→YieldAt F (n - 1) Tryz.prog l (enA x) W fun e W'=>(e = .returned (.bool true)∧J (pre++[x]) W'∧Kc W W')∨(e = .returned (.bool false)∧Jx (pre++[x]) W'))
  (W:World) (hJ:AbidesFrom W.heap.size J) (r1:Row W b1 #[e1.lo,e1.hi,e2.lo,e2.hi,e3.lo,e3.hi]) (r2:Row W b2 #[e4.lo,e4.hi,e5.lo,e5.hi,e6.lo,e6.hi]) (r3:Row W b3 #[(13830554455654793216:Nat),(4607182418800017408:Nat)]) (r4:Row W b4 #[(),(4607182418800017408:Nat)]) (r5:Row W b5 #[.slice none 0 0]) (h0:J [] W) :
  CallsIn F n Tryz.prog 215 #[.func (.yield l) #[] #[],.pointer (some ⟨b1,0,none⟩),.pointer (some ⟨b2,0,none⟩),.pointer (some ⟨b3,0,none⟩),.pointer (some ⟨b4,0,none⟩),.pointer (some ⟨b5,0,none⟩),.pointer (some ⟨b6,0,none⟩)] W fun e W'=>(∃ v,e = .returned v) ∧
   ((∃ ys,ys=[e1,e2,e3,e4,e5,e6]∧J ys W')∨(∃ pre,pre <+: [e1,e2,e3,e4,e5,e6]∧Jx pre W')):=by
 refine callsIn_of_wp Tryz.func215 rfl hF ?_ hro;simp only [Tryz.ntmps215,List.size_toArray,List.length_cons,List.length_nil,Nat.reduceAdd,Nat.reduceSub,Array.replicate_succ,Array.replicate_zero,List.push_toArray,List.append_toArray,List.nil_append,List.cons_append];have sr10:W.cell? ⟨b1,0,none⟩=some (.float .f64 e1.lo):=r1 0 _ rfl;have sr11:W.cell? ⟨b1,1,none⟩=some (.float .f64 e1.hi):=r1 1 _ rfl;have sr12:W.cell? ⟨b1,2,none⟩=some (.float .f64 e2.lo):=r1 2 _ rfl;have sr13:W.cell? ⟨b1,3,none⟩=some (.float .f64 e2.hi):=r1 3 _ rfl;have sr14:W.cell? ⟨b1,4,none⟩=some (.float .f64 e3.lo):=r1 4 _ rfl;have sr15:W.cell? ⟨b1,5,none⟩=some (.float .f64 e3.hi):=r1 5 _ rfl;have sr20:W.cell? ⟨b2,0,none⟩=some (.float .f64 e4.lo):=r2 0 _ rfl;have sr21:W.cell? ⟨b2,1,none⟩=some (.float .f64 e4.hi):=r2 1 _ rfl;have sr22:W.cell? ⟨b2,2,none⟩=some (.float .f64 e5.lo):=r2 2 _ rfl;have sr23:W.cell? ⟨b2,3,none⟩=some (.float .f64 e5.hi):=r2 3 _ rfl
 have sr24:W.cell? ⟨b2,4,none⟩=some (.float .f64 e6.lo):=r2 4 _ rfl;have sr25:W.cell? ⟨b2,5,none⟩=some (.float .f64 e6.hi):=r2 5 _ rfl
 have j0:∀ w,(Instr.index 207 (.agg #[e1.lo,e1.hi,e2.lo,e2.hi,e3.lo,e3.hi,e4.lo,e4.hi,e5.lo,e5.hi,e6.lo,e6.hi]) (.int .i64 0)).run Tryz.prog w = .ok (.agg #[e1.lo,e1.hi,e2.lo,e2.hi,e3.lo,e3.hi]) w:=fun _=>by kernel_rfl
 have j1:∀ w,(Instr.index 207 (.agg #[e1.lo,e1.hi,e2.lo,e2.hi,e3.lo,e3.hi,e4.lo,e4.hi,e5.lo,e5.hi,e6.lo,e6.hi]) (.int .i64 1)).run Tryz.prog w = .ok (.agg #[e4.lo,e4.hi,e5.lo,e5.hi,e6.lo,e6.hi]) w:=fun _=>by kernel_rfl
 gi_wp2
 clear sr10 sr11 sr12 sr13 sr14 sr15 sr20 sr21 sr22 sr23 sr24 sr25
 gi_loopw [15] (fun i wr=>(i = .int .i64 0∧J [] wr∨i = .int .i64 1∧J [e1,e2,e3] wr∨i = .int .i64 2∧J [e1,e2,e3,e4,e5,e6] wr)∧Kc W wr) (fun i _=>2 - (intOf i).toNat)
 case atStart=>exact ⟨.inl ⟨rfl,h0⟩,Kc.refl _⟩
 case round =>
  obtain⟨⟨rfl,hJs⟩ | ⟨rfl,hJs⟩ | ⟨rfl,hJs⟩,hnx⟩:=hrel
  ·have t3:=r3.kc (hnx.trans (Kc.alloc wr (.cells #[e1.lo,e1.hi,e2.lo,e2.hi,e3.lo,e3.hi] 33)))
   have t4:=r4.kc (hnx.trans (Kc.alloc wr (.cells #[e1.lo,e1.hi,e2.lo,e2.hi,e3.lo,e3.hi] 33)));have td:=Row.new wr #[e1.lo,e1.hi,e2.lo,e2.hi,e3.lo,e3.hi] 33;obtain⟨w1,hw1⟩:∃ w1,wr.alloc (.cells #[e1.lo,e1.hi,e2.lo,e2.hi,e3.lo,e3.hi] 33)=w1:=⟨_,rfl⟩;have hJ1:J [] w1:=hw1 ▸ abides_new hJ _ hJs;have hn1:Kc W w1:=hw1 ▸ hnx.trans (Kc.alloc wr _);rw [hw1] at t3 t4 td;obtain⟨fn0,tm0,as0,bo0,hy0,hR0⟩:=hY _ e1 w1 hJ1 (by simp);simp only [enA,q1] at hy0;have sd0:w1.cell? ⟨wr.heap.size,0,none⟩=some (.float .f64 e1.lo):=td 0 _ rfl;have sd1:w1.cell? ⟨wr.heap.size,1,none⟩=some (.float .f64 e1.hi):=td 1 _ rfl;have sl0:Cf w1 b3 0 13830554455654793216:=t3 0 _ rfl;have sl1:Cf w1 b3 1 4607182418800017408:=t3 1 _ rfl
   gi_wp2
   refine hR0.mono ?_;rintro e v1 (⟨rfl,hJ2,kc0⟩ | ⟨rfl,hJx2⟩)
   rotate_left
   ·skip
    gi_wp2
    refine ⟨fun _ h=>(by cases h),?_⟩
    gi_wp2
    refine bodyPost_ret (results_none rfl _ _ _) rfl ?_;exact ⟨⟨_,rfl⟩,.inr ⟨[e1],by simp,hJx2⟩⟩
   clear sd0 sd1 sl0 sl1 hy0 hR0;replace t3:=t3.kc kc0;replace t4:=t4.kc kc0;replace td:=td.kc kc0;obtain⟨fn1,tm1,as1,bo1,hy1,hR1⟩:=hY _ e2 v1 hJ2 (by simp);simp only [enA,q2] at hy1;have sd0:v1.cell? ⟨wr.heap.size,2,none⟩=some (.float .f64 e2.lo):=td 2 _ rfl;have sd1:v1.cell? ⟨wr.heap.size,3,none⟩=some (.float .f64 e2.hi):=td 3 _ rfl;have sl0:Cf v1 b3 0 13830554455654793216:=t3 0 _ rfl;have sl1:Cf v1 b3 1 4607182418800017408:=t3 1 _ rfl
   gi_wp2
   refine hR1.mono ?_;rintro e v2 (⟨rfl,hJ3,kc1⟩ | ⟨rfl,hJx3⟩)
   rotate_left
   ·skip
    gi_wp2
    refine ⟨fun _ h=>(by cases h),?_⟩
    gi_wp2
    refine bodyPost_ret (results_none rfl _ _ _) rfl ?_;exact ⟨⟨_,rfl⟩,.inr ⟨[e1,e2],by simp,hJx3⟩⟩
   clear sd0 sd1 sl0 sl1 hy1 hR1;replace t3:=t3.kc kc1;replace t4:=t4.kc kc1;replace td:=td.kc kc1;obtain⟨fn2,tm2,as2,bo2,hy2,hR2⟩:=hY _ e3 v2 hJ3 (by simp);simp only [enA,q3] at hy2;have sd0:v2.cell? ⟨wr.heap.size,4,none⟩=some (.float .f64 e3.lo):=td 4 _ rfl;have sd1:v2.cell? ⟨wr.heap.size,5,none⟩=some (.float .f64 e3.hi):=td 5 _ rfl;have sl0:Cf v2 b4 0 0:=t4 0 _ rfl;have sl1:Cf v2 b4 1 4607182418800017408:=t4 1 _ rfl
   gi_wp2
   refine hR2.mono ?_;rintro e v3 (⟨rfl,hJ4,kc2⟩ | ⟨rfl,hJx4⟩)
   rotate_left
   ·skip
    gi_wp2
    refine bodyPost_ret (results_none rfl _ _ _) rfl ?_;exact ⟨⟨_,rfl⟩,.inr ⟨[e1,e2,e3],by simp,hJx4⟩⟩
   clear sd0 sd1 sl0 sl1 hy2 hR2;replace t3:=t3.kc kc2;replace t4:=t4.kc kc2;replace td:=td.kc kc2
   gi_wp2
   go_roundw
   case rel=>exact ⟨.inr <| .inl ⟨rfl,hJ4⟩,hn1.trans (kc0.trans (kc1.trans kc2))⟩
   case measure=>simp [intOf]
  ·have t3:=r3.kc (hnx.trans (Kc.alloc wr (.cells #[e4.lo,e4.hi,e5.lo,e5.hi,e6.lo,e6.hi] 33)))
   have t4:=r4.kc (hnx.trans (Kc.alloc wr (.cells #[e4.lo,e4.hi,e5.lo,e5.hi,e6.lo,e6.hi] 33)));have td:=Row.new wr #[e4.lo,e4.hi,e5.lo,e5.hi,e6.lo,e6.hi] 33;obtain⟨w1,hw1⟩:∃ w1,wr.alloc (.cells #[e4.lo,e4.hi,e5.lo,e5.hi,e6.lo,e6.hi] 33)=w1:=⟨_,rfl⟩;have hJ1:J [e1,e2,e3] w1:=hw1 ▸ abides_new hJ _ hJs;have hn1:Kc W w1:=hw1 ▸ hnx.trans (Kc.alloc wr _);rw [hw1] at t3 t4 td;obtain⟨fn0,tm0,as0,bo0,hy0,hR0⟩:=hY _ e4 w1 hJ1 (by simp);simp only [enA,q4] at hy0;have sd0:w1.cell? ⟨wr.heap.size,0,none⟩=some (.float .f64 e4.lo):=td 0 _ rfl;have sd1:w1.cell? ⟨wr.heap.size,1,none⟩=some (.float .f64 e4.hi):=td 1 _ rfl;have sl0:Cf w1 b3 0 13830554455654793216:=t3 0 _ rfl;have sl1:Cf w1 b3 1 4607182418800017408:=t3 1 _ rfl
   gi_wp2
   refine hR0.mono ?_;rintro e v1 (⟨rfl,hJ2,kc0⟩ | ⟨rfl,hJx2⟩)
   rotate_left
   ·skip
    gi_wp2
    refine ⟨fun _ h=>(by cases h),?_⟩
    gi_wp2
    refine bodyPost_ret (results_none rfl _ _ _) rfl ?_;exact ⟨⟨_,rfl⟩,.inr ⟨[e1,e2,e3,e4],by simp,hJx2⟩⟩
   clear sd0 sd1 sl0 sl1 hy0 hR0;replace t3:=t3.kc kc0;replace t4:=t4.kc kc0;replace td:=td.kc kc0;obtain⟨fn1,tm1,as1,bo1,hy1,hR1⟩:=hY _ e5 v1 hJ2 (by simp);simp only [enA,q5] at hy1;have sd0:v1.cell? ⟨wr.heap.size,2,none⟩=some (.float .f64 e5.lo):=td 2 _ rfl;have sd1:v1.cell? ⟨wr.heap.size,3,none⟩=some (.float .f64 e5.hi):=td 3 _ rfl;have sl0:Cf v1 b3 0 13830554455654793216:=t3 0 _ rfl;have sl1:Cf v1 b3 1 4607182418800017408:=t3 1 _ rfl
   gi_wp2
   refine hR1.mono ?_;rintro e v2 (⟨rfl,hJ3,kc1⟩ | ⟨rfl,hJx3⟩)
   rotate_left
   ·skip
    gi_wp2
    refine ⟨fun _ h=>(by cases h),?_⟩
    gi_wp2
    refine bodyPost_ret (results_none rfl _ _ _) rfl ?_;exact ⟨⟨_,rfl⟩,.inr ⟨[e1,e2,e3,e4,e5],by simp,hJx3⟩⟩
   clear sd0 sd1 sl0 sl1 hy1 hR1;replace t3:=t3.kc kc1;replace t4:=t4.kc kc1;replace td:=td.kc kc1;obtain⟨fn2,tm2,as2,bo2,hy2,hR2⟩:=hY _ e6 v2 hJ3 (by simp);simp only [enA,q6] at hy2;have sd0:v2.cell? ⟨wr.heap.size,4,none⟩=some (.float .f64 e6.lo):=td 4 _ rfl;have sd1:v2.cell? ⟨wr.heap.size,5,none⟩=some (.float .f64 e6.hi):=td 5 _ rfl;have sl0:Cf v2 b4 0 0:=t4 0 _ rfl;have sl1:Cf v2 b4 1 4607182418800017408:=t4 1 _ rfl
   gi_wp2
   refine hR2.mono ?_;rintro e v3 (⟨rfl,hJ4,kc2⟩ | ⟨rfl,hJx4⟩)
   rotate_left
   ·skip
    gi_wp2
    refine bodyPost_ret (results_none rfl _ _ _) rfl ?_;exact ⟨⟨_,rfl⟩,.inr ⟨[e1,e2,e3,e4,e5,e6],by simp,hJx4⟩⟩
   clear sd0 sd1 sl0 sl1 hy2 hR2;replace t3:=t3.kc kc2;replace t4:=t4.kc kc2;replace td:=td.kc kc2
   gi_wp2
   go_roundw
   case rel=>exact ⟨.inr <| .inr ⟨rfl,hJ4⟩,hn1.trans (kc0.trans (kc1.trans kc2))⟩
   case measure=>simp [intOf]
  ·have t5:wr.cell? ⟨b5,0,none⟩=some (.slice none 0 0):=r5.kc hnx 0 _ rfl
   gi_wp2
   gi_loopw [43] (fun i wr=>i = .int .i64 0∧J [e1,e2,e3,e4,e5,e6] wr) (fun _ _=>0)
   case atStart=>exact ⟨rfl,hJs⟩
   case round =>
    obtain⟨rfl,hJs⟩:=hrel
    gi_wp2
    go_end0
    exact ⟨⟨_,rfl⟩,.inl ⟨_,rfl,hJs⟩⟩
theorem arg0_stops (F:Fence) (n:Nat) (hF:F.fn 215) (hro:F.round=none) (hn:1≤n) {b1 b2 b3 b4 b5 b6:Nat} {e1 e2 e3 e4 e5 e6:Ar} (q1:e1.ls=13830554455654793216∧e1.gs=4607182418800017408) (q2:e2.ls=13830554455654793216∧e2.gs=4607182418800017408) (q3:e3.ls=0∧e3.gs=4607182418800017408) (q4:e4.ls=13830554455654793216∧e4.gs=4607182418800017408) (q5:e5.ls=13830554455654793216∧e5.gs=4607182418800017408) (q6:e6.ls=0∧e6.gs=4607182418800017408) {w:World} (r1:Row w b1 #[e1.lo,e1.hi,e2.lo,e2.hi,e3.lo,e3.hi]) (r2:Row w b2 #[e4.lo,e4.hi,e5.lo,e5.hi,e6.lo,e6.hi]) (r3:Row w b3 #[(13830554455654793216:Nat),(4607182418800017408:Nat)]) (r4:Row w b4 #[(),(4607182418800017408:Nat)]) (r5:Row w b5 #[.slice none 0 0]) :
  SeqStopsK F n Tryz.prog 215 #[.pointer (some ⟨b1,0,none⟩),.pointer (some ⟨b2,0,none⟩),.pointer (some ⟨b3,0,none⟩),.pointer (some ⟨b4,0,none⟩),.pointer (some ⟨b5,0,none⟩),.pointer (some ⟨b6,0,none⟩)] enA Kc (fun ys=>ys=[e1,e2,e3,e4,e5,e6]) (fun pre=>pre <+: [e1,e2,e3,e4,e5,e6]) 6 w:=fun l J Jx W hW hJ _ hY h0 =>
 arg0_in F n hF hro hn l b1 b2 b3 b4 b5 b6 e1 e2 e3 e4 e5 e6 J Jx q1 q2 q3 q4 q5 q6 hY W hJ (r1.kc (.of_below hW)) (r2.kc (.of_below hW)) (r3.kc (.of_below hW)) (r4.kc (.of_below hW)) (r5.kc (.of_below hW)) h0
theorem arg1_in (F:Fence) (n:Nat) (hF:F.fn 215) (hro:F.round=none) (hn:1≤n) (l b1 b2 b3 b4 b5 b6 b7:Nat) (e1 e2 e3 e4 e5 e6 e7:Ar) (J Jx:List Ar→World→Prop)
  (q1:e1.ls=13830554455654793216∧e1.gs=4607182418800017408) (q2:e2.ls=13830554455654793216∧e2.gs=4607182418800017408) (q3:e3.ls=0∧e3.gs=4607182418800017408) (q4:e4.ls=13830554455654793216∧e4.gs=4607182418800017408) (q5:e5.ls=13830554455654793216∧e5.gs=4607182418800017408) (q6:e6.ls=0∧e6.gs=4607182418800017408) (q7:e7.ls=4584664420663164928∧e7.gs=4607182418800017408)
  (hY:∀ pre x W,J pre W→pre.length < 7→YieldAt F (n - 1) Tryz.prog l (enA x) W fun e W'=>(e = .returned (.bool true)∧J (pre++[x]) W'∧Kc W W')∨(e = .returned (.bool false)∧Jx (pre++[x]) W'))
  (W:World) (hJ:AbidesFrom W.heap.size J) (r1:Row W b1 #[e1.lo,e1.hi,e2.lo,e2.hi,e3.lo,e3.hi]) (r2:Row W b2 #[e4.lo,e4.hi,e5.lo,e5.hi,e6.lo,e6.hi]) (r3:Row W b3 #[(13830554455654793216:Nat),(4607182418800017408:Nat)]) (r4:Row W b4 #[(),(4607182418800017408:Nat)]) (r5:Row W b5 #[.slice (some ⟨b7,0,none⟩) 1 1]) (r6:Row W b6 #[(4584664420663164928:Nat),(4607182418800017408:Nat)]) (r7:Row W b7 #[e7.lo,e7.hi]) (h0:J [] W) :
  CallsIn F n Tryz.prog 215 #[.func (.yield l) #[] #[],.pointer (some ⟨b1,0,none⟩),.pointer (some ⟨b2,0,none⟩),.pointer (some ⟨b3,0,none⟩),.pointer (some ⟨b4,0,none⟩),.pointer (some ⟨b5,0,none⟩),.pointer (some ⟨b6,0,none⟩)] W fun e W'=>(∃ v,e = .returned v) ∧
   ((∃ ys,ys=[e1,e2,e3,e4,e5,e6,e7]∧J ys W')∨(∃ pre,pre <+: [e1,e2,e3,e4,e5,e6,e7]∧Jx pre W')):=by
 refine callsIn_of_wp Tryz.func215 rfl hF ?_ hro;simp only [Tryz.ntmps215,List.size_toArray,List.length_cons,List.length_nil,Nat.reduceAdd,Nat.reduceSub,Array.replicate_succ,Array.replicate_zero,List.push_toArray,List.append_toArray,List.nil_append,List.cons_append];have sr10:W.cell? ⟨b1,0,none⟩=some (.float .f64 e1.lo):=r1 0 _ rfl;have sr11:W.cell? ⟨b1,1,none⟩=some (.float .f64 e1.hi):=r1 1 _ rfl;have sr12:W.cell? ⟨b1,2,none⟩=some (.float .f64 e2.lo):=r1 2 _ rfl;have sr13:W.cell? ⟨b1,3,none⟩=some (.float .f64 e2.hi):=r1 3 _ rfl;have sr14:W.cell? ⟨b1,4,none⟩=some (.float .f64 e3.lo):=r1 4 _ rfl;have sr15:W.cell? ⟨b1,5,none⟩=some (.float .f64 e3.hi):=r1 5 _ rfl;have sr20:W.cell? ⟨b2,0,none⟩=some (.float .f64 e4.lo):=r2 0 _ rfl;have sr21:W.cell? ⟨b2,1,none⟩=some (.float .f64 e4.hi):=r2 1 _ rfl;have sr22:W.cell? ⟨b2,2,none⟩=some (.float .f64 e5.lo):=r2 2 _ rfl;have sr23:W.cell? ⟨b2,3,none⟩=some (.float .f64 e5.hi):=r2 3 _ rfl
 have sr24:W.cell? ⟨b2,4,none⟩=some (.float .f64 e6.lo):=r2 4 _ rfl;have sr25:W.cell? ⟨b2,5,none⟩=some (.float .f64 e6.hi):=r2 5 _ rfl
 have j0:∀ w,(Instr.index 207 (.agg #[e1.lo,e1.hi,e2.lo,e2.hi,e3.lo,e3.hi,e4.lo,e4.hi,e5.lo,e5.hi,e6.lo,e6.hi]) (.int .i64 0)).run Tryz.prog w = .ok (.agg #[e1.lo,e1.hi,e2.lo,e2.hi,e3.lo,e3.hi]) w:=fun _=>by kernel_rfl
 have j1:∀ w,(Instr.index 207 (.agg #[e1.lo,e1.hi,e2.lo,e2.hi,e3.lo,e3.hi,e4.lo,e4.hi,e5.lo,e5.hi,e6.lo,e6.hi]) (.int .i64 1)).run Tryz.prog w = .ok (.agg #[e4.lo,e4.hi,e5.lo,e5.hi,e6.lo,e6.hi]) w:=fun _=>by kernel_rfl
 gi_wp2
 clear sr10 sr11 sr12 sr13 sr14 sr15 sr20 sr21 sr22 sr23 sr24 sr25
 gi_loopw [15] (fun i wr=>(i = .int .i64 0∧J [] wr∨i = .int .i64 1∧J [e1,e2,e3] wr∨i = .int .i64 2∧J [e1,e2,e3,e4,e5,e6] wr)∧Kc W wr) (fun i _=>2 - (intOf i).toNat)
 case atStart=>exact ⟨.inl ⟨rfl,h0⟩,Kc.refl _⟩
 case round =>
  obtain⟨⟨rfl,hJs⟩ | ⟨rfl,hJs⟩ | ⟨rfl,hJs⟩,hnx⟩:=hrel
  ·have t3:=r3.kc (hnx.trans (Kc.alloc wr (.cells #[e1.lo,e1.hi,e2.lo,e2.hi,e3.lo,e3.hi] 33)))
   have t4:=r4.kc (hnx.trans (Kc.alloc wr (.cells #[e1.lo,e1.hi,e2.lo,e2.hi,e3.lo,e3.hi] 33)));have td:=Row.new wr #[e1.lo,e1.hi,e2.lo,e2.hi,e3.lo,e3.hi] 33;obtain⟨w1,hw1⟩:∃ w1,wr.alloc (.cells #[e1.lo,e1.hi,e2.lo,e2.hi,e3.lo,e3.hi] 33)=w1:=⟨_,rfl⟩;have hJ1:J [] w1:=hw1 ▸ abides_new hJ _ hJs;have hn1:Kc W w1:=hw1 ▸ hnx.trans (Kc.alloc wr _);rw [hw1] at t3 t4 td;obtain⟨fn0,tm0,as0,bo0,hy0,hR0⟩:=hY _ e1 w1 hJ1 (by simp);simp only [enA,q1] at hy0;have sd0:w1.cell? ⟨wr.heap.size,0,none⟩=some (.float .f64 e1.lo):=td 0 _ rfl;have sd1:w1.cell? ⟨wr.heap.size,1,none⟩=some (.float .f64 e1.hi):=td 1 _ rfl;have sl0:Cf w1 b3 0 13830554455654793216:=t3 0 _ rfl;have sl1:Cf w1 b3 1 4607182418800017408:=t3 1 _ rfl
   gi_wp2
   refine hR0.mono ?_;rintro e v1 (⟨rfl,hJ2,kc0⟩ | ⟨rfl,hJx2⟩)
   rotate_left
   ·skip
    gi_wp2
    refine ⟨fun _ h=>(by cases h),?_⟩
    gi_wp2
    refine bodyPost_ret (results_none rfl _ _ _) rfl ?_;exact ⟨⟨_,rfl⟩,.inr ⟨[e1],by simp,hJx2⟩⟩
   clear sd0 sd1 sl0 sl1 hy0 hR0;replace t3:=t3.kc kc0;replace t4:=t4.kc kc0;replace td:=td.kc kc0;obtain⟨fn1,tm1,as1,bo1,hy1,hR1⟩:=hY _ e2 v1 hJ2 (by simp);simp only [enA,q2] at hy1;have sd0:v1.cell? ⟨wr.heap.size,2,none⟩=some (.float .f64 e2.lo):=td 2 _ rfl;have sd1:v1.cell? ⟨wr.heap.size,3,none⟩=some (.float .f64 e2.hi):=td 3 _ rfl;have sl0:Cf v1 b3 0 13830554455654793216:=t3 0 _ rfl;have sl1:Cf v1 b3 1 4607182418800017408:=t3 1 _ rfl
   gi_wp2
   refine hR1.mono ?_;rintro e v2 (⟨rfl,hJ3,kc1⟩ | ⟨rfl,hJx3⟩)
   rotate_left
   ·skip
    gi_wp2
    refine ⟨fun _ h=>(by cases h),?_⟩
    gi_wp2
    refine bodyPost_ret (results_none rfl _ _ _) rfl ?_;exact ⟨⟨_,rfl⟩,.inr ⟨[e1,e2],by simp,hJx3⟩⟩
   clear sd0 sd1 sl0 sl1 hy1 hR1;replace t3:=t3.kc kc1;replace t4:=t4.kc kc1;replace td:=td.kc kc1;obtain⟨fn2,tm2,as2,bo2,hy2,hR2⟩:=hY _ e3 v2 hJ3 (by simp);simp only [enA,q3] at hy2;have sd0:v2.cell? ⟨wr.heap.size,4,none⟩=some (.float .f64 e3.lo):=td 4 _ rfl;have sd1:v2.cell? ⟨wr.heap.size,5,none⟩=some (.float .f64 e3.hi):=td 5 _ rfl;have sl0:Cf v2 b4 0 0:=t4 0 _ rfl;have sl1:Cf v2 b4 1 4607182418800017408:=t4 1 _ rfl
   gi_wp2
   refine hR2.mono ?_;rintro e v3 (⟨rfl,hJ4,kc2⟩ | ⟨rfl,hJx4⟩)
   rotate_left
   ·skip
    gi_wp2
    refine bodyPost_ret (results_none rfl _ _ _) rfl ?_;exact ⟨⟨_,rfl⟩,.inr ⟨[e1,e2,e3],by simp,hJx4⟩⟩
   clear sd0 sd1 sl0 sl1 hy2 hR2;replace t3:=t3.kc kc2;replace t4:=t4.kc kc2;replace td:=td.kc kc2
   gi_wp2
   go_roundw
   case rel=>exact ⟨.inr <| .inl ⟨rfl,hJ4⟩,hn1.trans (kc0.trans (kc1.trans kc2))⟩
   case measure=>simp [intOf]
  ·have t3:=r3.kc (hnx.trans (Kc.alloc wr (.cells #[e4.lo,e4.hi,e5.lo,e5.hi,e6.lo,e6.hi] 33)))
   have t4:=r4.kc (hnx.trans (Kc.alloc wr (.cells #[e4.lo,e4.hi,e5.lo,e5.hi,e6.lo,e6.hi] 33)));have td:=Row.new wr #[e4.lo,e4.hi,e5.lo,e5.hi,e6.lo,e6.hi] 33;obtain⟨w1,hw1⟩:∃ w1,wr.alloc (.cells #[e4.lo,e4.hi,e5.lo,e5.hi,e6.lo,e6.hi] 33)=w1:=⟨_,rfl⟩;have hJ1:J [e1,e2,e3] w1:=hw1 ▸ abides_new hJ _ hJs;have hn1:Kc W w1:=hw1 ▸ hnx.trans (Kc.alloc wr _);rw [hw1] at t3 t4 td;obtain⟨fn0,tm0,as0,bo0,hy0,hR0⟩:=hY _ e4 w1 hJ1 (by simp);simp only [enA,q4] at hy0;have sd0:w1.cell? ⟨wr.heap.size,0,none⟩=some (.float .f64 e4.lo):=td 0 _ rfl;have sd1:w1.cell? ⟨wr.heap.size,1,none⟩=some (.float .f64 e4.hi):=td 1 _ rfl;have sl0:Cf w1 b3 0 13830554455654793216:=t3 0 _ rfl;have sl1:Cf w1 b3 1 4607182418800017408:=t3 1 _ rfl
   gi_wp2
   refine hR0.mono ?_;rintro e v1 (⟨rfl,hJ2,kc0⟩ | ⟨rfl,hJx2⟩)
   rotate_left
   ·skip
    gi_wp2
    refine ⟨fun _ h=>(by cases h),?_⟩
    gi_wp2
    refine bodyPost_ret (results_none rfl _ _ _) rfl ?_;exact ⟨⟨_,rfl⟩,.inr ⟨[e1,e2,e3,e4],by simp,hJx2⟩⟩
   clear sd0 sd1 sl0 sl1 hy0 hR0;replace t3:=t3.kc kc0;replace t4:=t4.kc kc0;replace td:=td.kc kc0;obtain⟨fn1,tm1,as1,bo1,hy1,hR1⟩:=hY _ e5 v1 hJ2 (by simp);simp only [enA,q5] at hy1;have sd0:v1.cell? ⟨wr.heap.size,2,none⟩=some (.float .f64 e5.lo):=td 2 _ rfl;have sd1:v1.cell? ⟨wr.heap.size,3,none⟩=some (.float .f64 e5.hi):=td 3 _ rfl;have sl0:Cf v1 b3 0 13830554455654793216:=t3 0 _ rfl;have sl1:Cf v1 b3 1 4607182418800017408:=t3 1 _ rfl
   gi_wp2
   refine hR1.mono ?_;rintro e v2 (⟨rfl,hJ3,kc1⟩ | ⟨rfl,hJx3⟩)
   rotate_left
   ·skip
    gi_wp2
    refine ⟨fun _ h=>(by cases h),?_⟩
    gi_wp2
    refine bodyPost_ret (results_none rfl _ _ _) rfl ?_;exact ⟨⟨_,rfl⟩,.inr ⟨[e1,e2,e3,e4,e5],by simp,hJx3⟩⟩
   clear sd0 sd1 sl0 sl1 hy1 hR1;replace t3:=t3.kc kc1;replace t4:=t4.kc kc1;replace td:=td.kc kc1;obtain⟨fn2,tm2,as2,bo2,hy2,hR2⟩:=hY _ e6 v2 hJ3 (by simp);simp only [enA,q6] at hy2;have sd0:v2.cell? ⟨wr.heap.size,4,none⟩=some (.float .f64 e6.lo):=td 4 _ rfl;have sd1:v2.cell? ⟨wr.heap.size,5,none⟩=some (.float .f64 e6.hi):=td 5 _ rfl;have sl0:Cf v2 b4 0 0:=t4 0 _ rfl;have sl1:Cf v2 b4 1 4607182418800017408:=t4 1 _ rfl
   gi_wp2
   refine hR2.mono ?_;rintro e v3 (⟨rfl,hJ4,kc2⟩ | ⟨rfl,hJx4⟩)
   rotate_left
   ·skip
    gi_wp2
    refine bodyPost_ret (results_none rfl _ _ _) rfl ?_;exact ⟨⟨_,rfl⟩,.inr ⟨[e1,e2,e3,e4,e5,e6],by simp,hJx4⟩⟩
   clear sd0 sd1 sl0 sl1 hy2 hR2;replace t3:=t3.kc kc2;replace t4:=t4.kc kc2;replace td:=td.kc kc2
   gi_wp2
   go_roundw
   case rel=>exact ⟨.inr <| .inr ⟨rfl,hJ4⟩,hn1.trans (kc0.trans (kc1.trans kc2))⟩
   case measure=>simp [intOf]
  ·have t5:wr.cell? ⟨b5,0,none⟩=some (.slice (some ⟨b7,0,none⟩) 1 1):=r5.kc hnx 0 _ rfl
   gi_wp2
   gi_loopw [43] (fun i wr=>(i = .int .i64 0∧J [e1,e2,e3,e4,e5,e6] wr∨i = .int .i64 1∧J [e1,e2,e3,e4,e5,e6,e7] wr)∧Kc W wr) (fun i _=>1 - (intOf i).toNat)
   case atStart=>exact ⟨.inl ⟨rfl,hJs⟩,hnx⟩
   case round =>
    clear hJs hnx t5;obtain⟨⟨rfl,hJs⟩ | ⟨rfl,hJs⟩,hnx⟩:=hrel
    ·have t6:=r6.kc (hnx.trans (Kc.alloc wr (.cells #[e7.lo,e7.hi] 31)))
     have td:=Row.new wr #[e7.lo,e7.hi] 31;have t7:Row wr b7 #[e7.lo,e7.hi]:=r7.kc hnx;have sa0:wr.cell? ⟨b7,0,none⟩=some (.float .f64 e7.lo):=t7 0 _ rfl;have sa1:wr.cell? ⟨b7,1,none⟩=some (.float .f64 e7.hi):=t7 1 _ rfl;obtain⟨w1,hw1⟩:∃ w1,wr.alloc (.cells #[e7.lo,e7.hi] 31)=w1:=⟨_,rfl⟩;have hJ1:J [e1,e2,e3,e4,e5,e6] w1:=hw1 ▸ abides_new hJ _ hJs;have hn1:Kc W w1:=hw1 ▸ hnx.trans (Kc.alloc wr _);rw [hw1] at t6 td;obtain⟨fn0,tm0,as0,bo0,hy0,hR0⟩:=hY _ e7 w1 hJ1 (by simp);simp only [enA,q7] at hy0;have sd0:w1.cell? ⟨wr.heap.size,0,none⟩=some (.float .f64 e7.lo):=td 0 _ rfl;have sd1:w1.cell? ⟨wr.heap.size,1,none⟩=some (.float .f64 e7.hi):=td 1 _ rfl;have sl0:Cf w1 b6 0 4584664420663164928:=t6 0 _ rfl;have sl1:Cf w1 b6 1 4607182418800017408:=t6 1 _ rfl
     gi_wp2
     refine hR0.mono ?_;rintro e v1 (⟨rfl,hJ2,kc0⟩ | ⟨rfl,hJx2⟩)
     rotate_left
     ·gi_wp2
      refine bodyPost_ret (results_none rfl _ _ _) rfl ?_;exact ⟨⟨_,rfl⟩,.inr ⟨[e1,e2,e3,e4,e5,e6,e7],by simp,hJx2⟩⟩
     gi_wp2
     go_roundw
     case rel=>exact ⟨.inr ⟨rfl,hJ2⟩,hn1.trans kc0⟩
     case measure=>simp [intOf]
    ·gi_wp2
     go_end0
     exact ⟨⟨_,rfl⟩,.inl ⟨_,rfl,hJs⟩⟩
theorem arg1_stops (F:Fence) (n:Nat) (hF:F.fn 215) (hro:F.round=none) (hn:1≤n) {b1 b2 b3 b4 b5 b6 b7:Nat} {e1 e2 e3 e4 e5 e6 e7:Ar} (q1:e1.ls=13830554455654793216∧e1.gs=4607182418800017408) (q2:e2.ls=13830554455654793216∧e2.gs=4607182418800017408) (q3:e3.ls=0∧e3.gs=4607182418800017408) (q4:e4.ls=13830554455654793216∧e4.gs=4607182418800017408) (q5:e5.ls=13830554455654793216∧e5.gs=4607182418800017408) (q6:e6.ls=0∧e6.gs=4607182418800017408) (q7:e7.ls=4584664420663164928∧e7.gs=4607182418800017408) {w:World} (r1:Row w b1 #[e1.lo,e1.hi,e2.lo,e2.hi,e3.lo,e3.hi]) (r2:Row w b2 #[e4.lo,e4.hi,e5.lo,e5.hi,e6.lo,e6.hi]) (r3:Row w b3 #[(13830554455654793216:Nat),(4607182418800017408:Nat)]) (r4:Row w b4 #[(),(4607182418800017408:Nat)]) (r5:Row w b5 #[.slice (some ⟨b7,0,none⟩) 1 1]) (r6:Row w b6 #[(4584664420663164928:Nat),(4607182418800017408:Nat)]) (r7:Row w b7 #[e7.lo,e7.hi]) :
  SeqStopsK F n Tryz.prog 215 #[.pointer (some ⟨b1,0,none⟩),.pointer (some ⟨b2,0,none⟩),.pointer (some ⟨b3,0,none⟩),.pointer (some ⟨b4,0,none⟩),.pointer (some ⟨b5,0,none⟩),.pointer (some ⟨b6,0,none⟩)] enA Kc (fun ys=>ys=[e1,e2,e3,e4,e5,e6,e7]) (fun pre=>pre <+: [e1,e2,e3,e4,e5,e6,e7]) 7 w:=fun l J Jx W hW hJ _ hY h0 =>
 arg1_in F n hF hro hn l b1 b2 b3 b4 b5 b6 b7 e1 e2 e3 e4 e5 e6 e7 J Jx q1 q2 q3 q4 q5 q6 q7 hY W hJ (r1.kc (.of_below hW)) (r2.kc (.of_below hW)) (r3.kc (.of_below hW)) (r4.kc (.of_below hW)) (r5.kc (.of_below hW)) (r6.kc (.of_below hW)) (r7.kc (.of_below hW)) h0
def bad (x:Ar):Bool:=(FloatKind.f64.format.order x.lo x.ls == some Ordering.lt) || (FloatKind.f64.format.order x.hi x.gs == some Ordering.gt)
def Blk (W:World) (B:Nat) (vs:Array Value) (t:TypeId):Prop:=W.heap[B]? = some (.cells vs t (0,0))
theorem Blk.lt {W:World} {B:Nat} {t:TypeId} {v:Array Value} (h:Blk W B v t):B < W.heap.size:=(Array.getElem?_eq_some_iff.1 h).1
theorem Blk.cell {W:World} {B:Nat} {t:TypeId} {v:Array Value} (h:Blk W B v t) (i:Nat):W.cell? ⟨B,i,none⟩=v[i]?:=by simp [World.cell?,show W.heap[B]? = _ from h]
theorem Blk.new (W:World) (t:TypeId) (v:Array Value):Blk (W.alloc (.cells v t)) W.heap.size v t:=World.alloc_heap_new W _
theorem Blk.kept {W W':World} {row:Option Nat} {B:Nat} {t:TypeId} {v:Array Value} (h:Blk W B v t) (hg:W.grownBy W' row) (hne:some B≠row):Blk W' B v t:=(hg.block B h.lt hne).trans h
theorem blk_own {β:Type} (B:Nat) (t:TypeId) (v:Array Value):Own (fun (_:β) W=>Blk W B v t):=fun s X Y row hs hg hrow =>
 hs.kept hg (fun e'=>by obtain⟨o,ho,hc⟩:=hrow B e'.symm; rw [show X.heap[B]? = _ from hs] at ho; cases ho; cases hc)
theorem def_own {β:Type} {B D:Nat} (h:D < B):OwnFrom B (fun (_:β) W=>W.heap[D]? = some (.deferred (some []))):=fun _ X Y row hs hg hr =>
 (hg.block D (Array.getElem?_eq_some_iff.1 hs).1 (fun e=>by have:=(hr D e.symm).1; omega)).trans hs
theorem kf_below {B:Nat} {W W':World} (h:Below W.heap.size W W'):KeepsFrom B W W':=⟨h.size,fun k _ _ hk _=>(h.block k (Array.getElem?_eq_some_iff.1 hk).1).trans hk⟩
theorem boxed_below {W W':World} {B:Nat} {t:TypeId} {v:Value} (h:Boxed W B t v) (hb:Below W.heap.size W W'):Boxed W' B t v:=(hb.block B h.lt).trans h
theorem blk_alloc {W:World} {B:Nat} {t:TypeId} {v:Array Value} (h:Blk W B v t) (o:Obj):Blk (W.alloc o) B v t:=h.kept (World.grownBy_alloc W o none) (by simp)
theorem blk_new1 (W:World) (o:Obj) (t:TypeId) (v:Array Value):Blk ((W.alloc o).alloc (.cells v t)) (W.heap.size+1) v t:=by
 have:=Blk.new (W.alloc o) t v
 rwa [World.size_alloc] at this
theorem def_alloc {D:Nat} {W:World} {o p:Obj} (h:W.heap[D]? = some o):(W.alloc p).heap[D]? = some o:=(Below.heap_alloc W p D (Array.getElem?_eq_some_iff.1 h).1).trans h
theorem mcheck_walk {lb:Array Value} {xs:List Ar} {N:Nat} (w:World) (hS:∀ w1,Below w.heap.size w w1→SeqStopsK Fence.wide 7 Tryz.prog 215 lb enA Kc (fun ys=>ys=xs) (fun pre=>pre <+: xs) N w1) :
  Calls Tryz.prog 203 #[.func (.func 215) #[] lb] w (Rt (.int .i64 (if xs.any bad then 2 else 0)) w):=by
 obtain⟨res,hres⟩:∃ res:Int,(if xs.any bad=true then 2 else 0)=res:=⟨_,rfl⟩;rw [hres];refine (callsIn_wide (n:=8)).1 ?_;refine callsIn_of_wp_marks Tryz.func203 rfl trivial ?_ rfl;simp only [Tryz.ntmps203,List.size_toArray,List.length_cons,List.length_nil,Nat.reduceAdd,Nat.reduceSub,Array.replicate_succ,Array.replicate_zero,List.push_toArray,List.append_toArray,List.nil_append,List.cons_append]
 gi_wp2
 have bR:=Boxed.new w 38 (.int .i64 0);have hB0:Below w.heap.size w (w.alloc (.cells #[true] 38)):=bel1 w _
 have hsz:(w.alloc (.cells #[true] 38)).heap.size=w.heap.size+1:=by simp
 obtain⟨W0,hW0⟩:∃ W0,w.alloc (.cells #[true] 38)=W0:=⟨_,rfl⟩;rw [hW0] at bR hB0 hsz ⊢;clear hW0
 refine wpIn_rangeFunc_ownH (F:=Fence.wide) rfl (by decide) (gf:=215) (lb:=lb) rfl trivial (enters_of Tryz.func215 (by kernel_rfl) rfl) (hS W0 hB0) (fun h k=>h.trans k) (fun W l o o' _ h hc _=>kc_b W l o o' h hc) (Below.refl _ _) (fun _=>rfl)
  (fun pre W=>Boxed W w.heap.size 38 (.int .i64 0)∧Below w.heap.size w W)
  (fun _ _ _=>False)
  (OwnFrom.and (Own.from (boxed_own _ _ _) _) (ownFrom_below (Nat.le_refl _) (by omega)))
  (fun _ _ _ _ _ hs _ _=>hs)
  ⟨bR,hB0⟩
  (fun x a' W=>∃ Bx,w.heap.size < Bx∧Blk W Bx #[x.lo,x.hi] 31∧a' = { tmps:=#[.func (.func 215) #[] lb,undef,.pointer (some ⟨w.heap.size,0,none⟩),.pointer (some ⟨Bx,0,none⟩),undef,undef,.func (.func 215) #[] lb,.agg #[.float .f64 x.lo,.float .f64 x.hi],.agg #[.float .f64 x.ls,.float .f64 x.gs],undef,undef,undef,undef,undef,undef,undef,undef,undef,undef,undef,undef,undef,undef,undef,undef,undef,undef],defers:=[] })
  (fun x a' _ X Y row hs hg hr=>by obtain⟨Bx,h1,h2,h3⟩:=hs; exact ⟨Bx,h1,blk_own (β:=Unit) Bx _ _ () X Y row h2 hg (fun r e=>(hr r e).2),h3⟩)
  ?assign ?body ?done ?stop
 case assign =>
  rintro l pre x W K ⟨bR1,hB1⟩ hK;dsimp only [enA]
  gi_wp2
  exact hK _ _ ((KeepsOthers.alloc _ _).from _) (Kc.alloc _ _) ⟨bR1.alloc _,hB1.alloc hB1.size _⟩ ⟨W.heap.size,bR1.lt,Blk.new W _ _,rfl⟩
 case body =>
  rintro l pre x a' W hl ⟨r,hr⟩ ⟨bR1,hB1⟩ ⟨Bx,hBx,bX,rfl⟩ hlt;have k0:=bX.cell 0;have k1:=bX.cell 1
  gi_wp2_with (refine ⟨trivial,?_⟩; gi_at_call 46; refine (CallsIn.inRound l (callsIn_wide.2 (x.r _))).mono ?_; rintro rr w5 ⟨rfl,hb⟩)
  exact ⟨kf_below hb,.of_below hb,boxed_below bR1 hb,hB1.trans (hb.mono hB1.size)⟩
 case stop =>
  rintro D c pre W _ _ h _;exact h.elim
 case done =>
  rintro D1 zs W1 hD1 rfl ⟨bR1,hB1⟩ hK1
  gi_wp2
  refine wpIn_rangeFunc_ownH (F:=Fence.wide) rfl (by decide) (gf:=215) (lb:=lb) rfl trivial (enters_of Tryz.func215 (by kernel_rfl) rfl) (hS W1 hB1) (fun h k=>h.trans k) (fun W l o o' _ h hc _=>kc_b W l o o' h hc) (Below.refl _ _) (fun _=>rfl)
   (fun pre W=>(((∀ x∈pre,bad x=false)∧Boxed W w.heap.size 38 (.int .i64 0))∧W.heap[D1]? = some (.deferred (some [])))∧Below w.heap.size w W)
   (fun c pre W=>(((c = .ret∧∃ x∈pre,bad x=true)∧Boxed W w.heap.size 38 (.int .i64 2))∧W.heap[D1]? = some (.deferred (some [])))∧Below w.heap.size w W)
   (OwnFrom.and (OwnFrom.and (OwnFrom.and (ownFrom_pure _ _) (Own.from (boxed_own _ _ _) _)) (def_own (Array.getElem?_eq_some_iff.1 hK1).1)) (ownFrom_below (Nat.le_refl _) (by have:=hB1.size; omega)))
   (fun c=>OwnFrom.and (OwnFrom.and (OwnFrom.and (ownFrom_pure _ _) (Own.from (boxed_own _ _ _) _)) (def_own (Array.getElem?_eq_some_iff.1 hK1).1)) (ownFrom_below (Nat.le_refl _) (by have:=hB1.size; omega)))
   ⟨⟨⟨by simp,bR1⟩,hK1⟩,hB1⟩
   (fun x a' W=>∃ Bx By,(w.heap.size < Bx∧w.heap.size < By)∧(Blk W Bx #[x.lo,x.hi] 31∧Blk W By #[x.ls,x.gs] 205)∧a' = { tmps:=#[.func (.func 215) #[] lb,undef,.pointer (some ⟨w.heap.size,0,none⟩),undef,.pointer (some ⟨Bx,0,none⟩),.pointer (some ⟨By,0,none⟩),.func (.func 215) #[] lb,undef,undef,undef,undef,undef,.func (.func 215) #[] lb,.agg #[.float .f64 x.lo,.float .f64 x.hi],.agg #[.float .f64 x.ls,.float .f64 x.gs],undef,undef,undef,undef,undef,undef,undef,undef,undef,undef,undef,undef],defers:=[] })
   (fun x a' _ X Y row hs hg hr=>by obtain⟨Bx,By,h1,⟨h2,h2'⟩,h3⟩:=hs; exact ⟨Bx,By,h1,⟨blk_own (β:=Unit) Bx _ _ () X Y row h2 hg (fun r e=>(hr r e).2),blk_own (β:=Unit) By _ _ () X Y row h2' hg (fun r e=>(hr r e).2)⟩,h3⟩)
   ?assign2 ?body2 ?done2 ?stop2
  case assign2 =>
   rintro l pre x W K ⟨⟨⟨hp,bR2⟩,hk1⟩,hB2⟩ hK;dsimp only [enA]
   gi_wp2
   exact hK _ _ (((KeepsOthers.alloc _ _).trans (KeepsOthers.alloc _ _)).from _) ((Kc.alloc _ _).trans (Kc.alloc _ _)) ⟨⟨⟨hp,(bR2.alloc _).alloc _⟩,def_alloc (def_alloc hk1)⟩,(hB2.alloc hB2.size _).alloc (Nat.le_trans hB2.size (by simp)) _⟩ ⟨W.heap.size,W.heap.size+1,⟨bR2.lt,by have:=bR2.lt; omega⟩,⟨blk_alloc (Blk.new W _ _) _,blk_new1 W _ _ _⟩,rfl⟩
  case body2 =>
   rintro l pre x a' W hl ⟨r,hr⟩ ⟨⟨⟨hp,bR2⟩,hk1⟩,hB2⟩ ⟨Bx,By,⟨hBx,hBy⟩,⟨bX,bY⟩,rfl⟩ hlt;have k0:=bX.cell 0;have k1:=bX.cell 1;have m0:=bY.cell 0;have m1:=bY.cell 1;have cR:=bR2.cell;have fR:=bR2.frozen;have hb_:bad x=(FloatKind.f64.format.order x.lo x.ls == some Ordering.lt || FloatKind.f64.format.order x.hi x.gs == some Ordering.gt):=rfl
   cases hp1:(FloatKind.f64.format.order x.lo x.ls == some Ordering.lt)
   ·cases hp2:(FloatKind.f64.format.order x.hi x.gs == some Ordering.gt)
    ·gi_wp2
     exact ⟨KeepsFrom.refl _ _,Kc.refl _,⟨⟨⟨fun y hy=>(List.mem_append.1 hy).elim (hp y) (fun h=>by rw [List.mem_singleton.1 h,hb_,hp1,hp2]; rfl),bR2⟩,hk1⟩,hB2⟩⟩
    ·gi_wp2
     exact ⟨(KeepsOthers.setCell _ _ _).from _,⟨⟨⟨⟨rfl,x,by simp,by rw [hb_,hp1,hp2]; rfl⟩,bR2.set _⟩,(KeepsOthers.setCell _ _ _).same D1 _ hk1 rfl⟩,hB2.setCell (p:=⟨w.heap.size,0,none⟩) (Nat.le_refl _) _⟩⟩
   ·gi_wp2
    exact ⟨(KeepsOthers.setCell _ _ _).from _,⟨⟨⟨⟨rfl,x,by simp,by rw [hb_,hp1]; rfl⟩,bR2.set _⟩,(KeepsOthers.setCell _ _ _).same D1 _ hk1 rfl⟩,hB2.setCell (p:=⟨w.heap.size,0,none⟩) (Nat.le_refl _) _⟩⟩
  case done2 =>
   rintro D2 zs W hD2 rfl ⟨⟨⟨hp,bR2⟩,hk1⟩,hB2⟩ hK2;have cR:=bR2.cell;have fR:=bR2.frozen
   gi_wp2
   have n1:=(Array.getElem?_eq_some_iff.1 hK1).1;have n2:=hB1.size;have k2:=(KeepsOthers.setCell W ⟨w.heap.size,0,none⟩ (.int .i64 0)).same D2 _ hK2 rfl;have k1:=(KeepsOthers.setCell W ⟨w.heap.size,0,none⟩ (.int .i64 0)).same D1 _ hk1 rfl;have b3:=bR2.set (.int .i64 0);have B3:=hB2.setCell (p:=⟨w.heap.size,0,none⟩) (Nat.le_refl _) (.int .i64 0);generalize W.setCell ⟨w.heap.size,0,none⟩ (.int .i64 0)=V at *
   have k1':(V.putObj D2 (.deferred none)).heap[D1]? = some (.deferred (some [])):=by rw [World.putObj_heap_other (by omega)]; exact k1
   have b4:=(b3.kept (grownBy_putObj' V D2 (.deferred none)) (fun e=>by cases e; omega)).kept (grownBy_putObj' _ D1 (.deferred none)) (fun e=>by cases e; omega);have B4:=(B3.trans (belowK_b (w:=w) (Nat.le_refl _) V D2 _ (.deferred none) (by omega) k2 rfl rfl)).trans (belowK_b (w:=w) (Nat.le_refl _) _ D1 _ (.deferred none) (by omega) k1' rfl rfl);have c4:=b4.cell;refine ⟨by simp,.inl ⟨_,_,rfl,run_takeDeferred k2,by simp,.inl ⟨_,_,rfl,run_takeDeferred k1',?_⟩⟩⟩;refine ⟨.int .i64 0,?_,?_,B4⟩
   ·simp [results,Tryz.results203,go_sem,c4]
   ·rw [←hres,if_neg (by simpa using hp)]
  case stop2 =>
   rintro D2 c pre W hD2 hpre ⟨⟨⟨⟨rfl,hp⟩,bR2⟩,hk1⟩,hB2⟩ hK2;have cR:=bR2.cell;have fR:=bR2.frozen
   gi_wp2
   have n1:=(Array.getElem?_eq_some_iff.1 hK1).1;have n2:=hB1.size;have k2:=hK2;have k1:=hk1;have b3:=bR2;have B3:=hB2;obtain⟨V,hV⟩:∃ V,W=V:=⟨_,rfl⟩;rw [hV] at k2 k1 b3 B3 ⊢
   have k1':(V.putObj D2 (.deferred none)).heap[D1]? = some (.deferred (some [])):=by rw [World.putObj_heap_other (by omega)]; exact k1
   have b4:=(b3.kept (grownBy_putObj' V D2 (.deferred none)) (fun e=>by cases e; omega)).kept (grownBy_putObj' _ D1 (.deferred none)) (fun e=>by cases e; omega);have B4:=(B3.trans (belowK_b (w:=w) (Nat.le_refl _) V D2 _ (.deferred none) (by omega) k2 rfl rfl)).trans (belowK_b (w:=w) (Nat.le_refl _) _ D1 _ (.deferred none) (by omega) k1' rfl rfl);have c4:=b4.cell;refine ⟨by simp,.inl ⟨_,_,rfl,run_takeDeferred k2,by simp,.inl ⟨_,_,rfl,run_takeDeferred k1',?_⟩⟩⟩;refine ⟨.int .i64 2,?_,?_,B4⟩
   ·simp [results,Tryz.results203,go_sem,c4]
   ·rw [←hres,if_pos (List.any_eq_true.2 (by obtain⟨y,h1,h2⟩:=hp; exact ⟨y,hpre.subset h1,h2⟩))]
end
end Go.Proofs.YtnaomilkgfkegaaGreat
