/- What the claim stands on, part 19: PaA, PaD, PaF. -/
import Derived.Test.YtnaomilkgfkegaaGreatWA16
import Derived.Test.YtnaomilkgfkegaaGreatWA17
import Derived.Deep.RegionHeld3
import Derived.Deep.MidRow
set_option maxHeartbeats 16000000
set_option maxRecDepth 100000
namespace Go.Proofs.YtnaomilkgfkegaaGreat
section
open Go.RowKit
attribute [local go_sem] run_store_float
theorem Has1.get {v:World} {q:Nat} {C:Array Value} (h:Has1 v (q,C)) (i:Nat) x (e:C[i]? = some x):v.cell? ⟨q,i,none⟩=some x:=(h.2.1 i).trans e
theorem Has1.range {v:World} {q:Nat} {C:List Value} (h:Has1 v (q,C.toArray)):v.rangeAt q 0 C:=fun j x hj=>by
 rw [Nat.zero_add];exact h.get j x (by simpa using hj)
section
variable {op:Oper} {a:Act} {v:World} {K:Act→World→Prop} {Q:Exit→Act→World→Prop} {x:Operand} {q:Nat} {x0 x1 x2 x3 x4 x5 x6 x7 x8 x9 x10 x11 x12 x13 x14 x15 x16 x17 x18:Value}
theorem wp_leaf (ho:op.op = .load 66 x) (hx:a.eval x = .pointer (some ⟨q,0,none⟩)) (h:Has1 v (q,#[x0,x1,x2,x3,x4,x5,x6,x7,x8,x9,x10,x11,x12,x13,x14,x15,x16,x17,x18])) (hK:K (a.put op.dst (.agg #[x0,x1,x2,x3,x4,x5,x6,x7,x8,x9,x10,x11,x12,x13,x14,x15,x16,x17,x18])) v):op.wp Tryz.prog a v K Q:=
 wp_load_mid _ x ho q 0 hx [x0,x1,x2,x3,x4,x5,x6,x7,x8,x9,x10,x11,x12,x13,x14,x15,x16,x17,x18] _ (Has1.range (C:=[x0,x1,x2,x3,x4,x5,x6,x7,x8,x9,x10,x11,x12,x13,x14,x15,x16,x17,x18]) h) Tryz.underlying66 rfl (by kernel_rfl) hK
theorem wp_node (ho:op.op = .load 28 x) (hx:a.eval x = .pointer (some ⟨q,0,none⟩)) (h:Has1 v (q,#[x0,x1,x2,x3,x4,x5,x6,x7,x8,x9,x10,x11,x12,x13,x14,x15,x16,x17,x18])) (hK:K (a.put op.dst (.agg #[x0,x1,x2,x3,x4,x5,x6,x7,x8,x9,x10,x11,x12,x13,x14,x15,x16,x17,x18])) v):op.wp Tryz.prog a v K Q:=
 wp_load_mid _ x ho q 0 hx [x0,x1,x2,x3,x4,x5,x6,x7,x8,x9,x10,x11,x12,x13,x14,x15,x16,x17,x18] _ (Has1.range (C:=[x0,x1,x2,x3,x4,x5,x6,x7,x8,x9,x10,x11,x12,x13,x14,x15,x16,x17,x18]) h) Tryz.underlying28 rfl (by kernel_rfl) hK
variable {ops:Array Oper} {rest:List Oper}
theorem wpl_leaf (hw:Region.wanted op (yielded ops a.tmps)=true) (ho:op.op = .load 66 x) (hx:a.eval x = .pointer (some ⟨q,0,none⟩)) (h:Has1 v (q,#[x0,x1,x2,x3,x4,x5,x6,x7,x8,x9,x10,x11,x12,x13,x14,x15,x16,x17,x18])) (hK:wpList Tryz.prog ops Q rest (a.put op.dst (.agg #[x0,x1,x2,x3,x4,x5,x6,x7,x8,x9,x10,x11,x12,x13,x14,x15,x16,x17,x18])) v):wpList Tryz.prog ops Q (op :: rest) a v:=
 wpList_step fun K k=>by rw [if_pos hw]; exact wp_leaf ho hx h (k _ _ hK)
theorem wpl_node (hw:Region.wanted op (yielded ops a.tmps)=true) (ho:op.op = .load 28 x) (hx:a.eval x = .pointer (some ⟨q,0,none⟩)) (h:Has1 v (q,#[x0,x1,x2,x3,x4,x5,x6,x7,x8,x9,x10,x11,x12,x13,x14,x15,x16,x17,x18])) (hK:wpList Tryz.prog ops Q rest (a.put op.dst (.agg #[x0,x1,x2,x3,x4,x5,x6,x7,x8,x9,x10,x11,x12,x13,x14,x15,x16,x17,x18])) v):wpList Tryz.prog ops Q (op :: rest) a v:=
 wpList_step fun K k=>by rw [if_pos hw]; exact wp_node ho hx h (k _ _ hK)
end
theorem size_setCells (q:Nat):∀ (C:List Value) (o:Nat) (v:World),(v.setCells q o C).heap.size=v.heap.size
 | [],_,_=>rfl
 | x :: r,o,v=>by rw [World.setCells,size_setCells q r,size_set]
theorem Has1.setMany {x:Nat×Array Value} {q:Nat} (hne:q≠x.1):∀ (C:List Value) (o:Nat) (v:World),Has1 v x→Has1 (v.setCells q o C) x
 | [],_,_,h=>h
 | _ :: r,o,_,h=>Has1.setMany hne r (o+1) _ (h.set hne)
theorem Below.setMany {B:World} {q:Nat} (hq:B.heap.size≤q):∀ (C:List Value) (o:Nat) (v:World),Below B.heap.size B v→Below B.heap.size B (v.setCells q o C)
 | [],_,_,h=>h
 | _ :: r,o,_,h=>Below.setMany hq r (o+1) _ (h.setCell hq _)
theorem Has1.setAll {v:World} {q:Nat} {c:Array Value} (h:Has1 v (q,c)) (C:List Value) (hC:C.length=c.size):Has1 (v.setCells q 0 C) (q,C.toArray):=by
 refine ⟨by rw [size_setCells]; exact h.1,fun i=>?_,fun i=>by rw [World.frozen?_setCells]; exact h.2.2 i⟩
 by_cases hi:i < C.length
 ·have e:=World.cell?_setCells_in q C 0 v (fun j hj=>by
   have g:=h.2.1 j;dsimp only at g
   rw [Nat.zero_add,g,Array.getElem?_eq_getElem (by omega)]; rfl) i hi
  rw [Nat.zero_add] at e;dsimp only;rw [e]
  simp [hi]
 ·have e:=World.cell?_setCells_out q C 0 v ⟨q,i,none⟩ (fun _ _=>Or.inr (by show 0+C.length≤i; omega))
  dsimp only;have g:=h.2.1 i;dsimp only at g;rw [e,g,Array.getElem?_eq_none (by omega),List.getElem?_toArray,List.getElem?_eq_none (by omega)]
theorem Own.setAll {B v:World} {l:List (Nat×Array Value)} (h:Own B l v) (i:Nat) {q:Nat} {c:Array Value} (hi:l[i]? = some (q,c)) (C:List Value) (hC:C.length=c.size):Own B (l.set i (q,C.toArray)) (v.setCells q 0 C):=
 h.at i hi (Below.setMany (h.lowest i hi) C 0 v h.base) ((h.nth i hi).setAll C hC) (fun _ hx hne=>Has1.setMany hne C 0 v hx)
theorem Own.set3 {B v:World} {l:List (Nat×Array Value)} (h:Own B l v) (i:Nat) {q:Nat} {x y z:Value} (hi:l[i]? = some (q,#[x,y,z])) (x' y' z':Value):Own B (l.set i (q,#[x',y',z'])) (((v.setCell ⟨q,0,none⟩ x').setCell ⟨q,1,none⟩ y').setCell ⟨q,2,none⟩ z'):=
 h.setAll i hi [x',y',z'] rfl
section
variable {op:Oper} {a:Act} {v:World} {Q:Exit→Act→World→Prop} {x y:Operand} {q:Nat} {x0 x1 x2 x3 x4 x5 x6 x7 x8 x9 x10 x11 x12 x13 x14 x15 x16 x17 x18 y0 y1 y2 y3 y4 y5 y6 y7 y8 y9 y10 y11 y12 y13 y14 y15 y16 y17 y18:Value} {ops:Array Oper} {rest:List Oper}
theorem wp_stnode {K:Act→World→Prop} (ho:op.op = .store 28 x y) (hx:a.eval x = .pointer (some ⟨q,0,none⟩)) (hy:a.eval y = .agg #[y0,y1,y2,y3,y4,y5,y6,y7,y8,y9,y10,y11,y12,y13,y14,y15,y16,y17,y18]) (h1:(#[y0,y1,y2,y3,y4,y5,y6,y7,y8,y9,y10,y11,y12,y13,y14,y15,y16,y17,y18]:Array Value).all (·.oneCell')=true) (h:Has1 v (q,#[x0,x1,x2,x3,x4,x5,x6,x7,x8,x9,x10,x11,x12,x13,x14,x15,x16,x17,x18]))
  (hK:K (a.put op.dst undef) (v.setCells q 0 [y0,y1,y2,y3,y4,y5,y6,y7,y8,y9,y10,y11,y12,y13,y14,y15,y16,y17,y18])):op.wp Tryz.prog a v K Q:=by
 refine wp_store_mid _ x y ho q 0 #[y0,y1,y2,y3,y4,y5,y6,y7,y8,y9,y10,y11,y12,y13,y14,y15,y16,y17,y18] hx hy (fun j hj=>?_) (by kernel_rfl) h1 hK;have g:=h.2.1 j;dsimp only at g;rw [Nat.zero_add];refine ⟨?_,h.2.2 j⟩;rw [g,Array.getElem?_eq_getElem (by exact hj)]
 rfl
theorem wpl_stnode (hw:Region.wanted op (yielded ops a.tmps)=true) (ho:op.op = .store 28 x y) (hx:a.eval x = .pointer (some ⟨q,0,none⟩)) (hy:a.eval y = .agg #[y0,y1,y2,y3,y4,y5,y6,y7,y8,y9,y10,y11,y12,y13,y14,y15,y16,y17,y18]) (h1:(#[y0,y1,y2,y3,y4,y5,y6,y7,y8,y9,y10,y11,y12,y13,y14,y15,y16,y17,y18]:Array Value).all (·.oneCell')=true) (h:Has1 v (q,#[x0,x1,x2,x3,x4,x5,x6,x7,x8,x9,x10,x11,x12,x13,x14,x15,x16,x17,x18]))
  (hK:wpList Tryz.prog ops Q rest (a.put op.dst undef) (v.setCells q 0 [y0,y1,y2,y3,y4,y5,y6,y7,y8,y9,y10,y11,y12,y13,y14,y15,y16,y17,y18])):wpList Tryz.prog ops Q (op :: rest) a v:=
 wpList_step fun K k=>by rw [if_pos hw]; exact wp_stnode ho hx hy h1 h (k _ _ hK)
theorem results_node {fn:Func} {p:Tmp} (hf:fn.results=#[.cell p 28]) {tmps:Array Value} (hp:tmps.getD p undef = .pointer (some ⟨q,0,none⟩)) (h:Has1 v (q,#[x0,x1,x2,x3,x4,x5,x6,x7,x8,x9,x10,x11,x12,x13,x14,x15,x16,x17,x18])):(results fn tmps).run Tryz.prog v = .ok (.agg #[x0,x1,x2,x3,x4,x5,x6,x7,x8,x9,x10,x11,x12,x13,x14,x15,x16,x17,x18]) v:=by
 have hp':tmps[p]?.getD undef = .pointer (some ⟨q,0,none⟩):=by simpa using hp
 have e:=run_loadVar_mid (P:=Tryz.prog) v q 0 28 [x0,x1,x2,x3,x4,x5,x6,x7,x8,x9,x10,x11,x12,x13,x14,x15,x16,x17,x18] _ (Has1.range (C:=[x0,x1,x2,x3,x4,x5,x6,x7,x8,x9,x10,x11,x12,x13,x14,x15,x16,x17,x18]) h) Tryz.underlying28 rfl (by kernel_rfl)
 simp [results,hf,hp',asAddr,e]
end
theorem eq_three (x y z a b c:Nat) (w:World):(Op.equalIn 9999 26 (.agg #[x,y,z]) (.agg #[a,b,c])).run Tryz.prog w = .ok (Op.floatEq .f64 x a&&(Op.floatEq .f64 y b&&Op.floatEq .f64 z c)) w:=by
 have ha:=run_underlying Tryz.underlying26 (w:=w)
 have hs:(sizeOf 25).run Tryz.prog w = .ok 1 w:=by kernel_rfl
 have hi:(isAgg 25).run Tryz.prog w = .ok false w:=by kernel_rfl
 have hF:∀ (u v:Nat) (w:World),(Op.equalIn 9998 25 (u:Value) (v:Value)).run Tryz.prog w = .ok (Op.floatEq .f64 u v) w:=fun u v w=>by
  show (Op.equalIn (9997+1) 25 _ _).run Tryz.prog w=_
  rw [Op.equalIn];simp only [Sem.run_bind,run_underlying Tryz.underlying25 (w:=w),Result.andThen]
  simp [go_sem]
 show (Op.equalIn (9998+1) 26 _ _).run Tryz.prog w=_
 rw [Op.equalIn];simp only [Sem.run_bind,ha,Result.andThen];rw [hs];simp only [Std.Legacy.Range.forIn_eq_forIn_range',Std.Legacy.Range.size,List.range',List.forIn_cons,List.forIn_nil,Sem.run_bind,Result.andThen]
 cases h1:Op.floatEq .f64 x a <;> cases h2:Op.floatEq .f64 y b <;> cases h3:Op.floatEq .f64 z c <;> simp [go_sem,hF,hi,h1,h2,h3,Result.andThen]
theorem run_store_fun (P:Program) (w:World) (a:Addr) (m:Mode) (f:Fn) (t c:Array Value):(store a (.func f t c) m).run P w=stored P w a (.func f t c) m:=run_store P w a _ m rfl
theorem run_store_nilfun (P:Program) (w:World) (a:Addr) (m:Mode):(store a .nilFunc m).run P w=stored P w a .nilFunc m:=run_store P w a _ m rfl
attribute [local go_sem] run_store_fun
theorem psingle_any (x:Nat) (w:World)
    :
   Calls Tryz.prog 182 #[x] w (Rt (.agg #[x,x]) w):=by
 have M:=Hd ((Own.nil w).made #[x,x] 31);have eqF:=eq_floats;go_enter Tryz.func182,Tryz.ntmps182;go_wp2;exact bodyPost_ret (v:=.agg #[.float .f64 x,.float .f64 x]) (by simp [results,Tryz.results182,go_sem]) rfl ⟨rfl,M.o.base⟩
theorem pright_walk {i0 i1 i2 i3 i4 i5:Nat} (w:World)
  (c1:CH 46 #[.agg #[i0,i1]] (.bool true))
  (c2:CH 46 #[.agg #[i2,i3]] (.bool true))
  (c3:CH 46 #[.agg #[i4,i5]] (.bool true)) :
  Calls Tryz.prog 61 #[.agg #[i0,i1,i2,i3,i4,i5]] w fun r w'=>r = .returned (.bool true)∧Below w.heap.size w w':=by
 have M:=Hd ((Own.nil w).made #[i0,i1,i2,i3,i4,i5] 33);have eqF:=eq_floats;go_enter Tryz.func61,Tryz.ntmps61;obtain⟨k1,k2,k3,k4,k5,k6⟩:=(M.o.nth 0 rfl).six;go_wp2_with fail;refine (c1.out _).mono ?_;rintro r w1_ ⟨rfl,hb⟩;replace M:=Hd (M.o.below hb);clear hb;clear k1 k2 k3 k4 k5 k6;obtain⟨k1,k2,k3,k4,k5,k6⟩:=(M.o.nth 0 rfl).six;go_wp2_with fail;refine (c2.out _).mono ?_;rintro r w2_ ⟨rfl,hb⟩;replace M:=Hd (M.o.below hb);clear hb;clear k1 k2 k3 k4 k5 k6;obtain⟨k1,k2,k3,k4,k5,k6⟩:=(M.o.nth 0 rfl).six;go_wp2_with fail;refine (c3.out _).mono ?_;rintro r w3_ ⟨rfl,hb⟩;replace M:=Hd (M.o.below hb);clear hb;clear k1 k2 k3 k4 k5 k6;go_wp2;go_ret;exact ⟨rfl,M.o.base⟩
theorem within_1_0 {C:Array Value} {ls gs a0:Nat} (q:Nat) (w:World) (hA:Has1 w (q,C))
  (g0:C[0]? = some (a0:Value)) (c0:CH 78 #[a0] (.tuple #[.agg #[a0,a0],true]))
  (l0:(FloatKind.f64.format.order a0 ls == some Ordering.lt)=false) (u0:(FloatKind.f64.format.order a0 gs == some Ordering.gt)=false)
  : Calls Tryz.prog 107 #[ls,gs,.slice (some ⟨q,0,none⟩) 1 1] w fun r w'=>r = .returned (.bool true)∧Below w.heap.size w w':=by
 have M:Hid (Mem w [(q,C)] w):=Hd ⟨Below.refl _ _,fun p hp=>by obtain rfl:=List.mem_singleton.1 hp; exact hA⟩;clear hA;replace g0:=Hd g0;have k0:=((M.o.nth 0 rfl).2.1 0).trans g0.out;dsimp only at k0;go_enter Tryz.func107,Tryz.ntmps107;go_wp2_with fail;refine wp_loop_rounds 2 ?_;rw [rounds_succ];go_wp2_with fail;refine (c0.out _).mono ?_;rintro r w0 ⟨rfl,hb⟩;replace M:=Hd (M.o.below hb);replace M:=Hd (M.o.made #[a0,a0] 31);clear hb k0 c0;have k0:=((M.o.nth 1 rfl).2.1 0).trans g0.out;dsimp only at k0;go_wp2_with fail;rw [rounds_succ];go_wp2;go_ret;exact ⟨rfl,M.o.base⟩
theorem within_2_0 {C:Array Value} {ls gs a0 a1:Nat} (q:Nat) (w:World) (hA:Has1 w (q,C))
  (g0:C[0]? = some (a0:Value)) (c0:CH 78 #[a0] (.tuple #[.agg #[a0,a0],true]))
  (g1:C[1]? = some (a1:Value)) (c1:CH 78 #[a1] (.tuple #[.agg #[a1,a1],true]))
  (l0:(FloatKind.f64.format.order a0 ls == some Ordering.lt)=false) (u0:(FloatKind.f64.format.order a0 gs == some Ordering.gt)=false)
  (l1:(FloatKind.f64.format.order a1 ls == some Ordering.lt)=false) (u1:(FloatKind.f64.format.order a1 gs == some Ordering.gt)=false)
  : Calls Tryz.prog 107 #[ls,gs,.slice (some ⟨q,0,none⟩) 2 2] w fun r w'=>r = .returned (.bool true)∧Below w.heap.size w w':=by
 have M:Hid (Mem w [(q,C)] w):=Hd ⟨Below.refl _ _,fun p hp=>by obtain rfl:=List.mem_singleton.1 hp; exact hA⟩;clear hA;replace g0:=Hd g0;replace g1:=Hd g1;have k0:=((M.o.nth 0 rfl).2.1 0).trans g0.out;have k1:=((M.o.nth 0 rfl).2.1 1).trans g1.out;dsimp only at k0 k1;go_enter Tryz.func107,Tryz.ntmps107;go_wp2_with fail;refine wp_loop_rounds 3 ?_;rw [rounds_succ];go_wp2_with fail;refine (c0.out _).mono ?_;rintro r w0 ⟨rfl,hb⟩;replace M:=Hd (M.o.below hb);replace M:=Hd (M.o.made #[a0,a0] 31);clear hb k0 k1 c0;have k0:=((M.o.nth 1 rfl).2.1 0).trans g0.out;have k1:=((M.o.nth 1 rfl).2.1 1).trans g1.out;dsimp only at k0 k1;go_wp2_with fail;rw [rounds_succ];go_wp2_with fail;refine (c1.out _).mono ?_;rintro r w1 ⟨rfl,hb⟩;replace M:=Hd (M.o.below hb);replace M:=Hd (M.o.made #[a1,a1] 31);clear hb k0 k1 c1;have k0:=((M.o.nth 2 rfl).2.1 0).trans g0.out;have k1:=((M.o.nth 2 rfl).2.1 1).trans g1.out;dsimp only at k0 k1
 go_wp2_with fail;rw [rounds_succ];go_wp2;go_ret;exact ⟨rfl,M.o.base⟩
theorem within_4_0 {C:Array Value} {ls gs a0 a1 a2 a3:Nat} (q:Nat) (w:World) (hA:Has1 w (q,C))
  (g0:C[0]? = some (a0:Value)) (c0:CH 78 #[a0] (.tuple #[.agg #[a0,a0],true]))
  (g1:C[1]? = some (a1:Value)) (c1:CH 78 #[a1] (.tuple #[.agg #[a1,a1],true]))
  (g2:C[2]? = some (a2:Value)) (c2:CH 78 #[a2] (.tuple #[.agg #[a2,a2],true]))
  (g3:C[3]? = some (a3:Value)) (c3:CH 78 #[a3] (.tuple #[.agg #[a3,a3],true]))
  (l0:(FloatKind.f64.format.order a0 ls == some Ordering.lt)=false) (u0:(FloatKind.f64.format.order a0 gs == some Ordering.gt)=false)
  (l1:(FloatKind.f64.format.order a1 ls == some Ordering.lt)=false) (u1:(FloatKind.f64.format.order a1 gs == some Ordering.gt)=false)
  (l2:(FloatKind.f64.format.order a2 ls == some Ordering.lt)=false) (u2:(FloatKind.f64.format.order a2 gs == some Ordering.gt)=false)
  (l3:(FloatKind.f64.format.order a3 ls == some Ordering.lt)=false) (u3:(FloatKind.f64.format.order a3 gs == some Ordering.gt)=false)
  : Calls Tryz.prog 107 #[ls,gs,.slice (some ⟨q,0,none⟩) 4 4] w fun r w'=>r = .returned (.bool true)∧Below w.heap.size w w':=by
 have M:Hid (Mem w [(q,C)] w):=Hd ⟨Below.refl _ _,fun p hp=>by obtain rfl:=List.mem_singleton.1 hp; exact hA⟩;clear hA;replace g0:=Hd g0;replace g1:=Hd g1;replace g2:=Hd g2;replace g3:=Hd g3;have k0:=((M.o.nth 0 rfl).2.1 0).trans g0.out;have k1:=((M.o.nth 0 rfl).2.1 1).trans g1.out;have k2:=((M.o.nth 0 rfl).2.1 2).trans g2.out;have k3:=((M.o.nth 0 rfl).2.1 3).trans g3.out;dsimp only at k0 k1 k2 k3;go_enter Tryz.func107,Tryz.ntmps107;go_wp2_with fail;refine wp_loop_rounds 5 ?_;rw [rounds_succ];go_wp2_with fail;refine (c0.out _).mono ?_;rintro r w0 ⟨rfl,hb⟩;replace M:=Hd (M.o.below hb);replace M:=Hd (M.o.made #[a0,a0] 31);clear hb k0 k1 k2 k3 c0;have k0:=((M.o.nth 1 rfl).2.1 0).trans g0.out;have k1:=((M.o.nth 1 rfl).2.1 1).trans g1.out;have k2:=((M.o.nth 1 rfl).2.1 2).trans g2.out;have k3:=((M.o.nth 1 rfl).2.1 3).trans g3.out;dsimp only at k0 k1 k2 k3;go_wp2_with fail;rw [rounds_succ];go_wp2_with fail
 refine (c1.out _).mono ?_;rintro r w1 ⟨rfl,hb⟩;replace M:=Hd (M.o.below hb);replace M:=Hd (M.o.made #[a1,a1] 31);clear hb k0 k1 k2 k3 c1;have k0:=((M.o.nth 2 rfl).2.1 0).trans g0.out;have k1:=((M.o.nth 2 rfl).2.1 1).trans g1.out;have k2:=((M.o.nth 2 rfl).2.1 2).trans g2.out;have k3:=((M.o.nth 2 rfl).2.1 3).trans g3.out;dsimp only at k0 k1 k2 k3;go_wp2_with fail;rw [rounds_succ];go_wp2_with fail;refine (c2.out _).mono ?_;rintro r w2 ⟨rfl,hb⟩;replace M:=Hd (M.o.below hb);replace M:=Hd (M.o.made #[a2,a2] 31);clear hb k0 k1 k2 k3 c2;have k0:=((M.o.nth 3 rfl).2.1 0).trans g0.out;have k1:=((M.o.nth 3 rfl).2.1 1).trans g1.out;have k2:=((M.o.nth 3 rfl).2.1 2).trans g2.out;have k3:=((M.o.nth 3 rfl).2.1 3).trans g3.out;dsimp only at k0 k1 k2 k3;go_wp2_with fail;rw [rounds_succ];go_wp2_with fail;refine (c3.out _).mono ?_;rintro r w3 ⟨rfl,hb⟩;replace M:=Hd (M.o.below hb);replace M:=Hd (M.o.made #[a3,a3] 31)
 clear hb k0 k1 k2 k3 c3;have k0:=((M.o.nth 4 rfl).2.1 0).trans g0.out;have k1:=((M.o.nth 4 rfl).2.1 1).trans g1.out;have k2:=((M.o.nth 4 rfl).2.1 2).trans g2.out;have k3:=((M.o.nth 4 rfl).2.1 3).trans g3.out;dsimp only at k0 k1 k2 k3;go_wp2_with fail;rw [rounds_succ];go_wp2;go_ret;exact ⟨rfl,M.o.base⟩
theorem within_3_1 {C:Array Value} {ls gs a0 a1 a2:Nat} (q:Nat) (w:World) (hA:Has1 w (q,C))
  (g0:C[1]? = some (a0:Value)) (c0:CH 78 #[a0] (.tuple #[.agg #[a0,a0],true]))
  (g1:C[2]? = some (a1:Value)) (c1:CH 78 #[a1] (.tuple #[.agg #[a1,a1],true]))
  (g2:C[3]? = some (a2:Value)) (c2:CH 78 #[a2] (.tuple #[.agg #[a2,a2],true]))
  (l0:(FloatKind.f64.format.order a0 ls == some Ordering.lt)=false) (u0:(FloatKind.f64.format.order a0 gs == some Ordering.gt)=false)
  (l1:(FloatKind.f64.format.order a1 ls == some Ordering.lt)=false) (u1:(FloatKind.f64.format.order a1 gs == some Ordering.gt)=false)
  (l2:(FloatKind.f64.format.order a2 ls == some Ordering.lt)=false) (u2:(FloatKind.f64.format.order a2 gs == some Ordering.gt)=false)
  : Calls Tryz.prog 107 #[ls,gs,.slice (some ⟨q,1,none⟩) 3 3] w fun r w'=>r = .returned (.bool true)∧Below w.heap.size w w':=by
 have M:Hid (Mem w [(q,C)] w):=Hd ⟨Below.refl _ _,fun p hp=>by obtain rfl:=List.mem_singleton.1 hp; exact hA⟩;clear hA;replace g0:=Hd g0;replace g1:=Hd g1;replace g2:=Hd g2;have k0:=((M.o.nth 0 rfl).2.1 1).trans g0.out;have k1:=((M.o.nth 0 rfl).2.1 2).trans g1.out;have k2:=((M.o.nth 0 rfl).2.1 3).trans g2.out;dsimp only at k0 k1 k2;go_enter Tryz.func107,Tryz.ntmps107;go_wp2_with fail;refine wp_loop_rounds 4 ?_;rw [rounds_succ];go_wp2_with fail;refine (c0.out _).mono ?_;rintro r w0 ⟨rfl,hb⟩;replace M:=Hd (M.o.below hb);replace M:=Hd (M.o.made #[a0,a0] 31);clear hb k0 k1 k2 c0;have k0:=((M.o.nth 1 rfl).2.1 1).trans g0.out;have k1:=((M.o.nth 1 rfl).2.1 2).trans g1.out;have k2:=((M.o.nth 1 rfl).2.1 3).trans g2.out;dsimp only at k0 k1 k2;go_wp2_with fail;rw [rounds_succ];go_wp2_with fail;refine (c1.out _).mono ?_;rintro r w1 ⟨rfl,hb⟩;replace M:=Hd (M.o.below hb);replace M:=Hd (M.o.made #[a1,a1] 31)
 clear hb k0 k1 k2 c1;have k0:=((M.o.nth 2 rfl).2.1 1).trans g0.out;have k1:=((M.o.nth 2 rfl).2.1 2).trans g1.out;have k2:=((M.o.nth 2 rfl).2.1 3).trans g2.out;dsimp only at k0 k1 k2;go_wp2_with fail;rw [rounds_succ];go_wp2_with fail;refine (c2.out _).mono ?_;rintro r w2 ⟨rfl,hb⟩;replace M:=Hd (M.o.below hb);replace M:=Hd (M.o.made #[a2,a2] 31);clear hb k0 k1 k2 c2;have k0:=((M.o.nth 3 rfl).2.1 1).trans g0.out;have k1:=((M.o.nth 3 rfl).2.1 2).trans g1.out;have k2:=((M.o.nth 3 rfl).2.1 3).trans g2.out;dsimp only at k0 k1 k2;go_wp2_with fail;rw [rounds_succ];go_wp2;go_ret;exact ⟨rfl,M.o.base⟩
theorem within_3_7 {C:Array Value} {ls gs a0 a1 a2:Nat} (q:Nat) (w:World) (hA:Has1 w (q,C))
  (g0:C[7]? = some (a0:Value)) (c0:CH 78 #[a0] (.tuple #[.agg #[a0,a0],true]))
  (g1:C[8]? = some (a1:Value)) (c1:CH 78 #[a1] (.tuple #[.agg #[a1,a1],true]))
  (g2:C[9]? = some (a2:Value)) (c2:CH 78 #[a2] (.tuple #[.agg #[a2,a2],true]))
  (l0:(FloatKind.f64.format.order a0 ls == some Ordering.lt)=false) (u0:(FloatKind.f64.format.order a0 gs == some Ordering.gt)=false)
  (l1:(FloatKind.f64.format.order a1 ls == some Ordering.lt)=false) (u1:(FloatKind.f64.format.order a1 gs == some Ordering.gt)=false)
  (l2:(FloatKind.f64.format.order a2 ls == some Ordering.lt)=false) (u2:(FloatKind.f64.format.order a2 gs == some Ordering.gt)=false)
  : Calls Tryz.prog 107 #[ls,gs,.slice (some ⟨q,7,none⟩) 3 3] w fun r w'=>r = .returned (.bool true)∧Below w.heap.size w w':=by
 have M:Hid (Mem w [(q,C)] w):=Hd ⟨Below.refl _ _,fun p hp=>by obtain rfl:=List.mem_singleton.1 hp; exact hA⟩;clear hA;replace g0:=Hd g0;replace g1:=Hd g1;replace g2:=Hd g2;have k0:=((M.o.nth 0 rfl).2.1 7).trans g0.out;have k1:=((M.o.nth 0 rfl).2.1 8).trans g1.out;have k2:=((M.o.nth 0 rfl).2.1 9).trans g2.out;dsimp only at k0 k1 k2;go_enter Tryz.func107,Tryz.ntmps107;go_wp2_with fail;refine wp_loop_rounds 4 ?_;rw [rounds_succ];go_wp2_with fail;refine (c0.out _).mono ?_;rintro r w0 ⟨rfl,hb⟩;replace M:=Hd (M.o.below hb);replace M:=Hd (M.o.made #[a0,a0] 31);clear hb k0 k1 k2 c0;have k0:=((M.o.nth 1 rfl).2.1 7).trans g0.out;have k1:=((M.o.nth 1 rfl).2.1 8).trans g1.out;have k2:=((M.o.nth 1 rfl).2.1 9).trans g2.out;dsimp only at k0 k1 k2;go_wp2_with fail;rw [rounds_succ];go_wp2_with fail;refine (c1.out _).mono ?_;rintro r w1 ⟨rfl,hb⟩;replace M:=Hd (M.o.below hb);replace M:=Hd (M.o.made #[a1,a1] 31)
 clear hb k0 k1 k2 c1;have k0:=((M.o.nth 2 rfl).2.1 7).trans g0.out;have k1:=((M.o.nth 2 rfl).2.1 8).trans g1.out;have k2:=((M.o.nth 2 rfl).2.1 9).trans g2.out;dsimp only at k0 k1 k2;go_wp2_with fail;rw [rounds_succ];go_wp2_with fail;refine (c2.out _).mono ?_;rintro r w2 ⟨rfl,hb⟩;replace M:=Hd (M.o.below hb);replace M:=Hd (M.o.made #[a2,a2] 31);clear hb k0 k1 k2 c2;have k0:=((M.o.nth 3 rfl).2.1 7).trans g0.out;have k1:=((M.o.nth 3 rfl).2.1 8).trans g1.out;have k2:=((M.o.nth 3 rfl).2.1 9).trans g2.out;dsimp only at k0 k1 k2;go_wp2_with fail;rw [rounds_succ];go_wp2;go_ret;exact ⟨rfl,M.o.base⟩
theorem within_3_10 {C:Array Value} {ls gs a0 a1 a2:Nat} (q:Nat) (w:World) (hA:Has1 w (q,C))
  (g0:C[10]? = some (a0:Value)) (c0:CH 78 #[a0] (.tuple #[.agg #[a0,a0],true]))
  (g1:C[11]? = some (a1:Value)) (c1:CH 78 #[a1] (.tuple #[.agg #[a1,a1],true]))
  (g2:C[12]? = some (a2:Value)) (c2:CH 78 #[a2] (.tuple #[.agg #[a2,a2],true]))
  (l0:(FloatKind.f64.format.order a0 ls == some Ordering.lt)=false) (u0:(FloatKind.f64.format.order a0 gs == some Ordering.gt)=false)
  (l1:(FloatKind.f64.format.order a1 ls == some Ordering.lt)=false) (u1:(FloatKind.f64.format.order a1 gs == some Ordering.gt)=false)
  (l2:(FloatKind.f64.format.order a2 ls == some Ordering.lt)=false) (u2:(FloatKind.f64.format.order a2 gs == some Ordering.gt)=false)
  : Calls Tryz.prog 107 #[ls,gs,.slice (some ⟨q,10,none⟩) 3 3] w fun r w'=>r = .returned (.bool true)∧Below w.heap.size w w':=by
 have M:Hid (Mem w [(q,C)] w):=Hd ⟨Below.refl _ _,fun p hp=>by obtain rfl:=List.mem_singleton.1 hp; exact hA⟩;clear hA;replace g0:=Hd g0;replace g1:=Hd g1;replace g2:=Hd g2;have k0:=((M.o.nth 0 rfl).2.1 10).trans g0.out;have k1:=((M.o.nth 0 rfl).2.1 11).trans g1.out;have k2:=((M.o.nth 0 rfl).2.1 12).trans g2.out;dsimp only at k0 k1 k2;go_enter Tryz.func107,Tryz.ntmps107;go_wp2_with fail;refine wp_loop_rounds 4 ?_;rw [rounds_succ];go_wp2_with fail;refine (c0.out _).mono ?_;rintro r w0 ⟨rfl,hb⟩;replace M:=Hd (M.o.below hb);replace M:=Hd (M.o.made #[a0,a0] 31);clear hb k0 k1 k2 c0;have k0:=((M.o.nth 1 rfl).2.1 10).trans g0.out;have k1:=((M.o.nth 1 rfl).2.1 11).trans g1.out;have k2:=((M.o.nth 1 rfl).2.1 12).trans g2.out;dsimp only at k0 k1 k2;go_wp2_with fail;rw [rounds_succ];go_wp2_with fail;refine (c1.out _).mono ?_;rintro r w1 ⟨rfl,hb⟩;replace M:=Hd (M.o.below hb);replace M:=Hd (M.o.made #[a1,a1] 31)
 clear hb k0 k1 k2 c1;have k0:=((M.o.nth 2 rfl).2.1 10).trans g0.out;have k1:=((M.o.nth 2 rfl).2.1 11).trans g1.out;have k2:=((M.o.nth 2 rfl).2.1 12).trans g2.out;dsimp only at k0 k1 k2;go_wp2_with fail;rw [rounds_succ];go_wp2_with fail;refine (c2.out _).mono ?_;rintro r w2 ⟨rfl,hb⟩;replace M:=Hd (M.o.below hb);replace M:=Hd (M.o.made #[a2,a2] 31);clear hb k0 k1 k2 c2;have k0:=((M.o.nth 3 rfl).2.1 10).trans g0.out;have k1:=((M.o.nth 3 rfl).2.1 11).trans g1.out;have k2:=((M.o.nth 3 rfl).2.1 12).trans g2.out;dsimp only at k0 k1 k2;go_wp2_with fail;rw [rounds_succ];go_wp2;go_ret;exact ⟨rfl,M.o.base⟩
theorem above_walk {i0 i1 i2 i3 i4 i5:Nat} (w:World)
  (c1:Hid (∀ (q:Nat) (w:World),Has1 w (q,#[i0,i1,i2,i3])→Calls Tryz.prog 107 #[(13830554455654793216:Nat),(4607182418800017408:Nat),.slice (some ⟨q,0,none⟩) 4 4] w (Rt (.bool true) w)))
  (c2:Hid (∀ (q:Nat) (w:World),Has1 w (q,#[i4,i5])→Calls Tryz.prog 107 #[(),(4607182418800017408:Nat),.slice (some ⟨q,0,none⟩) 2 2] w (Rt (.bool true) w))) :
  Calls Tryz.prog 63 #[.agg #[i0,i1,i2,i3,i4,i5]] w fun r w'=>r = .returned (.bool true)∧Below w.heap.size w w':=by
 have M:=Hd ((Own.nil w).made #[i0,i1,i2,i3,i4,i5] 33);have eqF:=eq_floats;go_enter Tryz.func63,Tryz.ntmps63;obtain⟨k1,k2,k3,k4,k5,k6⟩:=(M.o.nth 0 rfl).six;replace M:=Hd (M.o.made #[i0,i1,i2,i3] 25);simp only [World.size_alloc] at M;obtain⟨k7,k8,k9,k10,k11,k12⟩:=(M.o.nth 1 rfl).six;go_wp2_with fail;refine (c1.out _ _ (M.o.nth 0 rfl)).mono ?_;rintro r w1_ ⟨rfl,hb⟩;replace M:=Hd (M.o.below hb);clear hb;clear k1 k2 k3 k4 k5 k6 k7 k8 k9 k10 k11 k12;obtain⟨k1,k2,k3,k4,k5,k6⟩:=(M.o.nth 1 rfl).six;replace M:=Hd (M.o.made #[i4,i5] 25);obtain⟨k7,k8,k9,k10,k11,k12⟩:=(M.o.nth 2 rfl).six;go_wp2_with fail;refine (c2.out _ _ (M.o.nth 0 rfl)).mono ?_;rintro r w2_ ⟨rfl,hb⟩;replace M:=Hd (M.o.below hb);clear hb;clear k1 k2 k3 k4 k5 k6 k7 k8 k9 k10 k11 k12;go_wp2;go_ret;exact ⟨rfl,M.o.base⟩
end
section
open Go.RowKit
attribute [local go_sem] run_store_float run_store_fun run_store_nilfun
theorem valO_walk {cc:Int} {xr:Nat} {r0 r1 r2 sg i0 i1 i2 i3 i4 i5 o0 o1 o2 o3 o4 o5 dl dh tl sl th sh zl zh:Nat} {ez:Int} (w:World) (hi:Hid ((cc=0∧r0=xr)∨(cc=1∧r1=xr)∨(cc=2∧r2=xr)))
  (d1:Hid (∀ pb v,Has1 v (pb,#[true])→Calls Tryz.prog 184 #[.pointer (some ⟨pb,0,none⟩),.agg #[i0,i1,i2,i3,i4,i5],.agg #[o0,o1,o2,o3,o4,o5]] v fun r w'=>r = .returned (.agg #[dl,dh])∧Put ⟨pb,0,none⟩ (.int .i64 0) v w'))
  (m_tl:(∀ ts t w,(Builtin.max_ ts t #[dl,(13830554455654793216:Nat)]).run Tryz.prog w = .ok (tl:Value) w))
  (m_sl:(∀ ts t w,(Builtin.min_ ts t #[tl,(4607182418800017408:Nat)]).run Tryz.prog w = .ok (sl:Value) w))
  (m_th:(∀ ts t w,(Builtin.max_ ts t #[dh,(13830554455654793216:Nat)]).run Tryz.prog w = .ok (th:Value) w))
  (m_sh:(∀ ts t w,(Builtin.min_ ts t #[th,(4607182418800017408:Nat)]).run Tryz.prog w = .ok (sh:Value) w))
  (c4:CH 185 #[.agg #[xr,xr],.agg #[sg,sg],.agg #[i4,i5],.agg #[o4,o5],.agg #[sl,sh]] (.tuple #[.agg #[zl,zh],.int .i64 ez])) :
  Calls Tryz.prog 156 #[.agg #[.int .u8 2,r0,r1,r2,(),(),(),(),(),(),(),(),(),sg,(),(),(),true,true],.int .i64 cc,.agg #[i0,i1,i2,i3,i4,i5],.agg #[o0,o1,o2,o3,o4,o5]] w (Rt (.tuple #[.agg #[zl,zh],.int .i64 ez]) w):=by
 have M:=Hd (((((Own.nil w).made #[.int .u8 2,r0,r1,r2,(),(),(),(),(),(),(),(),(),sg,(),(),(),true,true] 66).made #[i0,i1,i2,i3,i4,i5] 33).made #[o0,o1,o2,o3,o4,o5] 33).made #[(),()] 31);simp only [World.size_alloc] at M;have eqF:=eq_floats;go_enter Tryz.func156,Tryz.ntmps156;replace M:=Hd (M.o.made #[true] 74);simp only [World.size_alloc] at M;obtain⟨k1,k2,k3,k4,k5,k6⟩:=(M.o.nth 3 rfl).six;obtain⟨k7,k8,k9,k10,k11,k12⟩:=(M.o.nth 2 rfl).six;go_wp2_with fail;refine (d1.out _ _ (M.o.nth 0 rfl)).mono ?_;rintro r w1_ ⟨rfl,hb⟩;replace M:=Hd (M.o.putAt 0 rfl hb);dsimp only [List.set] at M;clear hb;clear k1 k2 k3 k4 k5 k6 k7 k8 k9 k10 k11 k12;replace M:=Hd (M.o.made #[sl,sh] 31).front;go_upto_region 4 with fail;replace M:=Hd M.o.drew;revert M;generalize (w1_.alloc (.cells #[sl,sh] 31))=W2_;intro M;refine wp_region_noPanic ?_
 rcases hi.out with ⟨rfl,rfl⟩ | ⟨rfl,rfl⟩ | ⟨rfl,rfl⟩
 refine tails_region (S:=fun w'=>(Cf w' w.heap.size 1 r0∧Cf w' w.heap.size 13 sg)∧(Cf w' (w.heap.size+1) 0 i0∧Cf w' (w.heap.size+1) 1 i1∧Cf w' (w.heap.size+1) 2 i2∧Cf w' (w.heap.size+1) 3 i3∧Cf w' (w.heap.size+1) 4 i4∧Cf w' (w.heap.size+1) 5 i5)∧(Cf w' (w.heap.size+1+1) 0 o0∧Cf w' (w.heap.size+1+1) 1 o1∧Cf w' (w.heap.size+1+1) 2 o2∧Cf w' (w.heap.size+1+1) 3 o3∧Cf w' (w.heap.size+1+1) 4 o4∧Cf w' (w.heap.size+1+1) 5 o5)∧(Cf w' w1_.heap.size 0 sl∧Cf w' w1_.heap.size 1 sh)) [] (by kernel_rfl) (by exact ⟨(And.intro ((M.o.nth 5 rfl).get 1 r0 rfl) ((M.o.nth 5 rfl).get 13 sg rfl)),(M.o.nth 4 rfl).six,(M.o.nth 3 rfl).six,(M.o.nth 1 rfl).two⟩) (fun hS=>?_)
 rotate_left
 refine tails_region (S:=fun w'=>(Cf w' w.heap.size 2 r1∧Cf w' w.heap.size 13 sg)∧(Cf w' (w.heap.size+1) 0 i0∧Cf w' (w.heap.size+1) 1 i1∧Cf w' (w.heap.size+1) 2 i2∧Cf w' (w.heap.size+1) 3 i3∧Cf w' (w.heap.size+1) 4 i4∧Cf w' (w.heap.size+1) 5 i5)∧(Cf w' (w.heap.size+1+1) 0 o0∧Cf w' (w.heap.size+1+1) 1 o1∧Cf w' (w.heap.size+1+1) 2 o2∧Cf w' (w.heap.size+1+1) 3 o3∧Cf w' (w.heap.size+1+1) 4 o4∧Cf w' (w.heap.size+1+1) 5 o5)∧(Cf w' w1_.heap.size 0 sl∧Cf w' w1_.heap.size 1 sh)) [] (by kernel_rfl) (by exact ⟨(And.intro ((M.o.nth 5 rfl).get 2 r1 rfl) ((M.o.nth 5 rfl).get 13 sg rfl)),(M.o.nth 4 rfl).six,(M.o.nth 3 rfl).six,(M.o.nth 1 rfl).two⟩) (fun hS=>?_)
 rotate_left
 refine tails_region (S:=fun w'=>(Cf w' w.heap.size 3 r2∧Cf w' w.heap.size 13 sg)∧(Cf w' (w.heap.size+1) 0 i0∧Cf w' (w.heap.size+1) 1 i1∧Cf w' (w.heap.size+1) 2 i2∧Cf w' (w.heap.size+1) 3 i3∧Cf w' (w.heap.size+1) 4 i4∧Cf w' (w.heap.size+1) 5 i5)∧(Cf w' (w.heap.size+1+1) 0 o0∧Cf w' (w.heap.size+1+1) 1 o1∧Cf w' (w.heap.size+1+1) 2 o2∧Cf w' (w.heap.size+1+1) 3 o3∧Cf w' (w.heap.size+1+1) 4 o4∧Cf w' (w.heap.size+1+1) 5 o5)∧(Cf w' w1_.heap.size 0 sl∧Cf w' w1_.heap.size 1 sh)) [] (by kernel_rfl) (by exact ⟨(And.intro ((M.o.nth 5 rfl).get 3 r2 rfl) ((M.o.nth 5 rfl).get 13 sg rfl)),(M.o.nth 4 rfl).six,(M.o.nth 3 rfl).six,(M.o.nth 1 rfl).two⟩) (fun hS=>?_)
 rotate_left
 all_goals
  clear hi;refine tq 0 hS ?_;refine tq 1 hS ?_;refine tq 2 hS ?_;refine tq 3 hS ?_;refine tq 5 hS ?_;refine tq 6 hS ?_;refine tq 8 hS ?_;refine tq 9 hS ?_;refine tq 10 hS ?_;refine tq 11 hS ?_;refine tq 12 hS ?_
  conv=>arg 9; simp only [Act.put,go_sem]
  refine tn [] 4 fun K hK=>?_
  go_simp;refine (psingle_any _ _).mono ?_;rintro rr w3_ ⟨rfl,hb⟩;replace M:=Hd (M.o.below hb);clear hb
  try go_wp2_with fail
  refine hK.out _ _ (Or.inr ⟨(And.intro ((M.o.nth 5 rfl).get _ _ rfl) ((M.o.nth 5 rfl).get _ _ rfl)),(M.o.nth 4 rfl).six,(M.o.nth 3 rfl).six,(M.o.nth 1 rfl).two⟩) (fun hHeld=>?_);clear hK K;replace hS:=hHeld.resolve_left (by simp)
  refine tn [] 7 fun K hK=>?_
  go_simp;refine (psingle_any sg _).mono ?_;rintro rr w4_ ⟨rfl,hb⟩;replace M:=Hd (M.o.below hb);clear hb
  try go_wp2_with fail
  refine hK.out _ _ (Or.inr ⟨(And.intro ((M.o.nth 5 rfl).get _ _ rfl) ((M.o.nth 5 rfl).get _ _ rfl)),(M.o.nth 4 rfl).six,(M.o.nth 3 rfl).six,(M.o.nth 1 rfl).two⟩) (fun hHeld=>?_);clear hK K;replace hS:=hHeld.resolve_left (by simp)
  refine tn [] 13 fun K hK=>?_
  go_simp;refine (c4.out _).mono ?_;rintro rr w5_ ⟨rfl,hb⟩;replace M:=Hd (M.o.below hb);clear hb
  try go_wp2_with fail
  refine hK.out _ _ (Or.inr ⟨(And.intro ((M.o.nth 5 rfl).get _ _ rfl) ((M.o.nth 5 rfl).get _ _ rfl)),(M.o.nth 4 rfl).six,(M.o.nth 3 rfl).six,(M.o.nth 1 rfl).two⟩) (fun hHeld=>?_);clear hK K;replace hS:=hHeld.resolve_left (by simp);refine tq 14 hS ?_;refine tq 15 hS ?_
  refine tn [] 16 fun K hK=>?_
  have kc:=(M.o.nth 2 rfl).2.1;have kf:=(M.o.nth 2 rfl).2.2;replace M:=Hd (M.o.set2 2 rfl zl zh);dsimp only [List.set] at M;go_simp;refine hK.out _ _ (Or.inr ⟨(And.intro ((M.o.nth 5 rfl).get _ _ rfl) ((M.o.nth 5 rfl).get _ _ rfl)),(M.o.nth 4 rfl).six,(M.o.nth 3 rfl).six,(M.o.nth 1 rfl).two⟩) (fun hHeld=>?_);clear hK K hHeld kc kf
  refine tn [] 17 fun K hK=>?_
  go_simp;refine hK.out _ _ (Or.inr ⟨(And.intro ((M.o.nth 5 rfl).get _ _ rfl) ((M.o.nth 5 rfl).get _ _ rfl)),(M.o.nth 4 rfl).six,(M.o.nth 3 rfl).six,(M.o.nth 1 rfl).two⟩) (fun hHeld=>?_);clear hK K hHeld;refine tails_done (by kernel_rfl) ?_ _;refine NoPanic.normal ?_;clear hS;revert M;generalize ((w5_.setCell ⟨(w.heap.size+1+1+1),0,none⟩ (zl:Value)).setCell ⟨(w.heap.size+1+1+1),1,none⟩ (zh:Value))=W6_;intro M;go_wp2;obtain⟨f1,f2⟩:=(M.o.nth 2 rfl).two;exact bodyPost_ret (v:=.tuple #[.agg #[.float .f64 zl,.float .f64 zh],.int .i64 ez]) (by simp [results,Tryz.results156,go_sem,f1,f2]) rfl ⟨rfl,M.o.base⟩
end
section
open Go.RowKit
attribute [local go_sem] run_store_float run_store_fun run_store_nilfun
theorem valP_walk {al io i0 i1 i2 i3 i4 i5 o0 o1 o2 o3 o4 o5 zl zh:Nat} {ez ch:Int} (w:World)
  (c1:Hid (∀ (p:Nat) (w:World),Has1 w (p,#[.int .u8 3,(),(),(),(),(),(),(),(),(),(),(),(),(),al,io,(),true,true])→Calls Tryz.prog 186 #[.agg #[.int .u8 3,(),(),(),(),(),(),(),(),(),(),(),(),(),al,io,(),true,true],.agg #[i0,i1,i2,i3,i4,i5],.agg #[o0,o1,o2,o3,o4,o5],.func (.func 187) #[] #[.pointer (some ⟨p,0,none⟩)]] w (Rt (.tuple #[.agg #[zl,zh],.int .i64 ez]) w))) :
  Calls Tryz.prog 158 #[.agg #[.int .u8 3,(),(),(),(),(),(),(),(),(),(),(),(),(),al,io,(),true,true],.int .i64 ch,.agg #[i0,i1,i2,i3,i4,i5],.agg #[o0,o1,o2,o3,o4,o5]] w (Rt (.tuple #[.agg #[zl,zh],.int .i64 ez]) w):=by
 have M:=Hd (((((Own.nil w).made #[.int .u8 3,(),(),(),(),(),(),(),(),(),(),(),(),(),al,io,(),true,true] 66).made #[i0,i1,i2,i3,i4,i5] 33).made #[o0,o1,o2,o3,o4,o5] 33).made #[(),()] 31);simp only [World.size_alloc] at M;have eqF:=eq_floats;go_enter Tryz.func158,Tryz.ntmps158;go_upto_region 1 with fail;go_step;refine wpl_leaf (by kernel_rfl) rfl rfl (M.o.nth 3 rfl) ?_;simp only [Act.put,go_sem];obtain⟨k1,k2,k3,k4,k5,k6⟩:=(M.o.nth 2 rfl).six;obtain⟨k7,k8,k9,k10,k11,k12⟩:=(M.o.nth 1 rfl).six;go_wp2_with fail;refine (c1.out _ _ (M.o.nth 3 rfl)).mono ?_;rintro r w1_ ⟨rfl,hb⟩;replace M:=Hd (M.o.below hb);clear hb;clear k1 k2 k3 k4 k5 k6 k7 k8 k9 k10 k11 k12;have kc:=(M.o.nth 0 rfl).2.1;have kf:=(M.o.nth 0 rfl).2.2;replace M:=Hd (M.o.set2 0 rfl zl zh);dsimp only [List.set] at M;go_wp2;obtain⟨f1,f2⟩:=(M.o.nth 0 rfl).two;exact bodyPost_ret (v:=.tuple #[.agg #[.float .f64 zl,.float .f64 zh],.int .i64 ez]) (by simp [results,Tryz.results158,go_sem,f1,f2]) rfl ⟨rfl,M.o.base⟩
theorem valM_walk {cc:Int} {al p0 p1 p2 q0 q1 q2 i0 i1 i2 i3 i4 i5 o0 o1 o2 o3 o4 o5 zl zh:Nat} {ez:Int} (w:World)
  (c1:Hid (∀ (p q:Nat) (w:World),Has1 w (p,#[.int .u8 4,(),(),(),(),(),(),p0,p1,p2,q0,q1,q2,(),al,(),(),true,true])→Has1 w (q,#[.int .i64 cc])→Calls Tryz.prog 186 #[.agg #[.int .u8 4,(),(),(),(),(),(),p0,p1,p2,q0,q1,q2,(),al,(),(),true,true],.agg #[i0,i1,i2,i3,i4,i5],.agg #[o0,o1,o2,o3,o4,o5],.func (.func 190) #[] #[.pointer (some ⟨p,0,none⟩),.pointer (some ⟨q,0,none⟩)]] w (Rt (.tuple #[.agg #[zl,zh],.int .i64 ez]) w))) :
  Calls Tryz.prog 161 #[.agg #[.int .u8 4,(),(),(),(),(),(),p0,p1,p2,q0,q1,q2,(),al,(),(),true,true],.int .i64 cc,.agg #[i0,i1,i2,i3,i4,i5],.agg #[o0,o1,o2,o3,o4,o5]] w (Rt (.tuple #[.agg #[zl,zh],.int .i64 ez]) w):=by
 have M:=Hd ((((((Own.nil w).made #[.int .u8 4,(),(),(),(),(),(),p0,p1,p2,q0,q1,q2,(),al,(),(),true,true] 66).made #[.int .i64 cc] 3).made #[i0,i1,i2,i3,i4,i5] 33).made #[o0,o1,o2,o3,o4,o5] 33).made #[(),()] 31);simp only [World.size_alloc] at M;have eqF:=eq_floats;go_enter Tryz.func161,Tryz.ntmps161;go_upto_region 1 with fail;go_step;refine wpl_leaf (by kernel_rfl) rfl rfl (M.o.nth 4 rfl) ?_;simp only [Act.put,go_sem];obtain⟨k1,k2,k3,k4,k5,k6⟩:=(M.o.nth 2 rfl).six;obtain⟨k7,k8,k9,k10,k11,k12⟩:=(M.o.nth 1 rfl).six;go_wp2_with fail;refine (c1.out _ _ _ (M.o.nth 4 rfl) (M.o.nth 3 rfl)).mono ?_;rintro r w1_ ⟨rfl,hb⟩;replace M:=Hd (M.o.below hb);clear hb;clear k1 k2 k3 k4 k5 k6 k7 k8 k9 k10 k11 k12;have kc:=(M.o.nth 0 rfl).2.1;have kf:=(M.o.nth 0 rfl).2.2;replace M:=Hd (M.o.set2 0 rfl zl zh);dsimp only [List.set] at M;go_wp2;obtain⟨f1,f2⟩:=(M.o.nth 0 rfl).two;exact bodyPost_ret (v:=.tuple #[.agg #[.float .f64 zl,.float .f64 zh],.int .i64 ez]) (by simp [results,Tryz.results161,go_sem,f1,f2]) rfl ⟨rfl,M.o.base⟩
end
end Go.Proofs.YtnaomilkgfkegaaGreat
