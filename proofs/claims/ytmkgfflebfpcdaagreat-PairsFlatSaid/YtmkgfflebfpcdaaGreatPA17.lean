/- What the claim stands on, part 18: PaA, PaF. -/
import Derived.Test.YtmkgfflebfpcdaaGreatPA15
import Derived.Test.YtmkgfflebfpcdaaGreatPA16
import Derived.Deep.RegionHeld3
import Derived.Deep.MidRow
set_option maxHeartbeats 16000000
set_option maxRecDepth 100000
namespace Go.Proofs.YtmkgfflebfpcdaaGreat
section
open Go.RowKit
attribute [local go_sem] run_store_float
theorem Has1.get {v:World} {q:Nat} {C:Array Value} (h:Has1 v (q,C)) (i:Nat) (x:Value) (e:C[i]? = some x):v.cell? ⟨q,i,none⟩=some x:=(h.2.1 i).trans e
theorem Has1.range {v:World} {q:Nat} {C:List Value} (h:Has1 v (q,C.toArray)):v.rangeAt q 0 C:=fun j x hj=>by
 rw [Nat.zero_add]
 exact h.get j x (by simpa using hj)
section
variable {op:Oper} {a:Act} {v:World} {K:Act→World→Prop} {Q:Exit→Act→World→Prop} {x:Operand} {q:Nat} {x0 x1 x2 x3 x4 x5 x6 x7 x8 x9 x10 x11 x12 x13 x14 x15 x16 x17 x18:Value}
theorem wp_leaf (ho:op.op = .load 72 x) (hx:a.eval x = .pointer (some ⟨q,0,none⟩)) (h:Has1 v (q,#[x0,x1,x2,x3,x4,x5,x6,x7,x8,x9,x10,x11,x12,x13,x14,x15,x16,x17,x18])) (hK:K (a.put op.dst (.agg #[x0,x1,x2,x3,x4,x5,x6,x7,x8,x9,x10,x11,x12,x13,x14,x15,x16,x17,x18])) v):op.wp Tryz.prog a v K Q:=
 wp_load_mid _ x ho q 0 hx [x0,x1,x2,x3,x4,x5,x6,x7,x8,x9,x10,x11,x12,x13,x14,x15,x16,x17,x18] _ (Has1.range (C:=[x0,x1,x2,x3,x4,x5,x6,x7,x8,x9,x10,x11,x12,x13,x14,x15,x16,x17,x18]) h) Tryz.underlying72 rfl (by kernel_rfl) hK
theorem wp_node (ho:op.op = .load 28 x) (hx:a.eval x = .pointer (some ⟨q,0,none⟩)) (h:Has1 v (q,#[x0,x1,x2,x3,x4,x5,x6,x7,x8,x9,x10,x11,x12,x13,x14,x15,x16,x17,x18])) (hK:K (a.put op.dst (.agg #[x0,x1,x2,x3,x4,x5,x6,x7,x8,x9,x10,x11,x12,x13,x14,x15,x16,x17,x18])) v):op.wp Tryz.prog a v K Q:=
 wp_load_mid _ x ho q 0 hx [x0,x1,x2,x3,x4,x5,x6,x7,x8,x9,x10,x11,x12,x13,x14,x15,x16,x17,x18] _ (Has1.range (C:=[x0,x1,x2,x3,x4,x5,x6,x7,x8,x9,x10,x11,x12,x13,x14,x15,x16,x17,x18]) h) Tryz.underlying28 rfl (by kernel_rfl) hK
variable {ops:Array Oper} {rest:List Oper}
theorem wpl_leaf (hw:Region.wanted op (yielded ops a.tmps)=true) (ho:op.op = .load 72 x) (hx:a.eval x = .pointer (some ⟨q,0,none⟩)) (h:Has1 v (q,#[x0,x1,x2,x3,x4,x5,x6,x7,x8,x9,x10,x11,x12,x13,x14,x15,x16,x17,x18])) (hK:wpList Tryz.prog ops Q rest (a.put op.dst (.agg #[x0,x1,x2,x3,x4,x5,x6,x7,x8,x9,x10,x11,x12,x13,x14,x15,x16,x17,x18])) v):wpList Tryz.prog ops Q (op :: rest) a v:=
 wpList_step fun K k=>by rw [if_pos hw]; exact wp_leaf ho hx h (k _ _ hK)
theorem wpl_node (hw:Region.wanted op (yielded ops a.tmps)=true) (ho:op.op = .load 28 x) (hx:a.eval x = .pointer (some ⟨q,0,none⟩)) (h:Has1 v (q,#[x0,x1,x2,x3,x4,x5,x6,x7,x8,x9,x10,x11,x12,x13,x14,x15,x16,x17,x18])) (hK:wpList Tryz.prog ops Q rest (a.put op.dst (.agg #[x0,x1,x2,x3,x4,x5,x6,x7,x8,x9,x10,x11,x12,x13,x14,x15,x16,x17,x18])) v):wpList Tryz.prog ops Q (op :: rest) a v:=
 wpList_step fun K k=>by rw [if_pos hw]; exact wp_node ho hx h (k _ _ hK)
end
theorem size_setCells (q:Nat):∀ (C:List Value) (o:Nat) (v:World),(v.setCells q o C).heap.size=v.heap.size
 | [],_,_=>rfl
 | x :: r,o,v=>by rw [World.setCells,size_setCells q r,size_set]
theorem Has1.setMany {x:Nat×Array Value} {q:Nat} (hne:q≠x.1):∀ (C:List Value) (o:Nat) (v:World),Has1 v x→Has1 (v.setCells q o C) x
 | [],_,_,h=>h
 | _ :: r,o,_,h=>Has1.setMany hne r (o+1) _ (h.set hne)
theorem Below.setMany {B:World} {q:Nat} (hq:B.heap.size≤q):∀ (C:List Value) (o:Nat) (v:World),Below B.heap.size B v→Below B.heap.size B (v.setCells q o C)
 | [],_,_,h=>h
 | _ :: r,o,_,h=>Below.setMany hq r (o+1) _ (h.setCell hq _)
theorem Has1.setAll {v:World} {q:Nat} {c:Array Value} (h:Has1 v (q,c)) (C:List Value) (hC:C.length=c.size):Has1 (v.setCells q 0 C) (q,C.toArray):=by
 refine ⟨by rw [size_setCells]; exact h.1,fun i=>?_,fun i=>by rw [World.frozen?_setCells]; exact h.2.2 i⟩
 by_cases hi:i < C.length
 · have e:=World.cell?_setCells_in q C 0 v (fun j hj=>by
     have g:=h.2.1 j
     dsimp only at g
     rw [Nat.zero_add,g,Array.getElem?_eq_getElem (by omega)]; rfl) i hi
   rw [Nat.zero_add] at e
   dsimp only
   rw [e]
   simp [hi]
 · have e:=World.cell?_setCells_out q C 0 v ⟨q,i,none⟩ (fun _ _=>Or.inr (by show 0+C.length≤i; omega))
   dsimp only
   have g:=h.2.1 i
   dsimp only at g
   rw [e,g,Array.getElem?_eq_none (by omega),List.getElem?_toArray,List.getElem?_eq_none (by omega)]
theorem Own.setAll {B v:World} {l:List (Nat×Array Value)} (h:Own B l v) (i:Nat) {q:Nat} {c:Array Value} (hi:l[i]? = some (q,c)) (C:List Value) (hC:C.length=c.size):Own B (l.set i (q,C.toArray)) (v.setCells q 0 C):=
 h.at i hi (Below.setMany (h.lowest i hi) C 0 v h.base) ((h.nth i hi).setAll C hC) (fun _ hx hne=>Has1.setMany hne C 0 v hx)
theorem Own.set3 {B v:World} {l:List (Nat×Array Value)} (h:Own B l v) (i:Nat) {q:Nat} {x y z:Value} (hi:l[i]? = some (q,#[x,y,z])) (x' y' z':Value):Own B (l.set i (q,#[x',y',z'])) (((v.setCell ⟨q,0,none⟩ x').setCell ⟨q,1,none⟩ y').setCell ⟨q,2,none⟩ z'):=
 h.setAll i hi [x',y',z'] rfl
section
variable {op:Oper} {a:Act} {v:World} {Q:Exit→Act→World→Prop} {x y:Operand} {q:Nat} {x0 x1 x2 x3 x4 x5 x6 x7 x8 x9 x10 x11 x12 x13 x14 x15 x16 x17 x18 y0 y1 y2 y3 y4 y5 y6 y7 y8 y9 y10 y11 y12 y13 y14 y15 y16 y17 y18:Value} {ops:Array Oper} {rest:List Oper}
theorem wp_stnode {K:Act→World→Prop} (ho:op.op = .store 28 x y) (hx:a.eval x = .pointer (some ⟨q,0,none⟩)) (hy:a.eval y = .agg #[y0,y1,y2,y3,y4,y5,y6,y7,y8,y9,y10,y11,y12,y13,y14,y15,y16,y17,y18]) (h1:(#[y0,y1,y2,y3,y4,y5,y6,y7,y8,y9,y10,y11,y12,y13,y14,y15,y16,y17,y18]:Array Value).all (·.oneCell')=true) (h:Has1 v (q,#[x0,x1,x2,x3,x4,x5,x6,x7,x8,x9,x10,x11,x12,x13,x14,x15,x16,x17,x18]))
   (hK:K (a.put op.dst undef) (v.setCells q 0 [y0,y1,y2,y3,y4,y5,y6,y7,y8,y9,y10,y11,y12,y13,y14,y15,y16,y17,y18])):op.wp Tryz.prog a v K Q:=by
 refine wp_store_mid _ x y ho q 0 #[y0,y1,y2,y3,y4,y5,y6,y7,y8,y9,y10,y11,y12,y13,y14,y15,y16,y17,y18] hx hy (fun j hj=>?_) (by kernel_rfl) h1 hK
 have g:=h.2.1 j
 dsimp only at g
 rw [Nat.zero_add]
 refine ⟨?_,h.2.2 j⟩
 rw [g,Array.getElem?_eq_getElem (by exact hj)]
 rfl
theorem wpl_stnode (hw:Region.wanted op (yielded ops a.tmps)=true) (ho:op.op = .store 28 x y) (hx:a.eval x = .pointer (some ⟨q,0,none⟩)) (hy:a.eval y = .agg #[y0,y1,y2,y3,y4,y5,y6,y7,y8,y9,y10,y11,y12,y13,y14,y15,y16,y17,y18]) (h1:(#[y0,y1,y2,y3,y4,y5,y6,y7,y8,y9,y10,y11,y12,y13,y14,y15,y16,y17,y18]:Array Value).all (·.oneCell')=true) (h:Has1 v (q,#[x0,x1,x2,x3,x4,x5,x6,x7,x8,x9,x10,x11,x12,x13,x14,x15,x16,x17,x18]))
   (hK:wpList Tryz.prog ops Q rest (a.put op.dst undef) (v.setCells q 0 [y0,y1,y2,y3,y4,y5,y6,y7,y8,y9,y10,y11,y12,y13,y14,y15,y16,y17,y18])):wpList Tryz.prog ops Q (op :: rest) a v:=
 wpList_step fun K k=>by rw [if_pos hw]; exact wp_stnode ho hx hy h1 h (k _ _ hK)
theorem results_node {fn:Func} {p:Tmp} (hf:fn.results=#[.cell p 28]) {tmps:Array Value} (hp:tmps.getD p undef = .pointer (some ⟨q,0,none⟩)) (h:Has1 v (q,#[x0,x1,x2,x3,x4,x5,x6,x7,x8,x9,x10,x11,x12,x13,x14,x15,x16,x17,x18])):(results fn tmps).run Tryz.prog v = .ok (.agg #[x0,x1,x2,x3,x4,x5,x6,x7,x8,x9,x10,x11,x12,x13,x14,x15,x16,x17,x18]) v:=by
 have hp':tmps[p]?.getD undef = .pointer (some ⟨q,0,none⟩):=by simpa using hp
 have e:=run_loadVar_mid (P:=Tryz.prog) v q 0 28 [x0,x1,x2,x3,x4,x5,x6,x7,x8,x9,x10,x11,x12,x13,x14,x15,x16,x17,x18] _ (Has1.range (C:=[x0,x1,x2,x3,x4,x5,x6,x7,x8,x9,x10,x11,x12,x13,x14,x15,x16,x17,x18]) h) Tryz.underlying28 rfl (by kernel_rfl)
 simp [results,hf,hp',asAddr,e]
end
theorem eq_three (x y z a b c:Nat) (w:World):(Op.equalIn 9999 26 (.agg #[x,y,z]) (.agg #[a,b,c])).run Tryz.prog w = .ok (Op.floatEq .f64 x a&&(Op.floatEq .f64 y b&&Op.floatEq .f64 z c)) w:=by
 have ha:=run_underlying Tryz.underlying26 (w:=w)
 have hs:(sizeOf 25).run Tryz.prog w = .ok 1 w:=by kernel_rfl
 have hi:(isAgg 25).run Tryz.prog w = .ok false w:=by kernel_rfl
 have hF:∀ u v w,(Op.equalIn 9998 25 (.float .f64 u) (.float .f64 v)).run Tryz.prog w = .ok (Op.floatEq .f64 u v) w:=fun u v w=>by
   show (Op.equalIn (9997+1) 25 _ _).run Tryz.prog w=_
   rw [Op.equalIn]
   simp only [Sem.run_bind,run_underlying Tryz.underlying25 (w:=w),Result.andThen]
   simp [go_sem]
 show (Op.equalIn (9998+1) 26 _ _).run Tryz.prog w=_
 rw [Op.equalIn]
 simp only [Sem.run_bind,ha,Result.andThen]
 rw [hs]
 simp only [Std.Legacy.Range.forIn_eq_forIn_range',Std.Legacy.Range.size,List.range',List.forIn_cons,List.forIn_nil,Sem.run_bind,Result.andThen]
 cases h1:Op.floatEq .f64 x a <;> cases h2:Op.floatEq .f64 y b <;> cases h3:Op.floatEq .f64 z c <;> simp [go_sem,hF,hi,h1,h2,h3,Result.andThen]
theorem run_store_fun (P:Program) (w:World) (a:Addr) (m:Mode) (f:Fn) (t c:Array Value):(store a (.func f t c) m).run P w=stored P w a (.func f t c) m:=run_store P w a _ m rfl
theorem run_store_nilfun (P:Program) (w:World) (a:Addr) (m:Mode):(store a .nilFunc m).run P w=stored P w a .nilFunc m:=run_store P w a _ m rfl
attribute [local go_sem] run_store_fun
theorem psingle_any (x:Nat) (w:World)
    :
   Calls Tryz.prog 82 #[x] w (Rt (.agg #[x,x]) w):=by
 have M:=Lib.hid ((Own.nil w).made #[x,x] 31)
 have eqF:=eq_floats
 go_enter Tryz.func82,Tryz.ntmps82
 go_wp2
 exact bodyPost_ret (v:=.agg #[.float .f64 x,.float .f64 x]) (by simp [results,Tryz.results82,go_sem]) rfl ⟨rfl,M.out.base⟩
theorem pright_walk {i0 i1 i2 i3 i4 i5:Nat} (w:World)
   (c1:Hid (∀ w,Calls Tryz.prog 53 #[.agg #[i0,i1]] w (Rt (.bool true) w)))
   (c2:Hid (∀ w,Calls Tryz.prog 53 #[.agg #[i2,i3]] w (Rt (.bool true) w)))
   (c3:Hid (∀ w,Calls Tryz.prog 53 #[.agg #[i4,i5]] w (Rt (.bool true) w))) :
   Calls Tryz.prog 51 #[.agg #[i0,i1,i2,i3,i4,i5]] w fun r w'=>r = .returned (.bool true)∧Below w.heap.size w w':=by
 have M:=Lib.hid ((Own.nil w).made #[i0,i1,i2,i3,i4,i5] 33)
 have eqF:=eq_floats
 go_enter Tryz.func51,Tryz.ntmps51
 obtain⟨k1,k2,k3,k4,k5,k6⟩:=(M.out.nth 0 rfl).six
 go_wp2_with fail
 refine (c1.out _).mono ?_
 rintro r w1_ ⟨rfl,hb⟩
 replace M:=Lib.hid (M.out.below hb)
 clear hb
 clear k1 k2 k3 k4 k5 k6
 obtain⟨k1,k2,k3,k4,k5,k6⟩:=(M.out.nth 0 rfl).six
 go_wp2_with fail
 refine (c2.out _).mono ?_
 rintro r w2_ ⟨rfl,hb⟩
 replace M:=Lib.hid (M.out.below hb)
 clear hb
 clear k1 k2 k3 k4 k5 k6
 obtain⟨k1,k2,k3,k4,k5,k6⟩:=(M.out.nth 0 rfl).six
 go_wp2_with fail
 refine (c3.out _).mono ?_
 rintro r w3_ ⟨rfl,hb⟩
 replace M:=Lib.hid (M.out.below hb)
 clear hb
 clear k1 k2 k3 k4 k5 k6
 go_wp2
 go_ret
 exact ⟨rfl,M.out.base⟩
theorem within_1_0 {C:Array Value} {ls gs a0:Nat} (q:Nat) (w:World) (hA:Has1 w (q,C))
   (g0:C[0]? = some (.float .f64 a0)) (c0:Hid (∀ w,Calls Tryz.prog 40 #[a0] w (Rt (.tuple #[.agg #[a0,a0],true]) w)))
   (l0:(FloatKind.f64.format.order a0 ls == some Ordering.lt)=false) (u0:(FloatKind.f64.format.order a0 gs == some Ordering.gt)=false)
   : Calls Tryz.prog 71 #[ls,gs,.slice (some ⟨q,0,none⟩) 1 1] w fun r w'=>r = .returned (.bool true)∧Below w.heap.size w w':=by
 have M:Hid (Mem w [(q,C)] w):=Lib.hid ⟨Below.refl _ _,fun p hp=>by obtain rfl:=List.mem_singleton.1 hp; exact hA⟩
 clear hA
 replace g0:=Lib.hid g0
 have k0:=((M.out.nth 0 rfl).2.1 0).trans g0.out
 dsimp only at k0
 go_enter Tryz.func71,Tryz.ntmps71
 go_wp2_with fail
 refine wp_loop_rounds 2 ?_
 rw [rounds_succ]
 go_wp2_with fail
 refine (c0.out _).mono ?_
 rintro r w0 ⟨rfl,hb⟩
 replace M:=Lib.hid (M.out.below hb)
 replace M:=Lib.hid (M.out.made #[a0,a0] 31)
 clear hb k0 c0
 have k0:=((M.out.nth 1 rfl).2.1 0).trans g0.out
 dsimp only at k0
 go_wp2_with fail
 rw [rounds_succ]
 go_wp2
 go_ret
 exact ⟨rfl,M.out.base⟩
theorem within_2_0 {C:Array Value} {ls gs a0 a1:Nat} (q:Nat) (w:World) (hA:Has1 w (q,C))
   (g0:C[0]? = some (.float .f64 a0)) (c0:Hid (∀ w,Calls Tryz.prog 40 #[a0] w (Rt (.tuple #[.agg #[a0,a0],true]) w)))
   (g1:C[1]? = some (.float .f64 a1)) (c1:Hid (∀ w,Calls Tryz.prog 40 #[a1] w (Rt (.tuple #[.agg #[a1,a1],true]) w)))
   (l0:(FloatKind.f64.format.order a0 ls == some Ordering.lt)=false) (u0:(FloatKind.f64.format.order a0 gs == some Ordering.gt)=false)
   (l1:(FloatKind.f64.format.order a1 ls == some Ordering.lt)=false) (u1:(FloatKind.f64.format.order a1 gs == some Ordering.gt)=false)
   : Calls Tryz.prog 71 #[ls,gs,.slice (some ⟨q,0,none⟩) 2 2] w fun r w'=>r = .returned (.bool true)∧Below w.heap.size w w':=by
 have M:Hid (Mem w [(q,C)] w):=Lib.hid ⟨Below.refl _ _,fun p hp=>by obtain rfl:=List.mem_singleton.1 hp; exact hA⟩
 clear hA
 replace g0:=Lib.hid g0
 replace g1:=Lib.hid g1
 have k0:=((M.out.nth 0 rfl).2.1 0).trans g0.out
 have k1:=((M.out.nth 0 rfl).2.1 1).trans g1.out
 dsimp only at k0 k1
 go_enter Tryz.func71,Tryz.ntmps71
 go_wp2_with fail
 refine wp_loop_rounds 3 ?_
 rw [rounds_succ]
 go_wp2_with fail
 refine (c0.out _).mono ?_
 rintro r w0 ⟨rfl,hb⟩
 replace M:=Lib.hid (M.out.below hb)
 replace M:=Lib.hid (M.out.made #[a0,a0] 31)
 clear hb k0 k1 c0
 have k0:=((M.out.nth 1 rfl).2.1 0).trans g0.out
 have k1:=((M.out.nth 1 rfl).2.1 1).trans g1.out
 dsimp only at k0 k1
 go_wp2_with fail
 rw [rounds_succ]
 go_wp2_with fail
 refine (c1.out _).mono ?_
 rintro r w1 ⟨rfl,hb⟩
 replace M:=Lib.hid (M.out.below hb)
 replace M:=Lib.hid (M.out.made #[a1,a1] 31)
 clear hb k0 k1 c1
 have k0:=((M.out.nth 2 rfl).2.1 0).trans g0.out
 have k1:=((M.out.nth 2 rfl).2.1 1).trans g1.out
 dsimp only at k0 k1
 go_wp2_with fail
 rw [rounds_succ]
 go_wp2
 go_ret
 exact ⟨rfl,M.out.base⟩
theorem within_4_0 {C:Array Value} {ls gs a0 a1 a2 a3:Nat} (q:Nat) (w:World) (hA:Has1 w (q,C))
   (g0:C[0]? = some (.float .f64 a0)) (c0:Hid (∀ w,Calls Tryz.prog 40 #[a0] w (Rt (.tuple #[.agg #[a0,a0],true]) w)))
   (g1:C[1]? = some (.float .f64 a1)) (c1:Hid (∀ w,Calls Tryz.prog 40 #[a1] w (Rt (.tuple #[.agg #[a1,a1],true]) w)))
   (g2:C[2]? = some (.float .f64 a2)) (c2:Hid (∀ w,Calls Tryz.prog 40 #[a2] w (Rt (.tuple #[.agg #[a2,a2],true]) w)))
   (g3:C[3]? = some (.float .f64 a3)) (c3:Hid (∀ w,Calls Tryz.prog 40 #[a3] w (Rt (.tuple #[.agg #[a3,a3],true]) w)))
   (l0:(FloatKind.f64.format.order a0 ls == some Ordering.lt)=false) (u0:(FloatKind.f64.format.order a0 gs == some Ordering.gt)=false)
   (l1:(FloatKind.f64.format.order a1 ls == some Ordering.lt)=false) (u1:(FloatKind.f64.format.order a1 gs == some Ordering.gt)=false)
   (l2:(FloatKind.f64.format.order a2 ls == some Ordering.lt)=false) (u2:(FloatKind.f64.format.order a2 gs == some Ordering.gt)=false)
   (l3:(FloatKind.f64.format.order a3 ls == some Ordering.lt)=false) (u3:(FloatKind.f64.format.order a3 gs == some Ordering.gt)=false)
   : Calls Tryz.prog 71 #[ls,gs,.slice (some ⟨q,0,none⟩) 4 4] w fun r w'=>r = .returned (.bool true)∧Below w.heap.size w w':=by
 have M:Hid (Mem w [(q,C)] w):=Lib.hid ⟨Below.refl _ _,fun p hp=>by obtain rfl:=List.mem_singleton.1 hp; exact hA⟩
 clear hA
 replace g0:=Lib.hid g0
 replace g1:=Lib.hid g1
 replace g2:=Lib.hid g2
 replace g3:=Lib.hid g3
 have k0:=((M.out.nth 0 rfl).2.1 0).trans g0.out
 have k1:=((M.out.nth 0 rfl).2.1 1).trans g1.out
 have k2:=((M.out.nth 0 rfl).2.1 2).trans g2.out
 have k3:=((M.out.nth 0 rfl).2.1 3).trans g3.out
 dsimp only at k0 k1 k2 k3
 go_enter Tryz.func71,Tryz.ntmps71
 go_wp2_with fail
 refine wp_loop_rounds 5 ?_
 rw [rounds_succ]
 go_wp2_with fail
 refine (c0.out _).mono ?_
 rintro r w0 ⟨rfl,hb⟩
 replace M:=Lib.hid (M.out.below hb)
 replace M:=Lib.hid (M.out.made #[a0,a0] 31)
 clear hb k0 k1 k2 k3 c0
 have k0:=((M.out.nth 1 rfl).2.1 0).trans g0.out
 have k1:=((M.out.nth 1 rfl).2.1 1).trans g1.out
 have k2:=((M.out.nth 1 rfl).2.1 2).trans g2.out
 have k3:=((M.out.nth 1 rfl).2.1 3).trans g3.out
 dsimp only at k0 k1 k2 k3
 go_wp2_with fail
 rw [rounds_succ]
 go_wp2_with fail
 refine (c1.out _).mono ?_
 rintro r w1 ⟨rfl,hb⟩
 replace M:=Lib.hid (M.out.below hb)
 replace M:=Lib.hid (M.out.made #[a1,a1] 31)
 clear hb k0 k1 k2 k3 c1
 have k0:=((M.out.nth 2 rfl).2.1 0).trans g0.out
 have k1:=((M.out.nth 2 rfl).2.1 1).trans g1.out
 have k2:=((M.out.nth 2 rfl).2.1 2).trans g2.out
 have k3:=((M.out.nth 2 rfl).2.1 3).trans g3.out
 dsimp only at k0 k1 k2 k3
 go_wp2_with fail
 rw [rounds_succ]
 go_wp2_with fail
 refine (c2.out _).mono ?_
 rintro r w2 ⟨rfl,hb⟩
 replace M:=Lib.hid (M.out.below hb)
 replace M:=Lib.hid (M.out.made #[a2,a2] 31)
 clear hb k0 k1 k2 k3 c2
 have k0:=((M.out.nth 3 rfl).2.1 0).trans g0.out
 have k1:=((M.out.nth 3 rfl).2.1 1).trans g1.out
 have k2:=((M.out.nth 3 rfl).2.1 2).trans g2.out
 have k3:=((M.out.nth 3 rfl).2.1 3).trans g3.out
 dsimp only at k0 k1 k2 k3
 go_wp2_with fail
 rw [rounds_succ]
 go_wp2_with fail
 refine (c3.out _).mono ?_
 rintro r w3 ⟨rfl,hb⟩
 replace M:=Lib.hid (M.out.below hb)
 replace M:=Lib.hid (M.out.made #[a3,a3] 31)
 clear hb k0 k1 k2 k3 c3
 have k0:=((M.out.nth 4 rfl).2.1 0).trans g0.out
 have k1:=((M.out.nth 4 rfl).2.1 1).trans g1.out
 have k2:=((M.out.nth 4 rfl).2.1 2).trans g2.out
 have k3:=((M.out.nth 4 rfl).2.1 3).trans g3.out
 dsimp only at k0 k1 k2 k3
 go_wp2_with fail
 rw [rounds_succ]
 go_wp2
 go_ret
 exact ⟨rfl,M.out.base⟩
theorem within_3_1 {C:Array Value} {ls gs a0 a1 a2:Nat} (q:Nat) (w:World) (hA:Has1 w (q,C))
   (g0:C[1]? = some (.float .f64 a0)) (c0:Hid (∀ w,Calls Tryz.prog 40 #[a0] w (Rt (.tuple #[.agg #[a0,a0],true]) w)))
   (g1:C[2]? = some (.float .f64 a1)) (c1:Hid (∀ w,Calls Tryz.prog 40 #[a1] w (Rt (.tuple #[.agg #[a1,a1],true]) w)))
   (g2:C[3]? = some (.float .f64 a2)) (c2:Hid (∀ w,Calls Tryz.prog 40 #[a2] w (Rt (.tuple #[.agg #[a2,a2],true]) w)))
   (l0:(FloatKind.f64.format.order a0 ls == some Ordering.lt)=false) (u0:(FloatKind.f64.format.order a0 gs == some Ordering.gt)=false)
   (l1:(FloatKind.f64.format.order a1 ls == some Ordering.lt)=false) (u1:(FloatKind.f64.format.order a1 gs == some Ordering.gt)=false)
   (l2:(FloatKind.f64.format.order a2 ls == some Ordering.lt)=false) (u2:(FloatKind.f64.format.order a2 gs == some Ordering.gt)=false)
   : Calls Tryz.prog 71 #[ls,gs,.slice (some ⟨q,1,none⟩) 3 3] w fun r w'=>r = .returned (.bool true)∧Below w.heap.size w w':=by
 have M:Hid (Mem w [(q,C)] w):=Lib.hid ⟨Below.refl _ _,fun p hp=>by obtain rfl:=List.mem_singleton.1 hp; exact hA⟩
 clear hA
 replace g0:=Lib.hid g0
 replace g1:=Lib.hid g1
 replace g2:=Lib.hid g2
 have k0:=((M.out.nth 0 rfl).2.1 1).trans g0.out
 have k1:=((M.out.nth 0 rfl).2.1 2).trans g1.out
 have k2:=((M.out.nth 0 rfl).2.1 3).trans g2.out
 dsimp only at k0 k1 k2
 go_enter Tryz.func71,Tryz.ntmps71
 go_wp2_with fail
 refine wp_loop_rounds 4 ?_
 rw [rounds_succ]
 go_wp2_with fail
 refine (c0.out _).mono ?_
 rintro r w0 ⟨rfl,hb⟩
 replace M:=Lib.hid (M.out.below hb)
 replace M:=Lib.hid (M.out.made #[a0,a0] 31)
 clear hb k0 k1 k2 c0
 have k0:=((M.out.nth 1 rfl).2.1 1).trans g0.out
 have k1:=((M.out.nth 1 rfl).2.1 2).trans g1.out
 have k2:=((M.out.nth 1 rfl).2.1 3).trans g2.out
 dsimp only at k0 k1 k2
 go_wp2_with fail
 rw [rounds_succ]
 go_wp2_with fail
 refine (c1.out _).mono ?_
 rintro r w1 ⟨rfl,hb⟩
 replace M:=Lib.hid (M.out.below hb)
 replace M:=Lib.hid (M.out.made #[a1,a1] 31)
 clear hb k0 k1 k2 c1
 have k0:=((M.out.nth 2 rfl).2.1 1).trans g0.out
 have k1:=((M.out.nth 2 rfl).2.1 2).trans g1.out
 have k2:=((M.out.nth 2 rfl).2.1 3).trans g2.out
 dsimp only at k0 k1 k2
 go_wp2_with fail
 rw [rounds_succ]
 go_wp2_with fail
 refine (c2.out _).mono ?_
 rintro r w2 ⟨rfl,hb⟩
 replace M:=Lib.hid (M.out.below hb)
 replace M:=Lib.hid (M.out.made #[a2,a2] 31)
 clear hb k0 k1 k2 c2
 have k0:=((M.out.nth 3 rfl).2.1 1).trans g0.out
 have k1:=((M.out.nth 3 rfl).2.1 2).trans g1.out
 have k2:=((M.out.nth 3 rfl).2.1 3).trans g2.out
 dsimp only at k0 k1 k2
 go_wp2_with fail
 rw [rounds_succ]
 go_wp2
 go_ret
 exact ⟨rfl,M.out.base⟩
theorem within_3_7 {C:Array Value} {ls gs a0 a1 a2:Nat} (q:Nat) (w:World) (hA:Has1 w (q,C))
   (g0:C[7]? = some (.float .f64 a0)) (c0:Hid (∀ w,Calls Tryz.prog 40 #[a0] w (Rt (.tuple #[.agg #[a0,a0],true]) w)))
   (g1:C[8]? = some (.float .f64 a1)) (c1:Hid (∀ w,Calls Tryz.prog 40 #[a1] w (Rt (.tuple #[.agg #[a1,a1],true]) w)))
   (g2:C[9]? = some (.float .f64 a2)) (c2:Hid (∀ w,Calls Tryz.prog 40 #[a2] w (Rt (.tuple #[.agg #[a2,a2],true]) w)))
   (l0:(FloatKind.f64.format.order a0 ls == some Ordering.lt)=false) (u0:(FloatKind.f64.format.order a0 gs == some Ordering.gt)=false)
   (l1:(FloatKind.f64.format.order a1 ls == some Ordering.lt)=false) (u1:(FloatKind.f64.format.order a1 gs == some Ordering.gt)=false)
   (l2:(FloatKind.f64.format.order a2 ls == some Ordering.lt)=false) (u2:(FloatKind.f64.format.order a2 gs == some Ordering.gt)=false)
   : Calls Tryz.prog 71 #[ls,gs,.slice (some ⟨q,7,none⟩) 3 3] w fun r w'=>r = .returned (.bool true)∧Below w.heap.size w w':=by
 have M:Hid (Mem w [(q,C)] w):=Lib.hid ⟨Below.refl _ _,fun p hp=>by obtain rfl:=List.mem_singleton.1 hp; exact hA⟩
 clear hA
 replace g0:=Lib.hid g0
 replace g1:=Lib.hid g1
 replace g2:=Lib.hid g2
 have k0:=((M.out.nth 0 rfl).2.1 7).trans g0.out
 have k1:=((M.out.nth 0 rfl).2.1 8).trans g1.out
 have k2:=((M.out.nth 0 rfl).2.1 9).trans g2.out
 dsimp only at k0 k1 k2
 go_enter Tryz.func71,Tryz.ntmps71
 go_wp2_with fail
 refine wp_loop_rounds 4 ?_
 rw [rounds_succ]
 go_wp2_with fail
 refine (c0.out _).mono ?_
 rintro r w0 ⟨rfl,hb⟩
 replace M:=Lib.hid (M.out.below hb)
 replace M:=Lib.hid (M.out.made #[a0,a0] 31)
 clear hb k0 k1 k2 c0
 have k0:=((M.out.nth 1 rfl).2.1 7).trans g0.out
 have k1:=((M.out.nth 1 rfl).2.1 8).trans g1.out
 have k2:=((M.out.nth 1 rfl).2.1 9).trans g2.out
 dsimp only at k0 k1 k2
 go_wp2_with fail
 rw [rounds_succ]
 go_wp2_with fail
 refine (c1.out _).mono ?_
 rintro r w1 ⟨rfl,hb⟩
 replace M:=Lib.hid (M.out.below hb)
 replace M:=Lib.hid (M.out.made #[a1,a1] 31)
 clear hb k0 k1 k2 c1
 have k0:=((M.out.nth 2 rfl).2.1 7).trans g0.out
 have k1:=((M.out.nth 2 rfl).2.1 8).trans g1.out
 have k2:=((M.out.nth 2 rfl).2.1 9).trans g2.out
 dsimp only at k0 k1 k2
 go_wp2_with fail
 rw [rounds_succ]
 go_wp2_with fail
 refine (c2.out _).mono ?_
 rintro r w2 ⟨rfl,hb⟩
 replace M:=Lib.hid (M.out.below hb)
 replace M:=Lib.hid (M.out.made #[a2,a2] 31)
 clear hb k0 k1 k2 c2
 have k0:=((M.out.nth 3 rfl).2.1 7).trans g0.out
 have k1:=((M.out.nth 3 rfl).2.1 8).trans g1.out
 have k2:=((M.out.nth 3 rfl).2.1 9).trans g2.out
 dsimp only at k0 k1 k2
 go_wp2_with fail
 rw [rounds_succ]
 go_wp2
 go_ret
 exact ⟨rfl,M.out.base⟩
theorem within_3_10 {C:Array Value} {ls gs a0 a1 a2:Nat} (q:Nat) (w:World) (hA:Has1 w (q,C))
   (g0:C[10]? = some (.float .f64 a0)) (c0:Hid (∀ w,Calls Tryz.prog 40 #[a0] w (Rt (.tuple #[.agg #[a0,a0],true]) w)))
   (g1:C[11]? = some (.float .f64 a1)) (c1:Hid (∀ w,Calls Tryz.prog 40 #[a1] w (Rt (.tuple #[.agg #[a1,a1],true]) w)))
   (g2:C[12]? = some (.float .f64 a2)) (c2:Hid (∀ w,Calls Tryz.prog 40 #[a2] w (Rt (.tuple #[.agg #[a2,a2],true]) w)))
   (l0:(FloatKind.f64.format.order a0 ls == some Ordering.lt)=false) (u0:(FloatKind.f64.format.order a0 gs == some Ordering.gt)=false)
   (l1:(FloatKind.f64.format.order a1 ls == some Ordering.lt)=false) (u1:(FloatKind.f64.format.order a1 gs == some Ordering.gt)=false)
   (l2:(FloatKind.f64.format.order a2 ls == some Ordering.lt)=false) (u2:(FloatKind.f64.format.order a2 gs == some Ordering.gt)=false)
   : Calls Tryz.prog 71 #[ls,gs,.slice (some ⟨q,10,none⟩) 3 3] w fun r w'=>r = .returned (.bool true)∧Below w.heap.size w w':=by
 have M:Hid (Mem w [(q,C)] w):=Lib.hid ⟨Below.refl _ _,fun p hp=>by obtain rfl:=List.mem_singleton.1 hp; exact hA⟩
 clear hA
 replace g0:=Lib.hid g0
 replace g1:=Lib.hid g1
 replace g2:=Lib.hid g2
 have k0:=((M.out.nth 0 rfl).2.1 10).trans g0.out
 have k1:=((M.out.nth 0 rfl).2.1 11).trans g1.out
 have k2:=((M.out.nth 0 rfl).2.1 12).trans g2.out
 dsimp only at k0 k1 k2
 go_enter Tryz.func71,Tryz.ntmps71
 go_wp2_with fail
 refine wp_loop_rounds 4 ?_
 rw [rounds_succ]
 go_wp2_with fail
 refine (c0.out _).mono ?_
 rintro r w0 ⟨rfl,hb⟩
 replace M:=Lib.hid (M.out.below hb)
 replace M:=Lib.hid (M.out.made #[a0,a0] 31)
 clear hb k0 k1 k2 c0
 have k0:=((M.out.nth 1 rfl).2.1 10).trans g0.out
 have k1:=((M.out.nth 1 rfl).2.1 11).trans g1.out
 have k2:=((M.out.nth 1 rfl).2.1 12).trans g2.out
 dsimp only at k0 k1 k2
 go_wp2_with fail
 rw [rounds_succ]
 go_wp2_with fail
 refine (c1.out _).mono ?_
 rintro r w1 ⟨rfl,hb⟩
 replace M:=Lib.hid (M.out.below hb)
 replace M:=Lib.hid (M.out.made #[a1,a1] 31)
 clear hb k0 k1 k2 c1
 have k0:=((M.out.nth 2 rfl).2.1 10).trans g0.out
 have k1:=((M.out.nth 2 rfl).2.1 11).trans g1.out
 have k2:=((M.out.nth 2 rfl).2.1 12).trans g2.out
 dsimp only at k0 k1 k2
 go_wp2_with fail
 rw [rounds_succ]
 go_wp2_with fail
 refine (c2.out _).mono ?_
 rintro r w2 ⟨rfl,hb⟩
 replace M:=Lib.hid (M.out.below hb)
 replace M:=Lib.hid (M.out.made #[a2,a2] 31)
 clear hb k0 k1 k2 c2
 have k0:=((M.out.nth 3 rfl).2.1 10).trans g0.out
 have k1:=((M.out.nth 3 rfl).2.1 11).trans g1.out
 have k2:=((M.out.nth 3 rfl).2.1 12).trans g2.out
 dsimp only at k0 k1 k2
 go_wp2_with fail
 rw [rounds_succ]
 go_wp2
 go_ret
 exact ⟨rfl,M.out.base⟩
theorem above_walk {i0 i1 i2 i3 i4 i5:Nat} (w:World)
   (c1:Hid (∀ (q:Nat) (w:World),Has1 w (q,#[i0,i1,i2,i3])→Calls Tryz.prog 71 #[(13830554455654793216:Nat),(4607182418800017408:Nat),.slice (some ⟨q,0,none⟩) 4 4] w (Rt (.bool true) w)))
   (c2:Hid (∀ (q:Nat) (w:World),Has1 w (q,#[i4,i5])→Calls Tryz.prog 71 #[(),(4607182418800017408:Nat),.slice (some ⟨q,0,none⟩) 2 2] w (Rt (.bool true) w))) :
   Calls Tryz.prog 52 #[.agg #[i0,i1,i2,i3,i4,i5]] w fun r w'=>r = .returned (.bool true)∧Below w.heap.size w w':=by
 have M:=Lib.hid ((Own.nil w).made #[i0,i1,i2,i3,i4,i5] 33)
 have eqF:=eq_floats
 go_enter Tryz.func52,Tryz.ntmps52
 obtain⟨k1,k2,k3,k4,k5,k6⟩:=(M.out.nth 0 rfl).six
 replace M:=Lib.hid (M.out.made #[i0,i1,i2,i3] 25)
 simp only [World.size_alloc] at M
 obtain⟨k7,k8,k9,k10,k11,k12⟩:=(M.out.nth 1 rfl).six
 go_wp2_with fail
 refine (c1.out _ _ (M.out.nth 0 rfl)).mono ?_
 rintro r w1_ ⟨rfl,hb⟩
 replace M:=Lib.hid (M.out.below hb)
 clear hb
 clear k1 k2 k3 k4 k5 k6 k7 k8 k9 k10 k11 k12
 obtain⟨k1,k2,k3,k4,k5,k6⟩:=(M.out.nth 1 rfl).six
 replace M:=Lib.hid (M.out.made #[i4,i5] 25)
 obtain⟨k7,k8,k9,k10,k11,k12⟩:=(M.out.nth 2 rfl).six
 go_wp2_with fail
 refine (c2.out _ _ (M.out.nth 0 rfl)).mono ?_
 rintro r w2_ ⟨rfl,hb⟩
 replace M:=Lib.hid (M.out.below hb)
 clear hb
 clear k1 k2 k3 k4 k5 k6 k7 k8 k9 k10 k11 k12
 go_wp2
 go_ret
 exact ⟨rfl,M.out.base⟩
end
section
open Go.RowKit
attribute [local go_sem] run_store_float run_store_fun run_store_nilfun
theorem valP_walk {al io i0 i1 i2 i3 i4 i5 o0 o1 o2 o3 o4 o5 zl zh:Nat} {ez ch:Int} (w:World)
   (c1:Hid (∀ (p:Nat) (w:World),Has1 w (p,#[.int .u8 3,(),(),(),(),(),(),(),(),(),(),(),(),(),al,io,(),true,true])→Calls Tryz.prog 86 #[.agg #[.int .u8 3,(),(),(),(),(),(),(),(),(),(),(),(),(),al,io,(),true,true],.agg #[i0,i1,i2,i3,i4,i5],.agg #[o0,o1,o2,o3,o4,o5],.func (.func 87) #[] #[.pointer (some ⟨p,0,none⟩)]] w (Rt (.tuple #[.agg #[zl,zh],.int .i64 ez]) w))) :
   Calls Tryz.prog 67 #[.agg #[.int .u8 3,(),(),(),(),(),(),(),(),(),(),(),(),(),al,io,(),true,true],.int .i64 ch,.agg #[i0,i1,i2,i3,i4,i5],.agg #[o0,o1,o2,o3,o4,o5]] w (Rt (.tuple #[.agg #[zl,zh],.int .i64 ez]) w):=by
 have M:=Lib.hid (((((Own.nil w).made #[.int .u8 3,(),(),(),(),(),(),(),(),(),(),(),(),(),al,io,(),true,true] 72).made #[i0,i1,i2,i3,i4,i5] 33).made #[o0,o1,o2,o3,o4,o5] 33).made #[(),()] 31)
 simp only [World.size_alloc] at M
 have eqF:=eq_floats
 go_enter Tryz.func67,Tryz.ntmps67
 go_upto_region 1 with fail
 go_step
 refine wpl_leaf (by kernel_rfl) rfl rfl (M.out.nth 3 rfl) ?_
 simp only [Act.put,go_sem]
 obtain⟨k1,k2,k3,k4,k5,k6⟩:=(M.out.nth 2 rfl).six
 obtain⟨k7,k8,k9,k10,k11,k12⟩:=(M.out.nth 1 rfl).six
 go_wp2_with fail
 refine (c1.out _ _ (M.out.nth 3 rfl)).mono ?_
 rintro r w1_ ⟨rfl,hb⟩
 replace M:=Lib.hid (M.out.below hb)
 clear hb
 clear k1 k2 k3 k4 k5 k6 k7 k8 k9 k10 k11 k12
 have kc:=(M.out.nth 0 rfl).2.1
 have kf:=(M.out.nth 0 rfl).2.2
 replace M:=Lib.hid (M.out.set2 0 rfl (.float .f64 zl) (.float .f64 zh))
 dsimp only [List.set] at M
 go_wp2
 obtain⟨f1,f2⟩:=(M.out.nth 0 rfl).two
 exact bodyPost_ret (v:=.tuple #[.agg #[.float .f64 zl,.float .f64 zh],.int .i64 ez]) (by simp [results,Tryz.results67,go_sem,f1,f2]) rfl ⟨rfl,M.out.base⟩
theorem valM0_walk {al p0 p1 p2 q0 q1 q2 i0 i1 i2 i3 i4 i5 o0 o1 o2 o3 o4 o5 zl zh:Nat} {ez:Int} (w:World)
   (c1:Hid (∀ (p q:Nat) (w:World),Has1 w (p,#[.int .u8 4,(),(),(),(),(),(),p0,p1,p2,q0,q1,q2,(),al,(),(),true,true])→Has1 w (q,#[true])→Calls Tryz.prog 86 #[.agg #[.int .u8 4,(),(),(),(),(),(),p0,p1,p2,q0,q1,q2,(),al,(),(),true,true],.agg #[i0,i1,i2,i3,i4,i5],.agg #[o0,o1,o2,o3,o4,o5],.func (.func 90) #[] #[.pointer (some ⟨p,0,none⟩),.pointer (some ⟨q,0,none⟩)]] w (Rt (.tuple #[.agg #[zl,zh],.int .i64 ez]) w))) :
   Calls Tryz.prog 70 #[.agg #[.int .u8 4,(),(),(),(),(),(),p0,p1,p2,q0,q1,q2,(),al,(),(),true,true],true,.agg #[i0,i1,i2,i3,i4,i5],.agg #[o0,o1,o2,o3,o4,o5]] w (Rt (.tuple #[.agg #[zl,zh],.int .i64 ez]) w):=by
 have M:=Lib.hid ((((((Own.nil w).made #[.int .u8 4,(),(),(),(),(),(),p0,p1,p2,q0,q1,q2,(),al,(),(),true,true] 72).made #[true] 3).made #[i0,i1,i2,i3,i4,i5] 33).made #[o0,o1,o2,o3,o4,o5] 33).made #[(),()] 31)
 simp only [World.size_alloc] at M
 have eqF:=eq_floats
 go_enter Tryz.func70,Tryz.ntmps70
 go_upto_region 1 with fail
 go_step
 refine wpl_leaf (by kernel_rfl) rfl rfl (M.out.nth 4 rfl) ?_
 simp only [Act.put,go_sem]
 obtain⟨k1,k2,k3,k4,k5,k6⟩:=(M.out.nth 2 rfl).six
 obtain⟨k7,k8,k9,k10,k11,k12⟩:=(M.out.nth 1 rfl).six
 go_wp2_with fail
 refine (c1.out _ _ _ (M.out.nth 4 rfl) (M.out.nth 3 rfl)).mono ?_
 rintro r w1_ ⟨rfl,hb⟩
 replace M:=Lib.hid (M.out.below hb)
 clear hb
 clear k1 k2 k3 k4 k5 k6 k7 k8 k9 k10 k11 k12
 have kc:=(M.out.nth 0 rfl).2.1
 have kf:=(M.out.nth 0 rfl).2.2
 replace M:=Lib.hid (M.out.set2 0 rfl (.float .f64 zl) (.float .f64 zh))
 dsimp only [List.set] at M
 go_wp2
 obtain⟨f1,f2⟩:=(M.out.nth 0 rfl).two
 exact bodyPost_ret (v:=.tuple #[.agg #[.float .f64 zl,.float .f64 zh],.int .i64 ez]) (by simp [results,Tryz.results70,go_sem,f1,f2]) rfl ⟨rfl,M.out.base⟩
theorem valM1_walk {al p0 p1 p2 q0 q1 q2 i0 i1 i2 i3 i4 i5 o0 o1 o2 o3 o4 o5 zl zh:Nat} {ez:Int} (w:World)
   (c1:Hid (∀ (p q:Nat) (w:World),Has1 w (p,#[.int .u8 4,(),(),(),(),(),(),p0,p1,p2,q0,q1,q2,(),al,(),(),true,true])→Has1 w (q,#[.int .i64 1])→Calls Tryz.prog 86 #[.agg #[.int .u8 4,(),(),(),(),(),(),p0,p1,p2,q0,q1,q2,(),al,(),(),true,true],.agg #[i0,i1,i2,i3,i4,i5],.agg #[o0,o1,o2,o3,o4,o5],.func (.func 90) #[] #[.pointer (some ⟨p,0,none⟩),.pointer (some ⟨q,0,none⟩)]] w (Rt (.tuple #[.agg #[zl,zh],.int .i64 ez]) w))) :
   Calls Tryz.prog 70 #[.agg #[.int .u8 4,(),(),(),(),(),(),p0,p1,p2,q0,q1,q2,(),al,(),(),true,true],.int .i64 1,.agg #[i0,i1,i2,i3,i4,i5],.agg #[o0,o1,o2,o3,o4,o5]] w (Rt (.tuple #[.agg #[zl,zh],.int .i64 ez]) w):=by
 have M:=Lib.hid ((((((Own.nil w).made #[.int .u8 4,(),(),(),(),(),(),p0,p1,p2,q0,q1,q2,(),al,(),(),true,true] 72).made #[.int .i64 1] 3).made #[i0,i1,i2,i3,i4,i5] 33).made #[o0,o1,o2,o3,o4,o5] 33).made #[(),()] 31)
 simp only [World.size_alloc] at M
 have eqF:=eq_floats
 go_enter Tryz.func70,Tryz.ntmps70
 go_upto_region 1 with fail
 go_step
 refine wpl_leaf (by kernel_rfl) rfl rfl (M.out.nth 4 rfl) ?_
 simp only [Act.put,go_sem]
 obtain⟨k1,k2,k3,k4,k5,k6⟩:=(M.out.nth 2 rfl).six
 obtain⟨k7,k8,k9,k10,k11,k12⟩:=(M.out.nth 1 rfl).six
 go_wp2_with fail
 refine (c1.out _ _ _ (M.out.nth 4 rfl) (M.out.nth 3 rfl)).mono ?_
 rintro r w1_ ⟨rfl,hb⟩
 replace M:=Lib.hid (M.out.below hb)
 clear hb
 clear k1 k2 k3 k4 k5 k6 k7 k8 k9 k10 k11 k12
 have kc:=(M.out.nth 0 rfl).2.1
 have kf:=(M.out.nth 0 rfl).2.2
 replace M:=Lib.hid (M.out.set2 0 rfl (.float .f64 zl) (.float .f64 zh))
 dsimp only [List.set] at M
 go_wp2
 obtain⟨f1,f2⟩:=(M.out.nth 0 rfl).two
 exact bodyPost_ret (v:=.tuple #[.agg #[.float .f64 zl,.float .f64 zh],.int .i64 ez]) (by simp [results,Tryz.results70,go_sem,f1,f2]) rfl ⟨rfl,M.out.base⟩
theorem valM2_walk {al p0 p1 p2 q0 q1 q2 i0 i1 i2 i3 i4 i5 o0 o1 o2 o3 o4 o5 zl zh:Nat} {ez:Int} (w:World)
   (c1:Hid (∀ (p q:Nat) (w:World),Has1 w (p,#[.int .u8 4,(),(),(),(),(),(),p0,p1,p2,q0,q1,q2,(),al,(),(),true,true])→Has1 w (q,#[.int .i64 2])→Calls Tryz.prog 86 #[.agg #[.int .u8 4,(),(),(),(),(),(),p0,p1,p2,q0,q1,q2,(),al,(),(),true,true],.agg #[i0,i1,i2,i3,i4,i5],.agg #[o0,o1,o2,o3,o4,o5],.func (.func 90) #[] #[.pointer (some ⟨p,0,none⟩),.pointer (some ⟨q,0,none⟩)]] w (Rt (.tuple #[.agg #[zl,zh],.int .i64 ez]) w))) :
   Calls Tryz.prog 70 #[.agg #[.int .u8 4,(),(),(),(),(),(),p0,p1,p2,q0,q1,q2,(),al,(),(),true,true],.int .i64 2,.agg #[i0,i1,i2,i3,i4,i5],.agg #[o0,o1,o2,o3,o4,o5]] w (Rt (.tuple #[.agg #[zl,zh],.int .i64 ez]) w):=by
 have M:=Lib.hid ((((((Own.nil w).made #[.int .u8 4,(),(),(),(),(),(),p0,p1,p2,q0,q1,q2,(),al,(),(),true,true] 72).made #[.int .i64 2] 3).made #[i0,i1,i2,i3,i4,i5] 33).made #[o0,o1,o2,o3,o4,o5] 33).made #[(),()] 31)
 simp only [World.size_alloc] at M
 have eqF:=eq_floats
 go_enter Tryz.func70,Tryz.ntmps70
 go_upto_region 1 with fail
 go_step
 refine wpl_leaf (by kernel_rfl) rfl rfl (M.out.nth 4 rfl) ?_
 simp only [Act.put,go_sem]
 obtain⟨k1,k2,k3,k4,k5,k6⟩:=(M.out.nth 2 rfl).six
 obtain⟨k7,k8,k9,k10,k11,k12⟩:=(M.out.nth 1 rfl).six
 go_wp2_with fail
 refine (c1.out _ _ _ (M.out.nth 4 rfl) (M.out.nth 3 rfl)).mono ?_
 rintro r w1_ ⟨rfl,hb⟩
 replace M:=Lib.hid (M.out.below hb)
 clear hb
 clear k1 k2 k3 k4 k5 k6 k7 k8 k9 k10 k11 k12
 have kc:=(M.out.nth 0 rfl).2.1
 have kf:=(M.out.nth 0 rfl).2.2
 replace M:=Lib.hid (M.out.set2 0 rfl (.float .f64 zl) (.float .f64 zh))
 dsimp only [List.set] at M
 go_wp2
 obtain⟨f1,f2⟩:=(M.out.nth 0 rfl).two
 exact bodyPost_ret (v:=.tuple #[.agg #[.float .f64 zl,.float .f64 zh],.int .i64 ez]) (by simp [results,Tryz.results70,go_sem,f1,f2]) rfl ⟨rfl,M.out.base⟩
end
end Go.Proofs.YtmkgfflebfpcdaaGreat
