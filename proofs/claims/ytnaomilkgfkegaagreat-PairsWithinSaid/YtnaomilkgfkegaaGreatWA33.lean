/- What the claim stands on, part 34: GgB, PaWM. -/
import Derived.Test.YtnaomilkgfkegaaGreatWA32
import Derived.Test.YtnaomilkgfkegaaGreatWA26
import Derived.Test.YtnaomilkgfkegaaGreatWA18
import Derived.Deep.RegionHeld3
set_option maxHeartbeats 16000000
set_option maxRecDepth 100000
namespace Go.Proofs.YtnaomilkgfkegaaGreat
section
open Go.RowKit
structure Wr (a:Res):Prop where
 lo:a.lo < 18446744073709551616
 hi:a.hi < 18446744073709551616
 rlo:rightB a.lo=true
 rhi:rightB a.hi=true
theorem Fit.wr {a:Res} (h:Fit a):Wr a:=⟨h.lo,h.hi,h.rlo,h.rhi⟩
theorem wr_nil {r:Res} (h:Nil0 r) (he:r.e≠0):Wr r:=by
 obtain⟨h1,h2⟩:=h he;exact ⟨by rw [h1]; decide,by rw [h2]; decide,by rw [h1]; decide,by rw [h2]; decide⟩
def stD (e:Int) (a b:Res):Res:=stepI e (ivR a.lo a.hi&&ivR b.lo b.hi) (divR a b)
def stU (e:Int) (x:Nat):Res:=stepI e true (ofI x)
theorem st2_wr {j:Nat} (hj:j < 6) (e:Int) {a b:Res} (ha:Wr a) (hb:Wr b):Wr (stepI e (ivR a.lo a.hi&&ivR b.lo b.hi) (askI a.lo a.hi b.lo b.hi j)):=by
 by_cases h:(stepI e (ivR a.lo a.hi&&ivR b.lo b.hi) (askI a.lo a.hi b.lo b.hi j)).e=0
 ·obtain⟨_,h2,h3⟩:=st_none h
  rw [Bool.and_eq_true] at h2;rw [h3] at h ⊢;obtain⟨n1,n2,n3,n4⟩:=ask_nums a.lo a.hi b.lo b.hi j (by omega) ha.lo ha.hi hb.lo hb.hi h2.1 h2.2 h;exact ⟨n1,n3,n2,n4⟩
 ·refine wr_nil ?_ h
  have hn:=ask_nil e a.lo a.hi b.lo b.hi j (by omega)
  rcases (show j=0∨j=1∨j=2∨j=3∨j=4∨j=5 by omega) with rfl | rfl | rfl | rfl | rfl | rfl <;> exact hn
theorem st1_wr {j:Nat} (hj:j=6∨j=7) (e:Int) {a:Res} (ha:Wr a):Wr (stepI e (ivR a.lo a.hi) (askI a.lo a.hi a.lo a.hi j)):=by
 by_cases h:(stepI e (ivR a.lo a.hi) (askI a.lo a.hi a.lo a.hi j)).e=0
 ·obtain⟨_,h2,h3⟩:=st_none h
  rw [h3] at h ⊢;obtain⟨n1,n2,n3,n4⟩:=ask_nums a.lo a.hi a.lo a.hi j (by omega) ha.lo ha.hi ha.lo ha.hi h2 h2 h;exact ⟨n1,n3,n2,n4⟩
 ·refine wr_nil ?_ h
  have hn:=ask_nil e a.lo a.hi a.lo a.hi j (by omega)
  rcases hj with rfl | rfl <;> exact hn
theorem stU_wr (e:Int) {x:Nat} (f:Fit (oneR x)):Wr (stU e x):=by
 unfold stU stepI ofI;have rx:rightB x=true:=f.rlo
 have lx:x < 18446744073709551616:=f.lo
 rw [if_pos rfl,if_pos rx]
 split
 ·exact ⟨lx,lx,rx,rx⟩
 ·exact ⟨show 0 < 18446744073709551616 by decide,show 0 < 18446744073709551616 by decide,right_0,right_0⟩
theorem nn_wr {a:Res} (h:Wr a):Wr (nnR a):=by
 obtain⟨l1,l2,_⟩:=max_facts a.lo 0 h.lo (by decide) h.rlo (by decide);obtain⟨k1,k2,_⟩:=max_facts a.hi 0 h.hi (by decide) h.rhi (by decide);exact ⟨l1,k1,l2,k2⟩
section
variable {a b:Res} (e:Int) (ha:Wr a) (hb:Wr b)
include ha hb in
theorem stA_wr:Wr (stA e a b):=st2_wr (j:=0) (by decide) e ha hb
include ha hb in
theorem stS_wr:Wr (stS e a b):=st2_wr (j:=1) (by decide) e ha hb
include ha hb in
theorem stM_wr:Wr (stM e a b):=st2_wr (j:=2) (by decide) e ha hb
include ha hb in
theorem stD_wr:Wr (stD e a b):=st2_wr (j:=3) (by decide) e ha hb
include ha in
theorem stQ_wr:Wr (stQ e a):=st1_wr (j:=6) (by decide) e ha
include ha in
theorem stR_wr:Wr (stR e a):=st1_wr (j:=7) (by decide) e ha
end
abbrev C0 (f:FuncId) (pb:Nat) (e:Int) (xs:Array Value) (R:Res):Prop:=∀ v:World,v.cell? ⟨pb,0,none⟩=some (.int .i64 e)→v.frozen? ⟨pb,0,none⟩=false →
 Calls Tryz.prog f (#[.pointer (some ⟨pb,0,none⟩)]++xs) v fun r w'=>r = .returned (.agg #[R.lo,R.hi])∧Put ⟨pb,0,none⟩ (.int .i64 R.e) v w'
section
variable {a b:Res} (e:Int) (ha:Wr a) (hb:Wr b) (pb:Nat)
theorem s_num {x:Nat} (f:Fit (oneR x)):C0 35 pb e #[x] (stU e x):=fun v hc hf=>told_e (cNum_any e x pb 0 v f.lo hc hf)
include ha hb in
theorem s_add:C0 103 pb e #[.agg #[a.lo,a.hi],.agg #[b.lo,b.hi]] (stA e a b):=fun v hc hf=>told_e (cAdd_any e a.lo a.hi b.lo b.hi pb 0 v ha.lo ha.hi hb.lo hb.hi hc hf)
include ha hb in
theorem s_sub:C0 34 pb e #[.agg #[a.lo,a.hi],.agg #[b.lo,b.hi]] (stS e a b):=fun v hc hf=>told_e (cSub_any e a.lo a.hi b.lo b.hi pb 0 v ha.lo ha.hi hb.lo hb.hi hc hf)
include ha hb in
theorem s_mul:C0 32 pb e #[.agg #[a.lo,a.hi],.agg #[b.lo,b.hi]] (stM e a b):=fun v hc hf=>told_e (cMul_any e a.lo a.hi b.lo b.hi pb 0 v ha.lo ha.hi hb.lo hb.hi hc hf)
include ha hb in
theorem s_div:C0 60 pb e #[.agg #[a.lo,a.hi],.agg #[b.lo,b.hi]] (stD e a b):=fun v hc hf=>told_e (cDiv_any e a.lo a.hi b.lo b.hi pb 0 v ha.lo ha.hi hb.lo hb.hi hc hf)
include ha in
theorem s_sqr:C0 104 pb e #[.agg #[a.lo,a.hi]] (stQ e a):=fun v hc hf=>told_e (cSqr_any e a.lo a.hi pb 0 v ha.lo ha.hi hc hf)
include ha in
theorem s_sqrt:C0 30 pb e #[.agg #[a.lo,a.hi]] (stR e a):=fun v hc hf=>told_e (cSqrt_any e a.lo a.hi pb 0 v ha.lo ha.hi hc hf)
end
theorem stU_plain {x:Nat} (f:Fit (oneR x)):stU 0 x=oneR x:=by
 unfold stU stepI ofI
 rw [if_pos rfl,if_pos rfl,if_pos (show rightB x=true from f.rlo)]; rfl
abbrev sur (e:Int) (a i o:Res):Array Value:=#[.int .i64 e,.float .f64 a.lo,.float .f64 a.hi,.float .f64 i.lo,.float .f64 i.hi,.float .f64 o.lo,.float .f64 o.hi]
abbrev Met1 (f:FuncId) (e e':Int) (a i o r:Res):Prop:=∀ (pb:Nat) (v:World),Has1 v (pb,sur e a i o)→Calls Tryz.prog f #[.pointer (some ⟨pb,0,none⟩)] v fun x w'=>x = .returned (.agg #[r.lo,r.hi])∧Put ⟨pb,0,none⟩ (.int .i64 e') v w'
def Lt.k1 (e:Int):Res:=stU e u1
def Lt.k2 (e:Int) (c:Res):Res:=stQ (Lt.k1 e).e c
def Lt.k3 (e:Int) (c:Res):Res:=stS (Lt.k2 e c).e (Lt.k1 e) (Lt.k2 e c)
def Lt.k4 (e:Int) (c:Res):Res:=stQ (Lt.k3 e c).e c
def Lt.k5 (e:Int) (c:Res):Res:=stD (Lt.k4 e c).e (Lt.k3 e c) (Lt.k4 e c)
def Lt.k6 (e:Int) (c:Res):Res:=stU (Lt.k5 e c).e uh
def Lt.k7 (e:Int) (c a:Res):Res:=stQ (Lt.k6 e c).e a
def Lt.k8 (e:Int) (c a:Res):Res:=stM (Lt.k7 e c a).e (Lt.k7 e c a) (Lt.k5 e c)
def Lt.k9 (e:Int) (c a:Res):Res:=stA (Lt.k8 e c a).e (Lt.k1 e) (Lt.k8 e c a)
def Lt.k10 (e:Int) (c a:Res):Res:=stR (Lt.k9 e c a).e (Lt.k9 e c a)
def Lt.k11 (e:Int) (c a:Res):Res:=stS (Lt.k10 e c a).e (Lt.k10 e c a) (Lt.k1 e)
def Lt.k12 (e:Int) (c a:Res):Res:=stM (Lt.k11 e c a).e (Lt.k6 e c) (Lt.k11 e c a)
theorem not_call {r:Res} (h:Wr r) (w:World):Calls Tryz.prog 229 #[.agg #[r.lo,r.hi]] w (Rt (.agg #[.float .f64 (nnR r).lo,.float .f64 (nnR r).hi]) w):=
 gnot_walk w (m_yl:=fun ts t w=>(run_less r.lo 0 h.lo (by decide) h.rlo (by decide) ts t w).2) (m_yh:=fun ts t w=>(run_less r.hi 0 h.hi (by decide) h.rhi (by decide) ts t w).2)
section
variable {c a i o:Res}
theorem a2_call (e:Int) (wa:Wr a):Met1 225 e (stQ e a).e a i o (stQ e a):=fun pb v h=>ga2_walk v (hC:=Hd h) (d1:=Hd (s_sqr e wa pb))
theorem lam_wr (e:Int) (wc:Wr c) (wa:Wr a):Wr (Lt.k1 e)∧Wr (Lt.k2 e c)∧Wr (Lt.k3 e c)∧Wr (Lt.k5 e c)∧Wr (Lt.k6 e c)∧Wr (Lt.k7 e c a)∧Wr (Lt.k8 e c a)∧Wr (Lt.k9 e c a)∧Wr (Lt.k10 e c a)∧Wr (Lt.k11 e c a)∧Wr (Lt.k12 e c a)∧Wr (Lt.k4 e c):=by
 have w1:Wr (Lt.k1 e):=stU_wr e u1_fit;have w2:Wr (Lt.k2 e c):=stQ_wr _ wc;have w3:Wr (Lt.k3 e c):=stS_wr _ w1 w2;have w4:Wr (Lt.k4 e c):=stQ_wr _ wc;have w5:Wr (Lt.k5 e c):=stD_wr _ w3 w4;have w6:Wr (Lt.k6 e c):=stU_wr _ uh_fit;have w7:Wr (Lt.k7 e c a):=stQ_wr _ wa;have w8:Wr (Lt.k8 e c a):=stM_wr _ w7 w5;have w9:Wr (Lt.k9 e c a):=stA_wr _ w1 w8;have w10:Wr (Lt.k10 e c a):=stR_wr _ w9;have w11:Wr (Lt.k11 e c a):=stS_wr _ w10 w1;exact ⟨w1,w2,w3,w5,w6,w7,w8,w9,w10,w11,stM_wr _ w6 w11,w4⟩
theorem lam_call (e:Int) (wc:Wr c) (wa:Wr a) (pb:Nat) (v:World) (h:Has1 v (pb,sur e a i o)) :
  Calls Tryz.prog 227 #[.pointer (some ⟨pb,0,none⟩),.agg #[c.lo,c.hi]] v fun x w'=>x = .returned (.agg #[.float .f64 (nnR (Lt.k12 e c a)).lo,.float .f64 (nnR (Lt.k12 e c a)).hi])∧Put ⟨pb,0,none⟩ (.int .i64 (Lt.k12 e c a).e) v w':=by
 obtain⟨w1,w2,w3,w5,w6,w7,w8,w9,w10,w11,w12,w4⟩:=lam_wr e wc wa
 exact glambda_walk v (hC:=Hd h) (d1:=Hd (s_num e pb u1_fit)) (d2:=Hd (s_sqr (Lt.k1 e).e wc pb)) (d3:=Hd (s_sub (Lt.k2 e c).e w1 w2 pb)) (d4:=Hd (s_sqr (Lt.k3 e c).e wc pb)) (d5:=Hd (s_div (Lt.k4 e c).e w3 w4 pb))
  (d6:=Hd (s_num (Lt.k5 e c).e pb uh_fit)) (d7:=Hd fun v h=>a2_call (Lt.k6 e c).e wa pb v h) (d8:=Hd (s_mul (Lt.k7 e c a).e w7 w5 pb)) (d9:=Hd (s_add (Lt.k8 e c a).e w1 w8 pb)) (d10:=Hd (s_sqrt (Lt.k9 e c a).e w9 pb)) (d11:=Hd (s_sub (Lt.k10 e c a).e w10 w1 pb)) (d12:=Hd (s_mul (Lt.k11 e c a).e w6 w11 pb))
  (c13:=Hd fun w=>not_call w12 w)
structure LF0 (c a:Res):Prop where
 t:Fit (Gx.t c)
 m:Fit (Gx.m c a)
 p:Fit (Gx.p c a)
 r:Fit (Gx.r c a)
 d:Fit (Gx.d c a)
 h:Fit (Gx.h c a)
 l:Fit (Gx.l c a)
theorem LF.zero (L:LF c a):LF0 c a:=⟨L.t,L.m,L.p,L.r,L.d,L.h,L.l⟩
theorem lam_plain {e:Int} (he:e=0) (K:GF c a) (L:LF0 c a) (fc:Fit c) (fa:Fit a):Lt.k12 e c a=Gx.h c a:=by
 subst he;have e1:Lt.k1 0=oneR u1:=stU_plain u1_fit
 have e2:Lt.k2 0 c=Gx.c2 c:=by unfold Lt.k2; rw [e1]; exact step_one fc _
 have e3:Lt.k3 0 c=Gx.n c:=by unfold Lt.k3; rw [e1,e2,K.c2.e]; exact step_two u1_fit K.c2 _
 have e4:Lt.k4 0 c=Gx.c2 c:=by unfold Lt.k4; rw [e3,K.n.e]; exact step_one fc _
 have e5:Lt.k5 0 c=Gx.t c:=by unfold Lt.k5; rw [e3,e4,K.c2.e]; exact step_two K.n K.c2 _
 have e6:Lt.k6 0 c=oneR uh:=by unfold Lt.k6; rw [e5,L.t.e]; exact stU_plain uh_fit
 have e7:Lt.k7 0 c a=Gx.a2 a:=by unfold Lt.k7; rw [e6]; exact step_one fa _
 have e8:Lt.k8 0 c a=Gx.m c a:=by unfold Lt.k8; rw [e7,e5,K.a2.e]; exact step_two K.a2 L.t _
 have e9:Lt.k9 0 c a=Gx.p c a:=by unfold Lt.k9; rw [e8,e1,L.m.e]; exact step_two u1_fit L.m _
 have e10:Lt.k10 0 c a=Gx.r c a:=by unfold Lt.k10; rw [e9,L.p.e]; exact step_one L.p _
 have e11:Lt.k11 0 c a=Gx.d c a:=by unfold Lt.k11; rw [e10,e1,L.r.e]; exact step_two L.r u1_fit _
 unfold Lt.k12;rw [e11,e6,L.d.e];exact step_two uh_fit L.d _
theorem lam_none {e:Int} (h:(Lt.k12 e c a).e=0) (K:GF c a) (fc:Fit c) (fa:Fit a):e=0∧LF0 c a:=by
 have h11:=(st_none h).1;have h10:=(st_none h11).1;have h9:=(st_none h10).1;have h8:=(st_none h9).1;have h7:=(st_none h8).1;have h6:=(st_none h7).1;have h5:=(st_none h6).1;have h4:=(st_none h5).1;have h3:=(st_none h4).1;have h2:=(st_none h3).1;have h1:=(st_none h2).1;have h0:=(st_none h1).1;subst h0;have e1:Lt.k1 0=oneR u1:=stU_plain u1_fit
 have e2:Lt.k2 0 c=Gx.c2 c:=by unfold Lt.k2; rw [e1]; exact step_one fc _
 have e3:Lt.k3 0 c=Gx.n c:=by unfold Lt.k3; rw [e1,e2,K.c2.e]; exact step_two u1_fit K.c2 _
 have e4:Lt.k4 0 c=Gx.c2 c:=by unfold Lt.k4; rw [e3,K.n.e]; exact step_one fc _
 have e5:Lt.k5 0 c=Gx.t c:=by unfold Lt.k5; rw [e3,e4,K.c2.e]; exact step_two K.n K.c2 _
 rw [e5] at h5;have ft:Fit (Gx.t c):=ask_fit (Gx.n c) (Gx.c2 c) 3 (by decide) K.n K.c2 h5
 have e6:Lt.k6 0 c=oneR uh:=by unfold Lt.k6; rw [e5,h5]; exact stU_plain uh_fit
 have e7:Lt.k7 0 c a=Gx.a2 a:=by unfold Lt.k7; rw [e6]; exact step_one fa _
 have e8:Lt.k8 0 c a=Gx.m c a:=by unfold Lt.k8; rw [e7,e5,K.a2.e]; exact step_two K.a2 ft _
 rw [e8] at h8;have fm:Fit (Gx.m c a):=ask_fit (Gx.a2 a) (Gx.t c) 2 (by decide) K.a2 ft h8
 have e9:Lt.k9 0 c a=Gx.p c a:=by unfold Lt.k9; rw [e8,e1,h8]; exact step_two u1_fit fm _
 rw [e9] at h9;have fp:Fit (Gx.p c a):=ask_fit (oneR u1) (Gx.m c a) 0 (by decide) u1_fit fm h9
 have e10:Lt.k10 0 c a=Gx.r c a:=by unfold Lt.k10; rw [e9,h9]; exact step_one fp _
 rw [e10] at h10;have fr:Fit (Gx.r c a):=ask_fit (Gx.p c a) (Gx.p c a) 7 (by decide) fp fp h10
 have e11:Lt.k11 0 c a=Gx.d c a:=by unfold Lt.k11; rw [e10,e1,h10]; exact step_two fr u1_fit _
 rw [e11] at h11;have fd:Fit (Gx.d c a):=ask_fit (Gx.r c a) (oneR u1) 1 (by decide) fr u1_fit h11
 have e12:Lt.k12 0 c a=Gx.h c a:=by unfold Lt.k12; rw [e11,e6,h11]; exact step_two uh_fit fd _
 rw [e12] at h;have fh:Fit (Gx.h c a):=ask_fit (oneR uh) (Gx.d c a) 2 (by decide) uh_fit fd h;exact ⟨rfl,ft,fm,fp,fr,fd,fh,nn_fit fh⟩
end
section
variable {c a i o:Res}
theorem spread_call (K:GF o a) (fo:Fit o) (fa:Fit a):Met1 226 0 0 a i o (Gx.sp o a):=fun pb v h=>by
 have e1:stU 0 u1=oneR u1:=stU_plain u1_fit;have e2:stQ 0 a=Gx.a2 a:=step_one fa _;have e3:stS 0 (Gx.a2 a) (oneR u1)=Gx.s1 a:=step_two K.a2 u1_fit _;have e4:stQ 0 o=Gx.c2 o:=step_one fo _;have e5:stM 0 (Gx.s1 a) (Gx.c2 o)=Gx.pm o a:=step_two K.s1 K.c2 _;have e6:stA 0 (Gx.pm o a) (oneR u1)=Gx.sp o a:=step_two K.pm u1_fit _;have d1:=s_num 0 pb u1_fit
 have d2:=fun v h=>a2_call (i:=i) (o:=o) 0 fa.wr pb v h
 have d3:=s_sub 0 K.a2.wr u1_fit.wr pb;have d4:=s_sqr 0 fo.wr pb;have d5:=s_mul 0 K.s1.wr K.c2.wr pb;have d6:=s_add 0 K.pm.wr u1_fit.wr pb;rw [e1] at d1;rw [e2,K.a2.e] at d2;rw [e3] at d3;rw [e4] at d4;rw [e5] at d5;rw [e6] at d6;have x3:=K.s1.e;have x4:=K.c2.e;have x5:=K.pm.e;have x6:=K.sp.e;unfold C0 at d1 d3 d4 d5 d6;rw [x3] at d3;rw [x4] at d4;rw [x5] at d5;rw [x6] at d6;exact gspread_walk v (hC:=Hd h) (d1:=Hd d1) (d2:=Hd d2) (d3:=Hd d3) (d4:=Hd d4) (d5:=Hd d5) (d6:=Hd d6)
theorem dist_call (K:GF o a) (fo:Fit o) (fa:Fit a):Met1 219 0 0 a i o (Gx.D o a):=fun pb v h=>by
 have e2:stQ 0 a=Gx.a2 a:=step_one fa _;have e4:stQ 0 (Gx.sp o a)=Gx.sq o a:=step_one K.sp _;have e5:stM 0 piR (Gx.sq o a)=Gx.pq o a:=step_two big_fit.1 K.sq _;have e6:stD 0 (Gx.a2 a) (Gx.pq o a)=Gx.D o a:=step_two K.a2 K.pq _
 have d1:=fun v h=>a2_call (i:=i) (o:=o) 0 fa.wr pb v h
 have d4:=s_sqr 0 K.sp.wr pb;have d5:=s_mul 0 big_fit.1.wr K.sq.wr pb;have d6:=s_div 0 K.a2.wr K.pq.wr pb;rw [e2,K.a2.e] at d1;rw [e4] at d4;rw [e5] at d5;rw [e6] at d6;have x4:=K.sq.e;have x5:=K.pq.e;have x6:=K.D.e;unfold C0 at d4 d5 d6;rw [x4] at d4;rw [x5] at d5;rw [x6] at d6;exact gdist_walk v (hC:=Hd h) (d1:=Hd d1) (c2:=Hd fun w=>pi_any w) (d3:=Hd fun v h=>spread_call K fo fa pb v h) (d4:=Hd d4) (d5:=Hd d5) (d6:=Hd d6)
def Vt.k3 (o a:Res):Res:=stA (Lt.k12 0 o a).e (oneR u1) (nnR (Lt.k12 0 o a))
def Vt.k4 (o a:Res):Res:=stD (Vt.k3 o a).e (oneR u1) (Vt.k3 o a)
def Wt.y (i o a:Res):Res:=Lt.k12 (Vt.k3 i a).e o a
def Wt.k4 (i o a:Res):Res:=stA (Wt.y i o a).e (Vt.k3 i a) (nnR (Wt.y i o a))
def Wt.k5 (i o a:Res):Res:=stD (Wt.k4 i o a).e (oneR u1) (Wt.k4 i o a)
theorem lam_last (e:Int) (wc:Wr c) (wa:Wr a):Wr (Lt.k12 e c a):=(lam_wr e wc wa).2.2.2.2.2.2.2.2.2.2.1
theorem visible_call (wo:Wr o) (wa:Wr a):Met1 221 0 (Vt.k4 o a).e a i o (Vt.k4 o a):=fun pb v h=>by
 have e1:stU 0 u1=oneR u1:=stU_plain u1_fit;have d1:=s_num 0 pb u1_fit;rw [e1] at d1;have w:=nn_wr (lam_last 0 wo wa);have w3:Wr (Vt.k3 o a):=stA_wr _ u1_fit.wr w;exact gvisible_walk v (hC:=Hd h) (d1:=Hd d1) (d2:=Hd d1) (d3:=Hd fun v h=>lam_call 0 wo wa pb v h) (d4:=Hd (s_add (Lt.k12 0 o a).e u1_fit.wr w pb)) (d5:=Hd (s_div (Vt.k3 o a).e u1_fit.wr w3 pb))
theorem two_call (wi:Wr i) (wo:Wr o) (wa:Wr a):Met1 220 0 (Wt.k5 i o a).e a i o (Wt.k5 i o a):=fun pb v h=>by
 have e1:stU 0 u1=oneR u1:=stU_plain u1_fit;have d1:=s_num 0 pb u1_fit;rw [e1] at d1;have w:=nn_wr (lam_last 0 wi wa);have w3:Wr (Vt.k3 i a):=stA_wr _ u1_fit.wr w;have w':Wr (nnR (Wt.y i o a)):=nn_wr (lam_last _ wo wa);have w4:Wr (Wt.k4 i o a):=stA_wr _ w3 w';exact gtwo_walk v (hC:=Hd h) (d1:=Hd d1) (d2:=Hd d1) (d3:=Hd fun v h=>lam_call 0 wi wa pb v h) (d4:=Hd (s_add (Lt.k12 0 i a).e u1_fit.wr w pb)) (d5:=Hd fun v h=>lam_call (Vt.k3 i a).e wo wa pb v h) (d6:=Hd (s_add (Wt.y i o a).e w3 w' pb)) (d7:=Hd (s_div (Wt.k4 i o a).e u1_fit.wr w4 pb))
theorem within_call {r R:Res} (h:In r R) (fR:Fit R) (w:World):Calls Tryz.prog 228 #[.agg #[r.lo,r.hi],R.lo,R.hi] w (Rt (.bool true) w):=
 gwithin_walk w ((order_le _ _ fR.lo h.fit.lo fR.rlo h.fit.rlo).trans (decide_eq_true h.lo)) ((order_le _ _ h.fit.hi fR.hi h.fit.rhi fR.rhi).trans (decide_eq_true h.hi))
theorem gcheck_call (hi:In i ouI) (ho:In o ouI) (ha:In a aI) (e:Int) (pb:Nat) (v:World) (h:Has1 v (pb,sur e a i o)) :
  Calls Tryz.prog 224 #[.pointer (some ⟨pb,0,none⟩)] v (Rt (.int .i64 0) v):=
 gcheck_walk v (hC:=Hd h) (c1:=Hd (right_in hi.fit)) (c2:=Hd (right_in ho.fit)) (c3:=Hd (right_in ha.fit)) (c4:=Hd fun w=>within_call hi ou_fit w) (c5:=Hd fun w=>within_call ho ou_fit w) (c6:=Hd fun w=>within_call ha aI_fit w)
abbrev Top2 (f:FuncId) (c a r:Res) (e:Int):Prop:=∀ w,Calls Tryz.prog f #[.agg #[c.lo,c.hi],.agg #[a.lo,a.hi]] w fun x w'=>x = .returned (.tuple #[.agg #[r.lo,r.hi],.int .i64 e])∧Below w.heap.size w w'
theorem D_any (hc:In c ouI) (ha:In a aI):Top2 206 c a (Gx.D c a) 0:=fun w =>
 gD_walk w (c1:=Hd fun q v h=>ganswer_distribution v (hC:=Hd h) (cK:=Hd fun v h=>gcheck_call nil_in hc ha 0 q v h) (d2:=Hd fun v h=>dist_call (i:=oneR 0) (g_in hc ha).fits hc.fit ha.fit q v h))
theorem G1_any (hc:In c ouI) (ha:In a aI):Top2 208 c a (Vt.k4 c a) (Vt.k4 c a).e:=fun w =>
 gG1_walk w (c1:=Hd fun q v h=>ganswer_visible v (hC:=Hd h) (cK:=Hd fun v h=>gcheck_call nil_in hc ha 0 q v h) (d2:=Hd fun v h=>visible_call (i:=oneR 0) hc.fit.wr ha.fit.wr q v h))
theorem G2_any (hi:In i ouI) (ho:In o ouI) (ha:In a aI) (w:World):Calls Tryz.prog 207 #[.agg #[i.lo,i.hi],.agg #[o.lo,o.hi],.agg #[a.lo,a.hi]] w (Rt (.tuple #[.agg #[.float .f64 (Wt.k5 i o a).lo,.float .f64 (Wt.k5 i o a).hi],.int .i64 (Wt.k5 i o a).e]) w):=
 gG2_walk w (c1:=Hd fun q v h=>ganswer_visibleForTwo v (hC:=Hd h) (cK:=Hd fun v h=>gcheck_call hi ho ha 0 q v h) (d2:=Hd fun v h=>two_call hi.fit.wr ho.fit.wr ha.fit.wr q v h))
theorem q_plain (K:GF c a) (L:LF0 c a) (fc:Fit c) (fa:Fit a):Vt.k3 c a=Gx.q c a:=by
 unfold Vt.k3;rw [lam_plain rfl K L fc fa,L.h.e];exact step_two u1_fit L.l _
theorem G1_plain (K:GF c a) (L:LF c a) (fc:Fit c) (fa:Fit a):Vt.k3 c a=Gx.q c a∧Vt.k4 c a=Gx.v c a:=by
 have e3:=q_plain K L.zero fc fa;refine ⟨e3,?_⟩;unfold Vt.k4;rw [e3,L.q.e];exact step_two u1_fit L.q _
theorem G2_plain (Ki:GF i a) (Li:LF0 i a) (fq:Fit (Gx.q i a)) (Ko:GF o a) (Lo:LF0 o a) (fi:Fit i) (fo:Fit o) (fa:Fit a) (f2:Fit (Gx.q2 i o a)):Wt.k5 i o a=Gx.w i o a:=by
 have e3:=q_plain Ki Li fi fa
 have ey:Wt.y i o a=Gx.h o a:=by unfold Wt.y; exact lam_plain (by rw [e3]; exact fq.e) Ko Lo fo fa
 have e4:Wt.k4 i o a=Gx.q2 i o a:=by unfold Wt.k4; rw [ey,e3,Lo.h.e]; exact step_two fq Lo.l _
 unfold Wt.k5;rw [e4,f2.e];exact step_two u1_fit f2 _
theorem G2_none (hi:In i ouI) (ho:In o ouI) (ha:In a aI) (h:(Wt.k5 i o a).e=0):LF0 i a∧Fit (Gx.q i a)∧LF0 o a∧Fit (Gx.q2 i o a)∧Fit (Gx.w i o a)∧Wt.k5 i o a=Gx.w i o a:=by
 have Ki:=(g_in hi ha).fits;have Ko:=(g_in ho ha).fits;have h4:=(st_none h).1;have hy:=(st_none h4).1;obtain⟨h3,Lo⟩:=lam_none hy Ko ho.fit ha.fit;obtain⟨_,Li⟩:=lam_none (st_none h3).1 Ki hi.fit ha.fit;have e3:=q_plain Ki Li hi.fit ha.fit;rw [e3] at h3;have fq:Fit (Gx.q i a):=ask_fit (oneR u1) (Gx.l i a) 0 (by decide) u1_fit Li.l h3
 have ey:Wt.y i o a=Gx.h o a:=by unfold Wt.y; exact lam_plain (by rw [e3]; exact fq.e) Ko Lo ho.fit ha.fit
 have e4:Wt.k4 i o a=Gx.q2 i o a:=by unfold Wt.k4; rw [ey,e3,Lo.h.e]; exact step_two fq Lo.l _
 rw [e4] at h4;have f2:Fit (Gx.q2 i o a):=ask_fit (Gx.q i a) (Gx.l o a) 0 (by decide) fq Lo.l h4;have e5:=G2_plain Ki Li fq Ko Lo hi.fit ho.fit ha.fit f2;rw [e5] at h;exact ⟨Li,fq,Lo,f2,ask_fit (oneR u1) (Gx.q2 i o a) 3 (by decide) u1_fit f2 h,e5⟩
theorem li0_of {C A:Res} (K:GF C A) (L:LF0 C A) (fc:Fit C) (fa:Fit A) (hc:In c C) (ha:In a A):LF0 c a∧In (Gx.l c a) (Gx.l C A):=by
 have I:=gi_of K fc fa hc ha;have i1:In (Gx.t c) (Gx.t C):=div_in I.n K.n I.c2 K.c2 L.t.e;have i2:In (Gx.m c a) (Gx.m C A):=mul_in I.a2 K.a2 i1 L.t L.m.e;have i3:In (Gx.p c a) (Gx.p C A):=add_in (.refl u1_fit) u1_fit i2 L.m L.p.e;have i4:In (Gx.r c a) (Gx.r C A):=sqrt_in i3 L.p L.r.e;have i5:In (Gx.d c a) (Gx.d C A):=sub_in i4 L.r (.refl u1_fit) u1_fit L.d.e;have i6:In (Gx.h c a) (Gx.h C A):=mul_in (.refl uh_fit) uh_fit i5 L.d L.h.e;have i7:In (Gx.l c a) (Gx.l C A):=nn_in i6 L.h;exact ⟨⟨i1.fit,i2.fit,i3.fit,i4.fit,i5.fit,i6.fit,i7.fit⟩,i7⟩
end
end
section
open Go.RowKit
attribute [local go_sem] run_store_float
section
variable {P:Program} {ops:Array Oper} {Q:Exit→Act→World→Prop} {md:Region.Mode} {S:World→Prop}
theorem lp_cc_2 {a0:Act} {B v:World} {l:List (Nat×Array Value)} (_:Hid (Own B l v)) {w0:World} {L0:Array Bool} (c1 c2 m1 m2:Nat) (slots:List Nat) (N:Nat) (J:List (Nat×Array Value)→Act→Nat→List (Option Nat)→Act→World→Prop) (hok:latOkP [false,false] md ops L0 [c1,c2] [m1,m2]=true)
  (hsl:(slots.all fun s=>decide (s < a0.tmps.size))=true) (h0:∀ A:Act,(∀ s,s∈slots→s < A.tmps.size)→J l A 0 (List.replicate 2 none) A w0)
  (hS:∀ k p a w,J l a0 k p a w→S w)
  (k1:∀ p a w,J l a0 0 p a w→wpOp P ops Q c1 (fun b v=>J l a0 1 p b v) a w)
  (k2:∀ p a w,J l a0 1 p a w→wpOp P ops Q c2 (fun b v=>J l a0 2 p b v) a w)
  (n1:∀ k p a w,p[0]? = some none→J l a0 k p a w→wpOp P ops Q m1 (fun b v=>∃ q,J l a0 k (p.set 0 (some q)) b v) a w)
  (n2:∀ k p a w,p[1]? = some none→J l a0 k p a w→wpOp P ops Q m2 (fun b v=>∃ q,J l a0 k (p.set 1 (some q)) b v) a w)
  (fin:∀ q1 q2 a w,J l a0 2 [some q1,some q2] a w→wpAnyV P md ops Q S [] N (lstOf L0 [c1,c2] [m1,m2] 2 [true,true]) a w) :
  wpAnyV P md ops Q S [] (N+4) L0 a0 w0:=by
 refine latP_from (pl:=[false,false]) [c1,c2] [m1,m2] slots N 4 (J l) hok rfl hsl h0 hS (fun k i p a w hk hn hJ=>?_) (fun k i p a w hk hn hJ=>?_) (fun k m i p a w hm hp hJ=>?_) (fun p a w hp hall hJ=>?_)
 ·rcases k with _ | _ | k
  ·obtain rfl:c1=i:=by simpa using hk
   exact k1 p a w hJ
  ·obtain rfl:c2=i:=by simpa using hk
   exact k2 p a w hJ
  ·simp at hk
 ·rcases k with _ | _ | k
  ·exact absurd hn (by decide)
  ·exact absurd hn (by decide)
  ·simp at hk
 ·rcases m with _ | _ | m
  ·obtain rfl:m1=i:=by simpa using hm
   exact n1 k p a w hp hJ
  ·obtain rfl:m2=i:=by simpa using hm
   exact n2 k p a w hp hJ
  ·simp at hm
 ·obtain⟨q1,q2,rfl⟩:=fin_two hp hall
  exact fin q1 q2 a w hJ
end
def pw3J7 (w:World) (ia0 ia1 ia2 ia3 ia4 ia5 ib0 ib1 ib2 ib3 ib4 ib5:Nat) (l:RowL) (a0:Act) (k:Nat) (p:List (Option Nat)) (a:Act) (v:World):Prop:=
 ∃ y1 y2 z1 z2:Value,a=((((a0.put (some 53) y1).put (some 56) y2).put (some 19) z1).put (some 20) z2)∧(0 < k→y1 = .agg #[ia0,ia1,ia2,ia3,ia4,ia5])∧(1 < k→y2 = .agg #[ib0,ib1,ib2,ib3,ib4,ib5])∧(∀ q,p[0]? = some (some q)→z1 = .pointer (some ⟨q,0,none⟩))∧(∀ q,p[1]? = some (some q)→z2 = .pointer (some ⟨q,0,none⟩))∧OwnF w l [#[(),(),(),(),(),()],#[(),(),(),(),(),()]] p v
section
variable {w v:World} {ia0 ia1 ia2 ia3 ia4 ia5 ib0 ib1 ib2 ib3 ib4 ib5:Nat} {l:RowL} {a0 a:Act} {p:List (Option Nat)}
theorem pw3J7_0 (h:pw3J7 w ia0 ia1 ia2 ia3 ia4 ia5 ib0 ib1 ib2 ib3 ib4 ib5 l a0 0 p a v):∃ y1 y2 z1 z2:Value,a=((((a0.put (some 53) y1).put (some 56) y2).put (some 19) z1).put (some 20) z2)∧(∀ q,p[0]? = some (some q)→z1 = .pointer (some ⟨q,0,none⟩))∧(∀ q,p[1]? = some (some q)→z2 = .pointer (some ⟨q,0,none⟩))∧OwnF w l [#[(),(),(),(),(),()],#[(),(),(),(),(),()]] p v:=by
 obtain⟨y1,y2,z1,z2,ha,E1,E2,G1,G2,h⟩:=h;exact ⟨y1,y2,z1,z2,ha,G1,G2,h⟩
theorem pw3J7_1 (h:pw3J7 w ia0 ia1 ia2 ia3 ia4 ia5 ib0 ib1 ib2 ib3 ib4 ib5 l a0 1 p a v):∃ y2 z1 z2:Value,a=((((a0.put (some 53) (.agg #[ia0,ia1,ia2,ia3,ia4,ia5])).put (some 56) y2).put (some 19) z1).put (some 20) z2)∧(∀ q,p[0]? = some (some q)→z1 = .pointer (some ⟨q,0,none⟩))∧(∀ q,p[1]? = some (some q)→z2 = .pointer (some ⟨q,0,none⟩))∧OwnF w l [#[(),(),(),(),(),()],#[(),(),(),(),(),()]] p v:=by
 obtain⟨y1,y2,z1,z2,ha,E1,E2,G1,G2,h⟩:=h;obtain rfl:=E1 (by decide);exact ⟨y2,z1,z2,ha,G1,G2,h⟩
theorem pw3J7_fin {q1 q2:Nat} (h:pw3J7 w ia0 ia1 ia2 ia3 ia4 ia5 ib0 ib1 ib2 ib3 ib4 ib5 l a0 2 [some q1,some q2] a v):a=((((a0.put (some 53) (.agg #[ia0,ia1,ia2,ia3,ia4,ia5])).put (some 56) (.agg #[ib0,ib1,ib2,ib3,ib4,ib5])).put (some 19) (.pointer (some ⟨q1,0,none⟩))).put (some 20) (.pointer (some ⟨q2,0,none⟩)))∧OwnF w l [#[(),(),(),(),(),()],#[(),(),(),(),(),()]] [some q1,some q2] v:=by
 obtain⟨y1,y2,z1,z2,ha,E1,E2,G1,G2,h⟩:=h;obtain rfl:=E1 (by decide);obtain rfl:=E2 (by decide);obtain rfl:=G1 _ rfl;obtain rfl:=G2 _ rfl;exact ⟨ha,h⟩
end
theorem pwithin {u0 u1 u2 u3 u4 u5 u6 u7 t0 t1 t2 t3 t4 t5 bw ch s0 s1 s2 s3 s4 s5 m0 m1 m2 m3 m4 m5 n0 n1 n2 n3 n4 n5 n6 n7 n8 n9 n10 n11 n12 n13 n14 n15 n16 cm a0 a1 a2 a3 a4 a5 b0 b1 b2 b3 b4 b5 f ca0 ca1 ca2 ca3 ca4 ca5 cb0 cb1 cb2 cb3 cb4 cb5 ia0 ia1 ia2 ia3 ia4 ia5 ib0 ib1 ib2 ib3 ib4 ib5 xl xh yl yh dl dh gl gh:Nat} {n17 n18 ex ed ey eh:Int} (w:World)
  (c1:CH 5 #[.agg #[.int .u32 u0,.int .u32 u1,.int .u32 u2,.int .u32 u3,.int .u32 u4,.int .u32 u5,.int .u32 u6,.int .u32 u7]] (.agg #[.int .u8 n0,n1,n2,n3,n4,n5,n6,n7,n8,n9,n10,n11,n12,n13,n14,n15,n16,.int .i64 n17,.int .i64 n18]))
  (q_rem:((ch:Int).tmod 3=(cm:Int)))
  (hwc:(IntKind.i64.wrap (cm:Int)=(cm:Int)))
  (c2:CH 6 #[.agg #[.int .u32 t0,.int .u32 t1,.int .u32 t2,.int .u32 t3,.int .u32 t4,.int .u32 t5]] (.tuple #[.agg #[a0,a1,a2,a3,a4,a5],.agg #[b0,b1,b2,b3,b4,b5],.bool true]))
  (q_f:(∀ w,(binOp .quo 25 (.float .f64 (floatOfInt .f64 (bw))) (.float .f64 4643211215818981376)).run Tryz.prog w = .ok (f:Value) w))
  (c3:CH 7 #[.agg #[a0,a1,a2,a3,a4,a5],f] (.agg #[ca0,ca1,ca2,ca3,ca4,ca5]))
  (c4:CH 7 #[.agg #[b0,b1,b2,b3,b4,b5],f] (.agg #[cb0,cb1,cb2,cb3,cb4,cb5]))
  (c5:CH 8 #[.agg #[ca0,ca1,ca2,ca3,ca4,ca5],.agg #[.int .u32 s0,.int .u32 s1,.int .u32 s2,.int .u32 s3,.int .u32 s4,.int .u32 s5]] (.agg #[ia0,ia1,ia2,ia3,ia4,ia5]))
  (c6:CH 8 #[.agg #[cb0,cb1,cb2,cb3,cb4,cb5],.agg #[.int .u32 m0,.int .u32 m1,.int .u32 m2,.int .u32 m3,.int .u32 m4,.int .u32 m5]] (.agg #[ib0,ib1,ib2,ib3,ib4,ib5]))
  (c7:CH 9 #[.agg #[.int .u8 n0,n1,n2,n3,n4,n5,n6,n7,n8,n9,n10,n11,n12,n13,n14,n15,n16,.int .i64 n17,.int .i64 n18],.int .i64 cm,.agg #[ca0,ca1,ca2,ca3,ca4,ca5],.agg #[cb0,cb1,cb2,cb3,cb4,cb5]] (.tuple #[.agg #[xl,xh],.int .i64 ex]))
  (c8:CH 9 #[.agg #[.int .u8 n0,n1,n2,n3,n4,n5,n6,n7,n8,n9,n10,n11,n12,n13,n14,n15,n16,.int .i64 n17,.int .i64 n18],.int .i64 cm,.agg #[ia0,ia1,ia2,ia3,ia4,ia5],.agg #[ib0,ib1,ib2,ib3,ib4,ib5]] (.tuple #[.agg #[yl,yh],.int .i64 ey]))
  (c9:CH 10 #[.agg #[.int .u8 n0,n1,n2,n3,n4,n5,n6,n7,n8,n9,n10,n11,n12,n13,n14,n15,n16,.int .i64 n17,.int .i64 n18],.agg #[ca0,ca1,ca2,ca3,ca4,ca5],.agg #[cb0,cb1,cb2,cb3,cb4,cb5]] (.tuple #[.agg #[dl,dh],.int .i64 ed]))
  (c10:CH 10 #[.agg #[.int .u8 n0,n1,n2,n3,n4,n5,n6,n7,n8,n9,n10,n11,n12,n13,n14,n15,n16,.int .i64 n17,.int .i64 n18],.agg #[ia0,ia1,ia2,ia3,ia4,ia5],.agg #[ib0,ib1,ib2,ib3,ib4,ib5]] (.tuple #[.agg #[gl,gh],.int .i64 eh]))
  (c13:CH 12 #[] (.bool true))
  (hq:Hid ((ex=0∧ey=0∧ed=0∧eh=0∧CH 11 #[.agg #[yl,yh],.agg #[xl,xh]] (.bool true)∧CH 11 #[.agg #[gl,gh],.agg #[dl,dh]] (.bool true))∨(ed=0∧eh=0∧(ex != 0)=true∧CH 11 #[.agg #[gl,gh],.agg #[dl,dh]] (.bool true)) ∨
   (ex=0∧ey=0∧(ed != 0)=true∧CH 11 #[.agg #[yl,yh],.agg #[xl,xh]] (.bool true))∨((ex != 0)=true∧(ed != 0)=true))) :
  Calls Tryz.prog 3 #[.agg #[.int .u32 u0,.int .u32 u1,.int .u32 u2,.int .u32 u3,.int .u32 u4,.int .u32 u5,.int .u32 u6,.int .u32 u7],.agg #[.int .u32 t0,.int .u32 t1,.int .u32 t2,.int .u32 t3,.int .u32 t4,.int .u32 t5],.int .u8 bw,.int .u8 ch,.agg #[.int .u32 s0,.int .u32 s1,.int .u32 s2,.int .u32 s3,.int .u32 s4,.int .u32 s5],.agg #[.int .u32 m0,.int .u32 m1,.int .u32 m2,.int .u32 m3,.int .u32 m4,.int .u32 m5]] w fun r w'=>r = .returned (.bool true)∧Below w.heap.size w w':=by
 have M:=Hd (((((Own.nil w).made #[.int .u32 u0,.int .u32 u1,.int .u32 u2,.int .u32 u3,.int .u32 u4,.int .u32 u5,.int .u32 u6,.int .u32 u7] 23).made #[.int .u32 t0,.int .u32 t1,.int .u32 t2,.int .u32 t3,.int .u32 t4,.int .u32 t5] 24).made #[.int .u32 s0,.int .u32 s1,.int .u32 s2,.int .u32 s3,.int .u32 s4,.int .u32 s5] 24).made #[.int .u32 m0,.int .u32 m1,.int .u32 m2,.int .u32 m3,.int .u32 m4,.int .u32 m5] 24);simp only [World.size_alloc] at M;have eqF:=eq_floats;go_enter Tryz.func3,Tryz.ntmps3;obtain⟨k1,k2,k3,k4,k5,k6,k7,k8⟩:=(M.o.nth 3 rfl).eight;go_wp2_with fail;refine (c1.out _).mono ?_;rintro r w1_ ⟨rfl,hb⟩;replace M:=Hd (M.o.below hb);clear hb;clear k1 k2 k3 k4 k5 k6 k7 k8;replace M:=Hd (M.o.made #[.int .u8 0,(),(),(),(),(),(),(),(),(),(),(),(),(),(),(),(),true,true] 28)
 try go_simp
 repeat ((fail_if_success refine wpl_stnode (by kernel_rfl) rfl rfl rfl (by kernel_rfl) (M.o.nth 0 rfl) ?_); go_step)
 refine wpl_stnode (by kernel_rfl) rfl rfl rfl (by kernel_rfl) (M.o.nth 0 rfl) ?_;simp only [Act.put,go_sem];replace M:=Hd (M.o.setAll 0 rfl [.int .u8 n0,.float .f64 n1,.float .f64 n2,.float .f64 n3,.float .f64 n4,.float .f64 n5,.float .f64 n6,.float .f64 n7,.float .f64 n8,.float .f64 n9,.float .f64 n10,.float .f64 n11,.float .f64 n12,.float .f64 n13,.float .f64 n14,.float .f64 n15,.float .f64 n16,.int .i64 n17,.int .i64 n18] rfl);revert M;generalize World.setCells (w1_.alloc (.cells #[.int .u8 0,(),(),(),(),(),(),(),(),(),(),(),(),(),(),(),(),true,true] 28)) w1_.heap.size 0 [.int .u8 n0,.float .f64 n1,.float .f64 n2,.float .f64 n3,.float .f64 n4,.float .f64 n5,.float .f64 n6,.float .f64 n7,.float .f64 n8,.float .f64 n9,.float .f64 n10,.float .f64 n11,.float .f64 n12,.float .f64 n13,.float .f64 n14,.float .f64 n15,.float .f64 n16,.int .i64 n17,.int .i64 n18]=W2_;intro M;replace M:Hid (Own w [(w1_.heap.size,#[.int .u8 n0,n1,n2,n3,n4,n5,n6,n7,n8,n9,n10,n11,n12,n13,n14,n15,n16,.int .i64 n17,.int .i64 n18]),((w.heap.size+1+1+1),#[.int .u32 m0,.int .u32 m1,.int .u32 m2,.int .u32 m3,.int .u32 m4,.int .u32 m5]),((w.heap.size+1+1),#[.int .u32 s0,.int .u32 s1,.int .u32 s2,.int .u32 s3,.int .u32 s4,.int .u32 s5]),((w.heap.size+1),#[.int .u32 t0,.int .u32 t1,.int .u32 t2,.int .u32 t3,.int .u32 t4,.int .u32 t5]),(w.heap.size,#[.int .u32 u0,.int .u32 u1,.int .u32 u2,.int .u32 u3,.int .u32 u4,.int .u32 u5,.int .u32 u6,.int .u32 u7])] W2_):=M
 obtain⟨k1,k2,k3,k4,k5,k6⟩:=(M.o.nth 3 rfl).six;go_wp2_with fail;refine (c2.out _).mono ?_;rintro r w3_ ⟨rfl,hb⟩;replace M:=Hd (M.o.below hb);clear hb;clear k1 k2 k3 k4 k5 k6;replace M:=Hd (M.o.made #[a0,a1,a2,a3,a4,a5] 33);replace M:=Hd (M.o.made #[b0,b1,b2,b3,b4,b5] 33);simp only [World.size_alloc] at M;go_upto_region 6 with fail;replace M:=Hd M.o.drew;revert M;generalize ((w3_.alloc (.cells #[a0,a1,a2,a3,a4,a5] 33)).alloc (.cells #[b0,b1,b2,b3,b4,b5] 33))=W4_;intro M;refine wp_region_noPanic ?_;refine tails_region (S:=fun w'=>(Cf w' w3_.heap.size 0 a0∧Cf w' w3_.heap.size 1 a1∧Cf w' w3_.heap.size 2 a2∧Cf w' w3_.heap.size 3 a3∧Cf w' w3_.heap.size 4 a4∧Cf w' w3_.heap.size 5 a5)∧(Cf w' (w3_.heap.size+1) 0 b0∧Cf w' (w3_.heap.size+1) 1 b1∧Cf w' (w3_.heap.size+1) 2 b2∧Cf w' (w3_.heap.size+1) 3 b3∧Cf w' (w3_.heap.size+1) 4 b4∧Cf w' (w3_.heap.size+1) 5 b5)) [6,7] (by kernel_rfl) ?_ (fun hS=>?_)
 ·exact ⟨(M.o.nth 1 rfl).six,(M.o.nth 0 rfl).six⟩
 refine tails_take (T:=[6,7]) (i:=0) (o:=_) (x:=?_) rfl (by kernel_rfl) (by kernel_rfl) (by kernel_rfl) (by kernel_rfl) (fun _ _ _ h=>h) (Or.inl ⟨by kernel_rfl,?_⟩) hS ?_
 rotate_left; focus (intro w hSw; (try dsimp only at hSw); go_simp; try with_reducible rfl)
 refine tails_take (T:=[6,7]) (i:=1) (o:=_) (x:=?_) rfl (by kernel_rfl) (by kernel_rfl) (by kernel_rfl) (by kernel_rfl) (fun _ _ _ h=>h) (Or.inl ⟨by kernel_rfl,?_⟩) hS ?_
 rotate_left; focus (intro w hSw; (try dsimp only at hSw); go_simp; try with_reducible rfl)
 refine tails_take (T:=[6,7]) (i:=3) (o:=_) (x:=?_) rfl (by kernel_rfl) (by kernel_rfl) (by kernel_rfl) (by kernel_rfl) (fun _ _ _ h=>h) (Or.inl ⟨by kernel_rfl,?_⟩) hS ?_
 rotate_left; focus (intro w hSw; (try dsimp only at hSw); go_simp; try with_reducible rfl)
 refine tails_take (T:=[6,7]) (i:=4) (o:=_) (x:=?_) rfl (by kernel_rfl) (by kernel_rfl) (by kernel_rfl) (by kernel_rfl) (fun _ _ _ h=>h) (Or.inl ⟨by kernel_rfl,?_⟩) hS ?_
 rotate_left; focus (intro w hSw; (try dsimp only at hSw); go_simp; try with_reducible rfl)
 conv=>arg 9; simp only [Act.put,go_sem]
 refine tn [6,7] 2 fun K hK=>?_
 go_simp;refine (c3.out _).mono ?_;rintro rr w5_ ⟨rfl,hb⟩;replace M:=Hd (M.o.below hb);clear hb
 try go_wp2_with fail
 refine hK.out _ _ (Or.inr ⟨(M.o.nth 1 rfl).six,(M.o.nth 0 rfl).six⟩) (fun hHeld=>?_);clear hK K hHeld;replace hS:=(And.intro (M.o.nth 1 rfl).six (M.o.nth 0 rfl).six)
 refine tn [6,7] 5 fun K hK=>?_
 go_simp;refine (c4.out _).mono ?_;rintro rr w6_ ⟨rfl,hb⟩;replace M:=Hd (M.o.below hb);clear hb
 try go_wp2_with fail
 refine hK.out _ _ (Or.inr ⟨(M.o.nth 1 rfl).six,(M.o.nth 0 rfl).six⟩) (fun hHeld=>?_);clear hK K hHeld;replace hS:=(And.intro (M.o.nth 1 rfl).six (M.o.nth 0 rfl).six)
 refine tn [6,7] 6 fun K hK=>?_
 have kc:=(M.o.nth 1 rfl).2.1;have kf:=(M.o.nth 1 rfl).2.2;replace M:=Hd (M.o.set6 1 rfl ca0 ca1 ca2 ca3 ca4 ca5);dsimp only [List.set] at M;go_simp;refine hK.out _ _ (Or.inl (by decide)) (fun hHeld=>?_);clear hK K hHeld kc kf
 refine tn [6,7] 7 fun K hK=>?_
 have kc:=(M.o.nth 0 rfl).2.1;have kf:=(M.o.nth 0 rfl).2.2;replace M:=Hd (M.o.set6 0 rfl cb0 cb1 cb2 cb3 cb4 cb5);dsimp only [List.set] at M;go_simp;refine hK.out _ _ (Or.inl (by decide)) (fun hHeld=>?_);clear hK K hHeld kc kf;refine tails_done (by kernel_rfl) ?_ _;refine NoPanic.normal ?_;clear hS;revert M;generalize ((((((((((((w6_.setCell ⟨w3_.heap.size,0,none⟩ (ca0:Value)).setCell ⟨w3_.heap.size,1,none⟩ (ca1:Value)).setCell ⟨w3_.heap.size,2,none⟩ (ca2:Value)).setCell ⟨w3_.heap.size,3,none⟩ (ca3:Value)).setCell ⟨w3_.heap.size,4,none⟩ (ca4:Value)).setCell ⟨w3_.heap.size,5,none⟩ (ca5:Value)).setCell ⟨(w3_.heap.size+1),0,none⟩ (cb0:Value)).setCell ⟨(w3_.heap.size+1),1,none⟩ (cb1:Value)).setCell ⟨(w3_.heap.size+1),2,none⟩ (cb2:Value)).setCell ⟨(w3_.heap.size+1),3,none⟩ (cb3:Value)).setCell ⟨(w3_.heap.size+1),4,none⟩ (cb4:Value)).setCell ⟨(w3_.heap.size+1),5,none⟩ (cb5:Value))=W7_;intro M;go_upto_region 7 with fail
 replace M:=Hd M.o.drew;refine wp_region_noPanic ?_;refine tails_region (S:=fun w'=>(Cf w' w3_.heap.size 0 ca0∧Cf w' w3_.heap.size 1 ca1∧Cf w' w3_.heap.size 2 ca2∧Cf w' w3_.heap.size 3 ca3∧Cf w' w3_.heap.size 4 ca4∧Cf w' w3_.heap.size 5 ca5)∧(w'.cell? ⟨(w.heap.size+1+1),0,none⟩=some (.int .u32 s0)∧w'.cell? ⟨(w.heap.size+1+1),1,none⟩=some (.int .u32 s1)∧w'.cell? ⟨(w.heap.size+1+1),2,none⟩=some (.int .u32 s2)∧w'.cell? ⟨(w.heap.size+1+1),3,none⟩=some (.int .u32 s3)∧w'.cell? ⟨(w.heap.size+1+1),4,none⟩=some (.int .u32 s4)∧w'.cell? ⟨(w.heap.size+1+1),5,none⟩=some (.int .u32 s5))∧(Cf w' (w3_.heap.size+1) 0 cb0∧Cf w' (w3_.heap.size+1) 1 cb1∧Cf w' (w3_.heap.size+1) 2 cb2∧Cf w' (w3_.heap.size+1) 3 cb3∧Cf w' (w3_.heap.size+1) 4 cb4∧Cf w' (w3_.heap.size+1) 5 cb5)∧(w'.cell? ⟨(w.heap.size+1+1+1),0,none⟩=some (.int .u32 m0)∧w'.cell? ⟨(w.heap.size+1+1+1),1,none⟩=some (.int .u32 m1)∧w'.cell? ⟨(w.heap.size+1+1+1),2,none⟩=some (.int .u32 m2)∧w'.cell? ⟨(w.heap.size+1+1+1),3,none⟩=some (.int .u32 m3)∧w'.cell? ⟨(w.heap.size+1+1+1),4,none⟩=some (.int .u32 m4)∧w'.cell? ⟨(w.heap.size+1+1+1),5,none⟩=some (.int .u32 m5))) [] (by kernel_rfl) ?_ (fun hS=>?_)
 ·exact ⟨(M.o.nth 1 rfl).six,(M.o.nth 4 rfl).six,(M.o.nth 0 rfl).six,(M.o.nth 3 rfl).six⟩
 refine tq 0 hS ?_;refine tq 1 hS ?_;refine tq 3 hS ?_;refine tq 4 hS ?_
 conv=>arg 9; simp only [Act.put,go_sem]
 refine lp_cc_2 M 2 5 6 7 [53,56,19,20] 2 (pw3J7 w ia0 ia1 ia2 ia3 ia4 ia5 ib0 ib1 ib2 ib3 ib4 ib5) (by kernel_rfl) (by kernel_rfl) ?_ ?_ ?_ ?_ ?_ ?_ ?_
 ·intro A hA
  obtain⟨y1,hq1⟩:=put_ex (hA 53 (by simp));obtain⟨y2,hq2⟩:=put_ex (hA 56 (by simp));obtain⟨z1,hq3⟩:=put_ex (hA 19 (by simp));obtain⟨z2,hq4⟩:=put_ex (hA 20 (by simp));exact ⟨y1,y2,z1,z2,by rw [hq1,hq2,hq3,hq4],by omega,by omega,by simp,by simp,OwnF.start M.out 2⟩
 ·rintro k p a v ⟨y1,y2,z1,z2,_,_,_,_,_,h⟩
  exact ⟨(h.own.nth 1 rfl).six,(h.own.nth 4 rfl).six,(h.own.nth 0 rfl).six,(h.own.nth 3 rfl).six⟩
 ·intro p a v hJ
  refine os fun K hK=>?_
  obtain⟨y1,y2,z1,z2,ha,gg1,gg2,h⟩:=pw3J7_0 hJ;have h:=Hd h;clear hJ;subst ha;go_simp;refine (c5.out _).mono ?_;rintro rr w5 ⟨rfl,hp⟩
  try go_wp2_with fail
  refine hK.out _ _ ⟨_,y2,z1,z2,?_,fun _=>rfl,by omega,gg1,gg2,h.out.below hp⟩;kernel_rfl
 ·intro p a v hJ
  refine os fun K hK=>?_
  obtain⟨y2,z1,z2,ha,gg1,gg2,h⟩:=pw3J7_1 hJ;have h:=Hd h;clear hJ;subst ha;go_simp;refine (c6.out _).mono ?_;rintro rr w5 ⟨rfl,hp⟩
  try go_wp2_with fail
  refine hK.out _ _ ⟨_,_,z1,z2,?_,fun _=>rfl,fun _=>rfl,gg1,gg2,h.out.below hp⟩;kernel_rfl
 ·intro k p a v hp hJ
  refine os fun K hK=>?_
  obtain⟨y1,y2,z1,z2,ha,ee1,ee2,gg1,gg2,h⟩:=hJ;have h:=Hd h;subst ha;go_simp;refine hK.out _ _ ⟨v.heap.size,y1,y2,.pointer (some ⟨v.heap.size,0,none⟩),z2,?_,ee1,ee2,fun q hq=>ptr_set hq,ptr_keep 1 (by decide) gg2,h.out.alloc hp rfl _⟩;kernel_rfl
 ·intro k p a v hp hJ
  refine os fun K hK=>?_
  obtain⟨y1,y2,z1,z2,ha,ee1,ee2,gg1,gg2,h⟩:=hJ;have h:=Hd h;subst ha;go_simp;refine hK.out _ _ ⟨v.heap.size,y1,y2,z1,.pointer (some ⟨v.heap.size,0,none⟩),?_,ee1,ee2,ptr_keep 0 (by decide) gg1,fun q hq=>ptr_set hq,h.out.alloc hp rfl _⟩;kernel_rfl
 intro p7_1 p7_2 a v hJ;obtain⟨rfl,h⟩:=pw3J7_fin hJ;clear hJ;replace M:=Hd h.fin2;clear h
 refine tn [] 8 fun K hK=>?_
 have kc:=(M.o.nth 0 rfl).2.1;have kf:=(M.o.nth 0 rfl).2.2;replace M:=Hd (M.o.set6 0 rfl ia0 ia1 ia2 ia3 ia4 ia5);dsimp only [List.set] at M;go_simp;refine hK.out _ _ (Or.inr ⟨(M.o.nth 3 rfl).six,(M.o.nth 6 rfl).six,(M.o.nth 2 rfl).six,(M.o.nth 5 rfl).six⟩) (fun hHeld=>?_);clear hK K hHeld kc kf
 refine tn [] 9 fun K hK=>?_
 have kc:=(M.o.nth 1 rfl).2.1;have kf:=(M.o.nth 1 rfl).2.2;replace M:=Hd (M.o.set6 1 rfl ib0 ib1 ib2 ib3 ib4 ib5);dsimp only [List.set] at M;go_simp;refine hK.out _ _ (Or.inr ⟨(M.o.nth 3 rfl).six,(M.o.nth 6 rfl).six,(M.o.nth 2 rfl).six,(M.o.nth 5 rfl).six⟩) (fun hHeld=>?_);clear hK K hHeld kc kf;refine tails_done (by kernel_rfl) ?_ _;refine NoPanic.normal ?_;clear hS;revert M;generalize ((((((((((((v.setCell ⟨p7_1,0,none⟩ (ia0:Value)).setCell ⟨p7_1,1,none⟩ (ia1:Value)).setCell ⟨p7_1,2,none⟩ (ia2:Value)).setCell ⟨p7_1,3,none⟩ (ia3:Value)).setCell ⟨p7_1,4,none⟩ (ia4:Value)).setCell ⟨p7_1,5,none⟩ (ia5:Value)).setCell ⟨p7_2,0,none⟩ (ib0:Value)).setCell ⟨p7_2,1,none⟩ (ib1:Value)).setCell ⟨p7_2,2,none⟩ (ib2:Value)).setCell ⟨p7_2,3,none⟩ (ib3:Value)).setCell ⟨p7_2,4,none⟩ (ib4:Value)).setCell ⟨p7_2,5,none⟩ (ib5:Value))=W8_;intro M;go_upto_region 8 with fail;go_step;refine wpl_node (by kernel_rfl) rfl rfl (M.o.nth 4 rfl) ?_
 simp only [Act.put,go_sem];obtain⟨k1,k2,k3,k4,k5,k6⟩:=(M.o.nth 3 rfl).six;obtain⟨k7,k8,k9,k10,k11,k12⟩:=(M.o.nth 2 rfl).six;go_wp2_with fail;refine (c7.out _).mono ?_;rintro r w9_ ⟨rfl,hb⟩;replace M:=Hd (M.o.below hb);clear hb;clear k1 k2 k3 k4 k5 k6 k7 k8 k9 k10 k11 k12;replace M:=Hd (M.o.made #[xl,xh] 31);go_upto_region 9 with fail;go_step;refine wpl_node (by kernel_rfl) rfl rfl (M.o.nth 5 rfl) ?_;simp only [Act.put,go_sem];obtain⟨k1,k2,k3,k4,k5,k6⟩:=(M.o.nth 1 rfl).six;obtain⟨k7,k8,k9,k10,k11,k12⟩:=(M.o.nth 2 rfl).six;go_wp2_with fail;refine (c8.out _).mono ?_;rintro r w10_ ⟨rfl,hb⟩;replace M:=Hd (M.o.below hb);clear hb;clear k1 k2 k3 k4 k5 k6 k7 k8 k9 k10 k11 k12;replace M:=Hd (M.o.made #[yl,yh] 31);go_upto_region 10 with fail;go_step;refine wpl_node (by kernel_rfl) rfl rfl (M.o.nth 6 rfl) ?_;simp only [Act.put,go_sem];obtain⟨k1,k2,k3,k4,k5,k6⟩:=(M.o.nth 5 rfl).six;obtain⟨k7,k8,k9,k10,k11,k12⟩:=(M.o.nth 4 rfl).six
 go_wp2_with fail;refine (c9.out _).mono ?_;rintro r w11_ ⟨rfl,hb⟩;replace M:=Hd (M.o.below hb);clear hb;clear k1 k2 k3 k4 k5 k6 k7 k8 k9 k10 k11 k12;replace M:=Hd (M.o.made #[dl,dh] 31);go_upto_region 11 with fail;go_step;refine wpl_node (by kernel_rfl) rfl rfl (M.o.nth 7 rfl) ?_;simp only [Act.put,go_sem];obtain⟨k1,k2,k3,k4,k5,k6⟩:=(M.o.nth 3 rfl).six;obtain⟨k7,k8,k9,k10,k11,k12⟩:=(M.o.nth 4 rfl).six;go_wp2_with fail;refine (c10.out _).mono ?_;rintro r w12_ ⟨rfl,hb⟩;replace M:=Hd (M.o.below hb);clear hb;clear k1 k2 k3 k4 k5 k6 k7 k8 k9 k10 k11 k12;replace M:=Hd (M.o.made #[gl,gh] 31)
 rcases hq.out with ⟨rfl,rfl,rfl,rfl,c11,c12⟩ | ⟨rfl,rfl,hx,c11⟩ | ⟨rfl,rfl,hd,c11⟩ | ⟨hx,hd⟩
 ·clear hq
  obtain⟨k1,k2⟩:=(M.o.nth 2 rfl).two;obtain⟨k3,k4⟩:=(M.o.nth 3 rfl).two;go_wp2_with fail;refine (c11.out _).mono ?_;rintro r w13_ ⟨rfl,hb⟩;replace M:=Hd (M.o.below hb);clear hb;clear k1 k2 k3 k4;obtain⟨k1,k2⟩:=(M.o.nth 0 rfl).two;obtain⟨k3,k4⟩:=(M.o.nth 1 rfl).two;go_wp2_with fail;refine (c12.out _).mono ?_;rintro r w14_ ⟨rfl,hb⟩;replace M:=Hd (M.o.below hb);clear hb;clear k1 k2 k3 k4;go_wp2_with fail;refine (c13.out _).mono ?_;rintro r w15_ ⟨rfl,hb⟩;replace M:=Hd (M.o.below hb);clear hb;go_wp2;go_ret;exact ⟨rfl,M.o.base⟩
 ·clear hq
  obtain⟨k1,k2⟩:=(M.o.nth 1 rfl).two;go_wp2_with fail;refine (c11.out _).mono ?_;rintro r w13_ ⟨rfl,hb⟩;replace M:=Hd (M.o.below hb);clear hb;clear k1 k2;go_wp2_with fail;refine (c13.out _).mono ?_;rintro r w14_ ⟨rfl,hb⟩;replace M:=Hd (M.o.below hb);clear hb;go_wp2;go_ret;exact ⟨rfl,M.o.base⟩
 ·clear hq
  obtain⟨k1,k2⟩:=(M.o.nth 2 rfl).two;obtain⟨k3,k4⟩:=(M.o.nth 3 rfl).two;go_wp2_with fail;refine (c11.out _).mono ?_;rintro r w13_ ⟨rfl,hb⟩;replace M:=Hd (M.o.below hb);clear hb;clear k1 k2 k3 k4;go_wp2_with fail;refine (c13.out _).mono ?_;rintro r w14_ ⟨rfl,hb⟩;replace M:=Hd (M.o.below hb);clear hb;go_wp2;go_ret;exact ⟨rfl,M.o.base⟩
 ·clear hq
  go_wp2_with fail;refine (c13.out _).mono ?_;rintro r w13_ ⟨rfl,hb⟩;replace M:=Hd (M.o.below hb);clear hb;go_wp2;go_ret;exact ⟨rfl,M.o.base⟩
end
end Go.Proofs.YtnaomilkgfkegaaGreat
