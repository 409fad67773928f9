/- What the claim stands on, part 34: GgB, PaFL. -/
import Derived.Test.YtmkgfflebfpcdaaGreatPA31
import Derived.Test.YtmkgfflebfpcdaaGreatFA26
import Derived.Test.YtmkgfflebfpcdaaGreatPA17
import Derived.Deep.RegionHeld3
set_option maxHeartbeats 16000000
set_option maxRecDepth 100000
namespace Go.Proofs.YtmkgfflebfpcdaaGreat
section
open Go.RowKit
structure Wr (a:Res):Prop where
 lo:a.lo < 18446744073709551616
 hi:a.hi < 18446744073709551616
 rlo:rightB a.lo=true
 rhi:rightB a.hi=true
theorem Fit.wr {a:Res} (h:Fit a):Wr a:=⟨h.lo,h.hi,h.rlo,h.rhi⟩
theorem wr_nil {r:Res} (h:Nil0 r) (he:r.e≠0):Wr r:=by
 obtain⟨h1,h2⟩:=h he
 exact ⟨by rw [h1]; decide,by rw [h2]; decide,by rw [h1]; decide,by rw [h2]; decide⟩
def stD (e:Int) (a b:Res):Res:=stepI e (ivR a.lo a.hi&&ivR b.lo b.hi) (divR a b)
def stU (e:Int) (x:Nat):Res:=stepI e true (ofI x)
theorem st2_wr {j:Nat} (hj:j < 6) (e:Int) {a b:Res} (ha:Wr a) (hb:Wr b):Wr (stepI e (ivR a.lo a.hi&&ivR b.lo b.hi) (askI a.lo a.hi b.lo b.hi j)):=by
 by_cases h:(stepI e (ivR a.lo a.hi&&ivR b.lo b.hi) (askI a.lo a.hi b.lo b.hi j)).e=0
 ·obtain⟨_,h2,h3⟩:=st_none h
  rw [Bool.and_eq_true] at h2
  rw [h3] at h ⊢
  obtain⟨n1,n2,n3,n4⟩:=ask_nums a.lo a.hi b.lo b.hi j (by omega) ha.lo ha.hi hb.lo hb.hi h2.1 h2.2 h
  exact ⟨n1,n3,n2,n4⟩
 ·refine wr_nil ?_ h
  have hn:=ask_nil e a.lo a.hi b.lo b.hi j (by omega)
  rcases (show j=0∨j=1∨j=2∨j=3∨j=4∨j=5 by omega) with rfl | rfl | rfl | rfl | rfl | rfl <;> exact hn
theorem st1_wr {j:Nat} (hj:j=6∨j=7) (e:Int) {a:Res} (ha:Wr a):Wr (stepI e (ivR a.lo a.hi) (askI a.lo a.hi a.lo a.hi j)):=by
 by_cases h:(stepI e (ivR a.lo a.hi) (askI a.lo a.hi a.lo a.hi j)).e=0
 ·obtain⟨_,h2,h3⟩:=st_none h
  rw [h3] at h ⊢
  obtain⟨n1,n2,n3,n4⟩:=ask_nums a.lo a.hi a.lo a.hi j (by omega) ha.lo ha.hi ha.lo ha.hi h2 h2 h
  exact ⟨n1,n3,n2,n4⟩
 ·refine wr_nil ?_ h
  have hn:=ask_nil e a.lo a.hi a.lo a.hi j (by omega)
  rcases hj with rfl | rfl <;> exact hn
theorem stU_wr (e:Int) {x:Nat} (f:Fit (oneR x)):Wr (stU e x):=by
 unfold stU stepI ofI
 have rx:rightB x=true:=f.rlo
 have lx:x < 18446744073709551616:=f.lo
 rw [if_pos rfl,if_pos rx]
 split
 ·exact ⟨lx,lx,rx,rx⟩
 ·exact ⟨show 0 < 18446744073709551616 by decide,show 0 < 18446744073709551616 by decide,right_0,right_0⟩
theorem nn_wr {a:Res} (h:Wr a):Wr (nnR a):=by
 obtain⟨l1,l2,_⟩:=max_facts a.lo 0 h.lo (by decide) h.rlo (by decide)
 obtain⟨k1,k2,_⟩:=max_facts a.hi 0 h.hi (by decide) h.rhi (by decide)
 exact ⟨l1,k1,l2,k2⟩
section
variable {a b:Res} (e:Int) (ha:Wr a) (hb:Wr b)
include ha hb in
theorem stA_wr:Wr (stA e a b):=st2_wr (j:=0) (by decide) e ha hb
include ha hb in
theorem stS_wr:Wr (stS e a b):=st2_wr (j:=1) (by decide) e ha hb
include ha hb in
theorem stM_wr:Wr (stM e a b):=st2_wr (j:=2) (by decide) e ha hb
include ha hb in
theorem stD_wr:Wr (stD e a b):=st2_wr (j:=3) (by decide) e ha hb
include ha in
theorem stQ_wr:Wr (stQ e a):=st1_wr (j:=6) (by decide) e ha
include ha in
theorem stR_wr:Wr (stR e a):=st1_wr (j:=7) (by decide) e ha
end
abbrev C0 (f:FuncId) (pb:Nat) (e:Int) (xs:Array Value) (R:Res):Prop:=∀ v:World,v.cell? ⟨pb,0,none⟩=some (.int .i64 e)→v.frozen? ⟨pb,0,none⟩=false →
 Calls Tryz.prog f (#[.pointer (some ⟨pb,0,none⟩)]++xs) v fun r w'=>r = .returned (.agg #[R.lo,R.hi])∧Put ⟨pb,0,none⟩ (.int .i64 R.e) v w'
section
variable {a b:Res} (e:Int) (ha:Wr a) (hb:Wr b) (pb:Nat)
theorem s_num {x:Nat} (f:Fit (oneR x)):C0 18 pb e #[x] (stU e x):=fun v hc hf=>told_e (cNum_any e x pb 0 v f.lo hc hf)
include ha hb in
theorem s_add:C0 59 pb e #[.agg #[a.lo,a.hi],.agg #[b.lo,b.hi]] (stA e a b):=fun v hc hf=>told_e (cAdd_any e a.lo a.hi b.lo b.hi pb 0 v ha.lo ha.hi hb.lo hb.hi hc hf)
include ha hb in
theorem s_sub:C0 107 pb e #[.agg #[a.lo,a.hi],.agg #[b.lo,b.hi]] (stS e a b):=fun v hc hf=>told_e (cSub_any e a.lo a.hi b.lo b.hi pb 0 v ha.lo ha.hi hb.lo hb.hi hc hf)
include ha hb in
theorem s_mul:C0 21 pb e #[.agg #[a.lo,a.hi],.agg #[b.lo,b.hi]] (stM e a b):=fun v hc hf=>told_e (cMul_any e a.lo a.hi b.lo b.hi pb 0 v ha.lo ha.hi hb.lo hb.hi hc hf)
include ha hb in
theorem s_div:C0 17 pb e #[.agg #[a.lo,a.hi],.agg #[b.lo,b.hi]] (stD e a b):=fun v hc hf=>told_e (cDiv_any e a.lo a.hi b.lo b.hi pb 0 v ha.lo ha.hi hb.lo hb.hi hc hf)
include ha in
theorem s_sqr:C0 60 pb e #[.agg #[a.lo,a.hi]] (stQ e a):=fun v hc hf=>told_e (cSqr_any e a.lo a.hi pb 0 v ha.lo ha.hi hc hf)
include ha in
theorem s_sqrt:C0 58 pb e #[.agg #[a.lo,a.hi]] (stR e a):=fun v hc hf=>told_e (cSqrt_any e a.lo a.hi pb 0 v ha.lo ha.hi hc hf)
end
theorem stU_plain {x:Nat} (f:Fit (oneR x)):stU 0 x=oneR x:=by
 unfold stU stepI ofI
 rw [if_pos rfl,if_pos rfl,if_pos (show rightB x=true from f.rlo)]; rfl
abbrev sur (e:Int) (a i o:Res):Array Value:=#[.int .i64 e,.float .f64 a.lo,.float .f64 a.hi,.float .f64 i.lo,.float .f64 i.hi,.float .f64 o.lo,.float .f64 o.hi]
abbrev Met1 (f:FuncId) (e e':Int) (a i o r:Res):Prop:=∀ (pb:Nat) (v:World),Has1 v (pb,sur e a i o)→Calls Tryz.prog f #[.pointer (some ⟨pb,0,none⟩)] v fun x w'=>x = .returned (.agg #[r.lo,r.hi])∧Put ⟨pb,0,none⟩ (.int .i64 e') v w'
def Lt.k1 (e:Int):Res:=stU e u1
def Lt.k2 (e:Int) (c:Res):Res:=stQ (Lt.k1 e).e c
def Lt.k3 (e:Int) (c:Res):Res:=stS (Lt.k2 e c).e (Lt.k1 e) (Lt.k2 e c)
def Lt.k4 (e:Int) (c:Res):Res:=stQ (Lt.k3 e c).e c
def Lt.k5 (e:Int) (c:Res):Res:=stD (Lt.k4 e c).e (Lt.k3 e c) (Lt.k4 e c)
def Lt.k6 (e:Int) (c:Res):Res:=stU (Lt.k5 e c).e uh
def Lt.k7 (e:Int) (c a:Res):Res:=stQ (Lt.k6 e c).e a
def Lt.k8 (e:Int) (c a:Res):Res:=stM (Lt.k7 e c a).e (Lt.k7 e c a) (Lt.k5 e c)
def Lt.k9 (e:Int) (c a:Res):Res:=stA (Lt.k8 e c a).e (Lt.k1 e) (Lt.k8 e c a)
def Lt.k10 (e:Int) (c a:Res):Res:=stR (Lt.k9 e c a).e (Lt.k9 e c a)
def Lt.k11 (e:Int) (c a:Res):Res:=stS (Lt.k10 e c a).e (Lt.k10 e c a) (Lt.k1 e)
def Lt.k12 (e:Int) (c a:Res):Res:=stM (Lt.k11 e c a).e (Lt.k6 e c) (Lt.k11 e c a)
theorem not_call {r:Res} (h:Wr r) (w:World):Calls Tryz.prog 151 #[.agg #[r.lo,r.hi]] w (Rt (.agg #[.float .f64 (nnR r).lo,.float .f64 (nnR r).hi]) w):=
 gnot_walk w (m_yl:=fun ts t w=>(run_less r.lo 0 h.lo (by decide) h.rlo (by decide) ts t w).2) (m_yh:=fun ts t w=>(run_less r.hi 0 h.hi (by decide) h.rhi (by decide) ts t w).2)
section
variable {c a i o:Res}
theorem a2_call (e:Int) (wa:Wr a):Met1 144 e (stQ e a).e a i o (stQ e a):=fun pb v h=>ga2_walk v (hC:=Lib.hid h) (d1:=Lib.hid (s_sqr e wa pb))
theorem lam_wr (e:Int) (wc:Wr c) (wa:Wr a):Wr (Lt.k1 e)∧Wr (Lt.k2 e c)∧Wr (Lt.k3 e c)∧Wr (Lt.k5 e c)∧Wr (Lt.k6 e c)∧Wr (Lt.k7 e c a)∧Wr (Lt.k8 e c a)∧Wr (Lt.k9 e c a)∧Wr (Lt.k10 e c a)∧Wr (Lt.k11 e c a)∧Wr (Lt.k12 e c a)∧Wr (Lt.k4 e c):=by
 have w1:Wr (Lt.k1 e):=stU_wr e u1_fit
 have w2:Wr (Lt.k2 e c):=stQ_wr _ wc
 have w3:Wr (Lt.k3 e c):=stS_wr _ w1 w2
 have w4:Wr (Lt.k4 e c):=stQ_wr _ wc
 have w5:Wr (Lt.k5 e c):=stD_wr _ w3 w4
 have w6:Wr (Lt.k6 e c):=stU_wr _ uh_fit
 have w7:Wr (Lt.k7 e c a):=stQ_wr _ wa
 have w8:Wr (Lt.k8 e c a):=stM_wr _ w7 w5
 have w9:Wr (Lt.k9 e c a):=stA_wr _ w1 w8
 have w10:Wr (Lt.k10 e c a):=stR_wr _ w9
 have w11:Wr (Lt.k11 e c a):=stS_wr _ w10 w1
 exact ⟨w1,w2,w3,w5,w6,w7,w8,w9,w10,w11,stM_wr _ w6 w11,w4⟩
theorem lam_call (e:Int) (wc:Wr c) (wa:Wr a) (pb:Nat) (v:World) (h:Has1 v (pb,sur e a i o)) :
  Calls Tryz.prog 146 #[.pointer (some ⟨pb,0,none⟩),.agg #[c.lo,c.hi]] v fun x w'=>x = .returned (.agg #[.float .f64 (nnR (Lt.k12 e c a)).lo,.float .f64 (nnR (Lt.k12 e c a)).hi])∧Put ⟨pb,0,none⟩ (.int .i64 (Lt.k12 e c a).e) v w':=by
 obtain⟨w1,w2,w3,w5,w6,w7,w8,w9,w10,w11,w12,w4⟩:=lam_wr e wc wa
 exact glambda_walk v (hC:=Lib.hid h) (d1:=Lib.hid (s_num e pb u1_fit)) (d2:=Lib.hid (s_sqr (Lt.k1 e).e wc pb)) (d3:=Lib.hid (s_sub (Lt.k2 e c).e w1 w2 pb)) (d4:=Lib.hid (s_sqr (Lt.k3 e c).e wc pb)) (d5:=Lib.hid (s_div (Lt.k4 e c).e w3 w4 pb))
  (d6:=Lib.hid (s_num (Lt.k5 e c).e pb uh_fit)) (d7:=Lib.hid fun v h=>a2_call (Lt.k6 e c).e wa pb v h) (d8:=Lib.hid (s_mul (Lt.k7 e c a).e w7 w5 pb)) (d9:=Lib.hid (s_add (Lt.k8 e c a).e w1 w8 pb)) (d10:=Lib.hid (s_sqrt (Lt.k9 e c a).e w9 pb)) (d11:=Lib.hid (s_sub (Lt.k10 e c a).e w10 w1 pb)) (d12:=Lib.hid (s_mul (Lt.k11 e c a).e w6 w11 pb))
  (c13:=Lib.hid fun w=>not_call w12 w)
structure LF0 (c a:Res):Prop where
 t:Fit (Gx.t c)
 m:Fit (Gx.m c a)
 p:Fit (Gx.p c a)
 r:Fit (Gx.r c a)
 d:Fit (Gx.d c a)
 h:Fit (Gx.h c a)
 l:Fit (Gx.l c a)
theorem LF.zero (L:LF c a):LF0 c a:=⟨L.t,L.m,L.p,L.r,L.d,L.h,L.l⟩
theorem lam_plain {e:Int} (he:e=0) (K:GF c a) (L:LF0 c a) (fc:Fit c) (fa:Fit a):Lt.k12 e c a=Gx.h c a:=by
 subst he
 have e1:Lt.k1 0=oneR u1:=stU_plain u1_fit
 have e2:Lt.k2 0 c=Gx.c2 c:=by unfold Lt.k2; rw [e1]; exact step_one fc _
 have e3:Lt.k3 0 c=Gx.n c:=by unfold Lt.k3; rw [e1,e2,K.c2.e]; exact step_two u1_fit K.c2 _
 have e4:Lt.k4 0 c=Gx.c2 c:=by unfold Lt.k4; rw [e3,K.n.e]; exact step_one fc _
 have e5:Lt.k5 0 c=Gx.t c:=by unfold Lt.k5; rw [e3,e4,K.c2.e]; exact step_two K.n K.c2 _
 have e6:Lt.k6 0 c=oneR uh:=by unfold Lt.k6; rw [e5,L.t.e]; exact stU_plain uh_fit
 have e7:Lt.k7 0 c a=Gx.a2 a:=by unfold Lt.k7; rw [e6]; exact step_one fa _
 have e8:Lt.k8 0 c a=Gx.m c a:=by unfold Lt.k8; rw [e7,e5,K.a2.e]; exact step_two K.a2 L.t _
 have e9:Lt.k9 0 c a=Gx.p c a:=by unfold Lt.k9; rw [e8,e1,L.m.e]; exact step_two u1_fit L.m _
 have e10:Lt.k10 0 c a=Gx.r c a:=by unfold Lt.k10; rw [e9,L.p.e]; exact step_one L.p _
 have e11:Lt.k11 0 c a=Gx.d c a:=by unfold Lt.k11; rw [e10,e1,L.r.e]; exact step_two L.r u1_fit _
 unfold Lt.k12
 rw [e11,e6,L.d.e]
 exact step_two uh_fit L.d _
end
section
variable {c a i o:Res}
theorem spread_call (K:GF o a) (fo:Fit o) (fa:Fit a):Met1 145 0 0 a i o (Gx.sp o a):=fun pb v h=>by
 have e1:stU 0 u1=oneR u1:=stU_plain u1_fit
 have e2:stQ 0 a=Gx.a2 a:=step_one fa _
 have e3:stS 0 (Gx.a2 a) (oneR u1)=Gx.s1 a:=step_two K.a2 u1_fit _
 have e4:stQ 0 o=Gx.c2 o:=step_one fo _
 have e5:stM 0 (Gx.s1 a) (Gx.c2 o)=Gx.pm o a:=step_two K.s1 K.c2 _
 have e6:stA 0 (Gx.pm o a) (oneR u1)=Gx.sp o a:=step_two K.pm u1_fit _
 have d1:=s_num 0 pb u1_fit
 have d2:=fun v h=>a2_call (i:=i) (o:=o) 0 fa.wr pb v h
 have d3:=s_sub 0 K.a2.wr u1_fit.wr pb
 have d4:=s_sqr 0 fo.wr pb
 have d5:=s_mul 0 K.s1.wr K.c2.wr pb
 have d6:=s_add 0 K.pm.wr u1_fit.wr pb
 rw [e1] at d1
 rw [e2,K.a2.e] at d2
 rw [e3] at d3
 rw [e4] at d4
 rw [e5] at d5
 rw [e6] at d6
 have x3:=K.s1.e
 have x4:=K.c2.e
 have x5:=K.pm.e
 have x6:=K.sp.e
 unfold C0 at d1 d3 d4 d5 d6
 rw [x3] at d3
 rw [x4] at d4
 rw [x5] at d5
 rw [x6] at d6
 exact gspread_walk v (hC:=Lib.hid h) (d1:=Lib.hid d1) (d2:=Lib.hid d2) (d3:=Lib.hid d3) (d4:=Lib.hid d4) (d5:=Lib.hid d5) (d6:=Lib.hid d6)
theorem dist_call (K:GF o a) (fo:Fit o) (fa:Fit a):Met1 132 0 0 a i o (Gx.D o a):=fun pb v h=>by
 have e2:stQ 0 a=Gx.a2 a:=step_one fa _
 have e4:stQ 0 (Gx.sp o a)=Gx.sq o a:=step_one K.sp _
 have e5:stM 0 piR (Gx.sq o a)=Gx.pq o a:=step_two big_fit.1 K.sq _
 have e6:stD 0 (Gx.a2 a) (Gx.pq o a)=Gx.D o a:=step_two K.a2 K.pq _
 have d1:=fun v h=>a2_call (i:=i) (o:=o) 0 fa.wr pb v h
 have d4:=s_sqr 0 K.sp.wr pb
 have d5:=s_mul 0 big_fit.1.wr K.sq.wr pb
 have d6:=s_div 0 K.a2.wr K.pq.wr pb
 rw [e2,K.a2.e] at d1
 rw [e4] at d4
 rw [e5] at d5
 rw [e6] at d6
 have x4:=K.sq.e
 have x5:=K.pq.e
 have x6:=K.D.e
 unfold C0 at d4 d5 d6
 rw [x4] at d4
 rw [x5] at d5
 rw [x6] at d6
 exact gdist_walk v (hC:=Lib.hid h) (d1:=Lib.hid d1) (c2:=Lib.hid fun w=>pi_any w) (d3:=Lib.hid fun v h=>spread_call K fo fa pb v h) (d4:=Lib.hid d4) (d5:=Lib.hid d5) (d6:=Lib.hid d6)
def Vt.k3 (o a:Res):Res:=stA (Lt.k12 0 o a).e (oneR u1) (nnR (Lt.k12 0 o a))
def Vt.k4 (o a:Res):Res:=stD (Vt.k3 o a).e (oneR u1) (Vt.k3 o a)
def Wt.y (i o a:Res):Res:=Lt.k12 (Vt.k3 i a).e o a
def Wt.k4 (i o a:Res):Res:=stA (Wt.y i o a).e (Vt.k3 i a) (nnR (Wt.y i o a))
def Wt.k5 (i o a:Res):Res:=stD (Wt.k4 i o a).e (oneR u1) (Wt.k4 i o a)
theorem lam_last (e:Int) (wc:Wr c) (wa:Wr a):Wr (Lt.k12 e c a):=(lam_wr e wc wa).2.2.2.2.2.2.2.2.2.2.1
theorem visible_call (wo:Wr o) (wa:Wr a):Met1 134 0 (Vt.k4 o a).e a i o (Vt.k4 o a):=fun pb v h=>by
 have e1:stU 0 u1=oneR u1:=stU_plain u1_fit
 have d1:=s_num 0 pb u1_fit
 rw [e1] at d1
 have w:=nn_wr (lam_last 0 wo wa)
 have w3:Wr (Vt.k3 o a):=stA_wr _ u1_fit.wr w
 exact gvisible_walk v (hC:=Lib.hid h) (d1:=Lib.hid d1) (d2:=Lib.hid d1) (d3:=Lib.hid fun v h=>lam_call 0 wo wa pb v h) (d4:=Lib.hid (s_add (Lt.k12 0 o a).e u1_fit.wr w pb)) (d5:=Lib.hid (s_div (Vt.k3 o a).e u1_fit.wr w3 pb))
theorem two_call (wi:Wr i) (wo:Wr o) (wa:Wr a):Met1 133 0 (Wt.k5 i o a).e a i o (Wt.k5 i o a):=fun pb v h=>by
 have e1:stU 0 u1=oneR u1:=stU_plain u1_fit
 have d1:=s_num 0 pb u1_fit
 rw [e1] at d1
 have w:=nn_wr (lam_last 0 wi wa)
 have w3:Wr (Vt.k3 i a):=stA_wr _ u1_fit.wr w
 have w':Wr (nnR (Wt.y i o a)):=nn_wr (lam_last _ wo wa)
 have w4:Wr (Wt.k4 i o a):=stA_wr _ w3 w'
 exact gtwo_walk v (hC:=Lib.hid h) (d1:=Lib.hid d1) (d2:=Lib.hid d1) (d3:=Lib.hid fun v h=>lam_call 0 wi wa pb v h) (d4:=Lib.hid (s_add (Lt.k12 0 i a).e u1_fit.wr w pb)) (d5:=Lib.hid fun v h=>lam_call (Vt.k3 i a).e wo wa pb v h) (d6:=Lib.hid (s_add (Wt.y i o a).e w3 w' pb)) (d7:=Lib.hid (s_div (Wt.k4 i o a).e u1_fit.wr w4 pb))
theorem within_call {r R:Res} (h:In r R) (fR:Fit R) (w:World):Calls Tryz.prog 150 #[.agg #[r.lo,r.hi],R.lo,R.hi] w (Rt (.bool true) w):=
 gwithin_walk w ((order_le _ _ fR.lo h.fit.lo fR.rlo h.fit.rlo).trans (decide_eq_true h.lo)) ((order_le _ _ h.fit.hi fR.hi h.fit.rhi fR.rhi).trans (decide_eq_true h.hi))
theorem gcheck_call (hi:In i ouI) (ho:In o ouI) (ha:In a aI) (e:Int) (pb:Nat) (v:World) (h:Has1 v (pb,sur e a i o)) :
  Calls Tryz.prog 143 #[.pointer (some ⟨pb,0,none⟩)] v (Rt (.int .i64 0) v):=
 gcheck_walk v (hC:=Lib.hid h) (c1:=Lib.hid (right_in hi.fit)) (c2:=Lib.hid (right_in ho.fit)) (c3:=Lib.hid (right_in ha.fit)) (c4:=Lib.hid fun w=>within_call hi ou_fit w) (c5:=Lib.hid fun w=>within_call ho ou_fit w) (c6:=Lib.hid fun w=>within_call ha aI_fit w)
abbrev Top2 (f:FuncId) (c a r:Res) (e:Int):Prop:=∀ w,Calls Tryz.prog f #[.agg #[c.lo,c.hi],.agg #[a.lo,a.hi]] w fun x w'=>x = .returned (.tuple #[.agg #[r.lo,r.hi],.int .i64 e])∧Below w.heap.size w w'
theorem D_any (hc:In c ouI) (ha:In a aI):Top2 112 c a (Gx.D c a) 0:=fun w =>
 gD_walk w (c1:=Lib.hid fun q v h=>ganswer_distribution v (hC:=Lib.hid h) (cK:=Lib.hid fun v h=>gcheck_call nil_in hc ha 0 q v h) (d2:=Lib.hid fun v h=>dist_call (i:=oneR 0) (g_in hc ha).fits hc.fit ha.fit q v h))
theorem G1_any (hc:In c ouI) (ha:In a aI):Top2 114 c a (Vt.k4 c a) (Vt.k4 c a).e:=fun w =>
 gG1_walk w (c1:=Lib.hid fun q v h=>ganswer_visible v (hC:=Lib.hid h) (cK:=Lib.hid fun v h=>gcheck_call nil_in hc ha 0 q v h) (d2:=Lib.hid fun v h=>visible_call (i:=oneR 0) hc.fit.wr ha.fit.wr q v h))
theorem G2_any (hi:In i ouI) (ho:In o ouI) (ha:In a aI) (w:World):Calls Tryz.prog 113 #[.agg #[i.lo,i.hi],.agg #[o.lo,o.hi],.agg #[a.lo,a.hi]] w (Rt (.tuple #[.agg #[.float .f64 (Wt.k5 i o a).lo,.float .f64 (Wt.k5 i o a).hi],.int .i64 (Wt.k5 i o a).e]) w):=
 gG2_walk w (c1:=Lib.hid fun q v h=>ganswer_visibleForTwo v (hC:=Lib.hid h) (cK:=Lib.hid fun v h=>gcheck_call hi ho ha 0 q v h) (d2:=Lib.hid fun v h=>two_call hi.fit.wr ho.fit.wr ha.fit.wr q v h))
theorem q_plain (K:GF c a) (L:LF0 c a) (fc:Fit c) (fa:Fit a):Vt.k3 c a=Gx.q c a:=by
 unfold Vt.k3
 rw [lam_plain rfl K L fc fa,L.h.e]
 exact step_two u1_fit L.l _
theorem G1_plain (K:GF c a) (L:LF c a) (fc:Fit c) (fa:Fit a):Vt.k3 c a=Gx.q c a∧Vt.k4 c a=Gx.v c a:=by
 have e3:=q_plain K L.zero fc fa
 refine ⟨e3,?_⟩
 unfold Vt.k4
 rw [e3,L.q.e]
 exact step_two u1_fit L.q _
theorem G2_plain (Ki:GF i a) (Li:LF0 i a) (fq:Fit (Gx.q i a)) (Ko:GF o a) (Lo:LF0 o a) (fi:Fit i) (fo:Fit o) (fa:Fit a) (f2:Fit (Gx.q2 i o a)):Wt.k5 i o a=Gx.w i o a:=by
 have e3:=q_plain Ki Li fi fa
 have ey:Wt.y i o a=Gx.h o a:=by unfold Wt.y; exact lam_plain (by rw [e3]; exact fq.e) Ko Lo fo fa
 have e4:Wt.k4 i o a=Gx.q2 i o a:=by unfold Wt.k4; rw [ey,e3,Lo.h.e]; exact step_two fq Lo.l _
 unfold Wt.k5
 rw [e4,f2.e]
 exact step_two u1_fit f2 _
end
end
section
open Go.RowKit
attribute [local go_sem] run_store_float
theorem pflat_12 {u0 u1 u2 u3 u4 u5 u6 u7 t0 t1 t2 t3 t4 t5 ch u_ n0 n1 n2 n3 n4 n5 n6 n7 n8 n9 n10 n11 n12 n13 n14 n15 n16 cm a0 a1 a2 a3 a4 a5 b0 b1 b2 b3 b4 b5 rh xl xh yl yh pl ph:Nat} {n17 n18:Int} (w:World)
  (c1:Hid (∀ w,Calls Tryz.prog 6 #[.agg #[.int .u32 u0,.int .u32 u1,.int .u32 u2,.int .u32 u3,.int .u32 u4,.int .u32 u5,.int .u32 u6,.int .u32 u7]] w (Rt (.agg #[.int .u8 n0,n1,n2,n3,n4,n5,n6,n7,n8,n9,n10,n11,n12,n13,n14,n15,n16,.int .i64 n17,.int .i64 n18]) w)))
  (q_rem:((ch:Int).tmod 3=(cm:Int)))
  (hwc:(IntKind.i64.wrap (cm:Int)=(cm:Int)))
  (c2:Hid (∀ w,Calls Tryz.prog 7 #[.agg #[.int .u32 t0,.int .u32 t1,.int .u32 t2,.int .u32 t3,.int .u32 t4,.int .u32 t5]] w (Rt (.tuple #[.agg #[a0,a1,a2,a3,a4,a5],.agg #[b0,b1,b2,b3,b4,b5],.bool true]) w)))
  (c3:Hid (∀ w,Calls Tryz.prog 16 #[.int .u32 u_] w (Rt (rh:Value) w)))
  (c4:Hid (∀ w,Calls Tryz.prog 9 #[.agg #[.int .u8 1,rh,rh,rh,(),(),(),(),(),(),(),(),(),(),(),(),(),true,true],.int .i64 cm,.agg #[a0,a1,a2,a3,a4,a5],.agg #[b0,b1,b2,b3,b4,b5]] w (Rt (.tuple #[.agg #[xl,xh],true]) w)))
  (c5:Hid (∀ w,Calls Tryz.prog 9 #[.agg #[.int .u8 2,rh,rh,rh,(),(),(),(),(),(),(),(),(),(),(),(),(),true,true],.int .i64 cm,.agg #[a0,a1,a2,a3,a4,a5],.agg #[b0,b1,b2,b3,b4,b5]] w (Rt (.tuple #[.agg #[yl,yh],true]) w)))
  (d6:Hid (KN 18 0 0 rh rh rh))
  (c7:Hid (∀ w,Calls Tryz.prog 19 #[] w (Rt (.agg #[pl,ph]) w)))
  (d8:Hid (K2 17 0 0 rh rh pl ph xl xh))
  (e_xl_xl:(Op.floatEq .f64 xl xl=true))
  (e_xh_xh:(Op.floatEq .f64 xh xh=true))
  (c10:Hid (∀ w,Calls Tryz.prog 11 #[.agg #[xl,xh],.agg #[yl,yh]] w (Rt (.bool true) w)))
  (c11:Hid (∀ w,Calls Tryz.prog 12 #[] w (Rt (.bool true) w)))
  (hk:(decide ((n0:Int) < 3))=true) :
  Calls Tryz.prog 5 #[.agg #[.int .u32 u0,.int .u32 u1,.int .u32 u2,.int .u32 u3,.int .u32 u4,.int .u32 u5,.int .u32 u6,.int .u32 u7],.agg #[.int .u32 t0,.int .u32 t1,.int .u32 t2,.int .u32 t3,.int .u32 t4,.int .u32 t5],.int .u8 ch,.int .u32 u_] w fun r w'=>r = .returned (.bool true)∧Below w.heap.size w w':=by
 have M:=Lib.hid (((Own.nil w).made #[.int .u32 u0,.int .u32 u1,.int .u32 u2,.int .u32 u3,.int .u32 u4,.int .u32 u5,.int .u32 u6,.int .u32 u7] 23).made #[.int .u32 t0,.int .u32 t1,.int .u32 t2,.int .u32 t3,.int .u32 t4,.int .u32 t5] 24)
 simp only [World.size_alloc] at M
 have eqF:=eq_floats
 go_enter Tryz.func5,Tryz.ntmps5
 obtain⟨k1,k2,k3,k4,k5,k6,k7,k8⟩:=(M.out.nth 1 rfl).eight
 go_wp2_with fail
 refine (c1.out _).mono ?_
 rintro r w1_ ⟨rfl,hb⟩
 replace M:=Lib.hid (M.out.below hb)
 clear hb
 clear k1 k2 k3 k4 k5 k6 k7 k8
 replace M:=Lib.hid (M.out.made #[.int .u8 0,(),(),(),(),(),(),(),(),(),(),(),(),(),(),(),(),true,true] 28)
 try go_simp
 repeat ((fail_if_success refine wpl_stnode (by kernel_rfl) rfl rfl rfl (by kernel_rfl) (M.out.nth 0 rfl) ?_); go_step)
 refine wpl_stnode (by kernel_rfl) rfl rfl rfl (by kernel_rfl) (M.out.nth 0 rfl) ?_
 simp only [Act.put,go_sem]
 replace M:=Lib.hid (M.out.setAll 0 rfl [.int .u8 n0,.float .f64 n1,.float .f64 n2,.float .f64 n3,.float .f64 n4,.float .f64 n5,.float .f64 n6,.float .f64 n7,.float .f64 n8,.float .f64 n9,.float .f64 n10,.float .f64 n11,.float .f64 n12,.float .f64 n13,.float .f64 n14,.float .f64 n15,.float .f64 n16,.int .i64 n17,.int .i64 n18] rfl)
 revert M
 generalize World.setCells (w1_.alloc (.cells #[.int .u8 0,(),(),(),(),(),(),(),(),(),(),(),(),(),(),(),(),true,true] 28)) w1_.heap.size 0 [.int .u8 n0,.float .f64 n1,.float .f64 n2,.float .f64 n3,.float .f64 n4,.float .f64 n5,.float .f64 n6,.float .f64 n7,.float .f64 n8,.float .f64 n9,.float .f64 n10,.float .f64 n11,.float .f64 n12,.float .f64 n13,.float .f64 n14,.float .f64 n15,.float .f64 n16,.int .i64 n17,.int .i64 n18]=W2_
 intro M
 replace M:Hid (Own w [(w1_.heap.size,#[.int .u8 n0,n1,n2,n3,n4,n5,n6,n7,n8,n9,n10,n11,n12,n13,n14,n15,n16,.int .i64 n17,.int .i64 n18]),((w.heap.size+1),#[.int .u32 t0,.int .u32 t1,.int .u32 t2,.int .u32 t3,.int .u32 t4,.int .u32 t5]),(w.heap.size,#[.int .u32 u0,.int .u32 u1,.int .u32 u2,.int .u32 u3,.int .u32 u4,.int .u32 u5,.int .u32 u6,.int .u32 u7])] W2_):=M
 obtain⟨k1,k2,k3,k4,k5,k6⟩:=(M.out.nth 1 rfl).six
 go_wp2_with fail
 refine (c2.out _).mono ?_
 rintro r w3_ ⟨rfl,hb⟩
 replace M:=Lib.hid (M.out.below hb)
 clear hb
 clear k1 k2 k3 k4 k5 k6
 replace M:=Lib.hid (M.out.made #[a0,a1,a2,a3,a4,a5] 33)
 replace M:=Lib.hid (M.out.made #[b0,b1,b2,b3,b4,b5] 33)
 simp only [World.size_alloc] at M
 go_wp2_with fail
 refine (c3.out _).mono ?_
 rintro r w4_ ⟨rfl,hb⟩
 replace M:=Lib.hid (M.out.below hb)
 clear hb
 replace M:=Lib.hid (M.out.made #[.int .u8 0,(),(),(),(),(),(),(),(),(),(),(),(),(),(),(),(),true,true] 28)
 go_upto_region 6 with fail
 repeat ((fail_if_success refine wpl_stnode (by kernel_rfl) rfl rfl rfl (by kernel_rfl) (M.out.nth 0 rfl) ?_); go_step)
 refine wpl_stnode (by kernel_rfl) rfl rfl rfl (by kernel_rfl) (M.out.nth 0 rfl) ?_
 simp only [Act.put,go_sem]
 replace M:=Lib.hid (M.out.setAll 0 rfl [.int .u8 1,.float .f64 rh,.float .f64 rh,.float .f64 rh,.float .f64 0,.float .f64 0,.float .f64 0,.float .f64 0,.float .f64 0,.float .f64 0,.float .f64 0,.float .f64 0,.float .f64 0,.float .f64 0,.float .f64 0,.float .f64 0,.float .f64 0,.int .i64 0,.int .i64 0] rfl)
 revert M
 generalize World.setCells (w4_.alloc (.cells #[.int .u8 0,(),(),(),(),(),(),(),(),(),(),(),(),(),(),(),(),true,true] 28)) w4_.heap.size 0 [.int .u8 1,.float .f64 rh,.float .f64 rh,.float .f64 rh,.float .f64 0,.float .f64 0,.float .f64 0,.float .f64 0,.float .f64 0,.float .f64 0,.float .f64 0,.float .f64 0,.float .f64 0,.float .f64 0,.float .f64 0,.float .f64 0,.float .f64 0,.int .i64 0,.int .i64 0]=W5_
 intro M
 replace M:Hid (Own w [(w4_.heap.size,#[.int .u8 1,rh,rh,rh,(),(),(),(),(),(),(),(),(),(),(),(),(),true,true]),((w3_.heap.size+1),#[b0,b1,b2,b3,b4,b5]),(w3_.heap.size,#[a0,a1,a2,a3,a4,a5]),(w1_.heap.size,#[.int .u8 n0,n1,n2,n3,n4,n5,n6,n7,n8,n9,n10,n11,n12,n13,n14,n15,n16,.int .i64 n17,.int .i64 n18]),((w.heap.size+1),#[.int .u32 t0,.int .u32 t1,.int .u32 t2,.int .u32 t3,.int .u32 t4,.int .u32 t5]),(w.heap.size,#[.int .u32 u0,.int .u32 u1,.int .u32 u2,.int .u32 u3,.int .u32 u4,.int .u32 u5,.int .u32 u6,.int .u32 u7])] W5_):=M
 have k1:=(M.out.nth 0 rfl).get 1 (rh:Value) rfl
 have k2:=(M.out.nth 0 rfl).get 2 (rh:Value) rfl
 have k3:=(M.out.nth 0 rfl).get 3 (rh:Value) rfl
 replace M:=Lib.hid (M.out.made #[.int .u8 0,(),(),(),(),(),(),(),(),(),(),(),(),(),(),(),(),true,true] 28)
 have k4:=(M.out.nth 1 rfl).get 1 (rh:Value) rfl
 have k5:=(M.out.nth 1 rfl).get 2 (rh:Value) rfl
 have k6:=(M.out.nth 1 rfl).get 3 (rh:Value) rfl
 go_upto_region 7 with fail
 repeat ((fail_if_success refine wpl_stnode (by kernel_rfl) rfl rfl rfl (by kernel_rfl) (M.out.nth 0 rfl) ?_); go_step)
 refine wpl_stnode (by kernel_rfl) rfl rfl rfl (by kernel_rfl) (M.out.nth 0 rfl) ?_
 simp only [Act.put,go_sem]
 replace M:=Lib.hid (M.out.setAll 0 rfl [.int .u8 2,.float .f64 rh,.float .f64 rh,.float .f64 rh,.float .f64 0,.float .f64 0,.float .f64 0,.float .f64 0,.float .f64 0,.float .f64 0,.float .f64 0,.float .f64 0,.float .f64 0,.float .f64 0,.float .f64 0,.float .f64 0,.float .f64 0,.int .i64 0,.int .i64 0] rfl)
 revert M
 generalize World.setCells (W5_.alloc (.cells #[.int .u8 0,(),(),(),(),(),(),(),(),(),(),(),(),(),(),(),(),true,true] 28)) W5_.heap.size 0 [.int .u8 2,.float .f64 rh,.float .f64 rh,.float .f64 rh,.float .f64 0,.float .f64 0,.float .f64 0,.float .f64 0,.float .f64 0,.float .f64 0,.float .f64 0,.float .f64 0,.float .f64 0,.float .f64 0,.float .f64 0,.float .f64 0,.float .f64 0,.int .i64 0,.int .i64 0]=W6_
 intro M
 replace M:Hid (Own w [(W5_.heap.size,#[.int .u8 2,rh,rh,rh,(),(),(),(),(),(),(),(),(),(),(),(),(),true,true]),(w4_.heap.size,#[.int .u8 1,rh,rh,rh,(),(),(),(),(),(),(),(),(),(),(),(),(),true,true]),((w3_.heap.size+1),#[b0,b1,b2,b3,b4,b5]),(w3_.heap.size,#[a0,a1,a2,a3,a4,a5]),(w1_.heap.size,#[.int .u8 n0,n1,n2,n3,n4,n5,n6,n7,n8,n9,n10,n11,n12,n13,n14,n15,n16,.int .i64 n17,.int .i64 n18]),((w.heap.size+1),#[.int .u32 t0,.int .u32 t1,.int .u32 t2,.int .u32 t3,.int .u32 t4,.int .u32 t5]),(w.heap.size,#[.int .u32 u0,.int .u32 u1,.int .u32 u2,.int .u32 u3,.int .u32 u4,.int .u32 u5,.int .u32 u6,.int .u32 u7])] W6_):=M
 clear k1 k2 k3 k4 k5 k6
 go_upto_region 8 with fail
 go_step
 refine wpl_node (by kernel_rfl) rfl rfl (M.out.nth 1 rfl) ?_
 simp only [Act.put,go_sem]
 obtain⟨k1,k2,k3,k4,k5,k6⟩:=(M.out.nth 3 rfl).six
 obtain⟨k7,k8,k9,k10,k11,k12⟩:=(M.out.nth 2 rfl).six
 go_wp2_with fail
 refine (c4.out _).mono ?_
 rintro r w7_ ⟨rfl,hb⟩
 replace M:=Lib.hid (M.out.below hb)
 clear hb
 clear k1 k2 k3 k4 k5 k6 k7 k8 k9 k10 k11 k12
 replace M:=Lib.hid (M.out.made #[xl,xh] 31)
 go_upto_region 9 with fail
 go_step
 refine wpl_node (by kernel_rfl) rfl rfl (M.out.nth 1 rfl) ?_
 simp only [Act.put,go_sem]
 obtain⟨k1,k2,k3,k4,k5,k6⟩:=(M.out.nth 4 rfl).six
 obtain⟨k7,k8,k9,k10,k11,k12⟩:=(M.out.nth 3 rfl).six
 go_wp2_with fail
 refine (c5.out _).mono ?_
 rintro r w8_ ⟨rfl,hb⟩
 replace M:=Lib.hid (M.out.below hb)
 clear hb
 clear k1 k2 k3 k4 k5 k6 k7 k8 k9 k10 k11 k12
 replace M:=Lib.hid (M.out.made #[yl,yh] 31)
 replace M:=Lib.hid (M.out.made #[true] 50)
 simp only [World.size_alloc] at M
 go_wp2_with fail
 refine (d6.out _ _ (M.out.nth 0 rfl)).mono ?_
 rintro r w9_ ⟨rfl,hb⟩
 replace M:=Lib.hid (M.out.putAt 0 rfl hb)
 dsimp only [List.set] at M
 clear hb
 go_wp2_with fail
 refine (c7.out _).mono ?_
 rintro r w10_ ⟨rfl,hb⟩
 replace M:=Lib.hid (M.out.below hb)
 clear hb
 go_wp2_with fail
 refine (d8.out _ _ (M.out.nth 0 rfl)).mono ?_
 rintro r w11_ ⟨rfl,hb⟩
 replace M:=Lib.hid (M.out.putAt 0 rfl hb)
 dsimp only [List.set] at M
 clear hb
 replace M:=Lib.hid (M.out.made #[xl,xh] 31).front
 go_wp2_with fail
 refine (err_any 0 _ 0 _ (M.out.nth 0 rfl).pc).mono ?_
 rintro r w12_ ⟨rfl,rfl⟩
 obtain⟨k1,k2⟩:=(M.out.nth 3 rfl).two
 obtain⟨k3,k4⟩:=(M.out.nth 1 rfl).two
 obtain⟨k5,k6⟩:=(M.out.nth 2 rfl).two
 go_wp2_with fail
 refine (c10.out _).mono ?_
 rintro r w13_ ⟨rfl,hb⟩
 replace M:=Lib.hid (M.out.below hb)
 clear hb
 clear k1 k2 k3 k4 k5 k6
 have k1:=(M.out.nth 8 rfl).get 0 (.int .u8 n0) rfl
 go_wp2_with fail
 refine (c11.out _).mono ?_
 rintro r w14_ ⟨rfl,hb⟩
 replace M:=Lib.hid (M.out.below hb)
 clear hb
 clear k1
 go_wp2
 go_ret
 exact ⟨rfl,M.out.base⟩
theorem pflat_34 {u0 u1 u2 u3 u4 u5 u6 u7 t0 t1 t2 t3 t4 t5 ch u_ n0 n1 n2 n3 n4 n5 n6 n7 n8 n9 n10 n11 n12 n13 n14 n15 n16 cm a0 a1 a2 a3 a4 a5 b0 b1 b2 b3 b4 b5 rh xl xh yl yh pl ph zl zh dl dh ml mh:Nat} {n17 n18:Int} (w:World)
  (c1:Hid (∀ w,Calls Tryz.prog 6 #[.agg #[.int .u32 u0,.int .u32 u1,.int .u32 u2,.int .u32 u3,.int .u32 u4,.int .u32 u5,.int .u32 u6,.int .u32 u7]] w (Rt (.agg #[.int .u8 n0,n1,n2,n3,n4,n5,n6,n7,n8,n9,n10,n11,n12,n13,n14,n15,n16,.int .i64 n17,.int .i64 n18]) w)))
  (q_rem:((ch:Int).tmod 3=(cm:Int)))
  (hwc:(IntKind.i64.wrap (cm:Int)=(cm:Int)))
  (c2:Hid (∀ w,Calls Tryz.prog 7 #[.agg #[.int .u32 t0,.int .u32 t1,.int .u32 t2,.int .u32 t3,.int .u32 t4,.int .u32 t5]] w (Rt (.tuple #[.agg #[a0,a1,a2,a3,a4,a5],.agg #[b0,b1,b2,b3,b4,b5],.bool true]) w)))
  (c3:Hid (∀ w,Calls Tryz.prog 16 #[.int .u32 u_] w (Rt (rh:Value) w)))
  (c4:Hid (∀ w,Calls Tryz.prog 9 #[.agg #[.int .u8 1,rh,rh,rh,(),(),(),(),(),(),(),(),(),(),(),(),(),true,true],.int .i64 cm,.agg #[a0,a1,a2,a3,a4,a5],.agg #[b0,b1,b2,b3,b4,b5]] w (Rt (.tuple #[.agg #[xl,xh],true]) w)))
  (c5:Hid (∀ w,Calls Tryz.prog 9 #[.agg #[.int .u8 2,rh,rh,rh,(),(),(),(),(),(),(),(),(),(),(),(),(),true,true],.int .i64 cm,.agg #[a0,a1,a2,a3,a4,a5],.agg #[b0,b1,b2,b3,b4,b5]] w (Rt (.tuple #[.agg #[yl,yh],true]) w)))
  (d6:Hid (KN 18 0 0 rh rh rh))
  (c7:Hid (∀ w,Calls Tryz.prog 19 #[] w (Rt (.agg #[pl,ph]) w)))
  (d8:Hid (K2 17 0 0 rh rh pl ph xl xh))
  (e_xl_xl:(Op.floatEq .f64 xl xl=true))
  (e_xh_xh:(Op.floatEq .f64 xh xh=true))
  (c10:Hid (∀ w,Calls Tryz.prog 11 #[.agg #[xl,xh],.agg #[yl,yh]] w (Rt (.bool true) w)))
  (c11:Hid (∀ w,Calls Tryz.prog 9 #[.agg #[.int .u8 n0,n1,n2,n3,n4,n5,n6,n7,n8,n9,n10,n11,n12,n13,n14,n15,n16,.int .i64 n17,.int .i64 n18],.int .i64 cm,.agg #[a0,a1,a2,a3,a4,a5],.agg #[b0,b1,b2,b3,b4,b5]] w (Rt (.tuple #[.agg #[zl,zh],true]) w)))
  (c12:Hid (∀ w,Calls Tryz.prog 10 #[.agg #[.int .u8 n0,n1,n2,n3,n4,n5,n6,n7,n8,n9,n10,n11,n12,n13,n14,n15,n16,.int .i64 n17,.int .i64 n18],.agg #[a0,a1,a2,a3,a4,a5],.agg #[b0,b1,b2,b3,b4,b5]] w (Rt (.tuple #[.agg #[dl,dh],true]) w)))
  (d13:Hid (K2 21 0 0 zl zh a4 a5 ml mh))
  (o_leqml_dh:(((FloatKind.f64.format.order ml dh == some Ordering.lt) || (FloatKind.f64.format.order ml dh == some Ordering.eq))=true))
  (c15:Hid (∀ w,Calls Tryz.prog 12 #[] w (Rt (.bool true) w)))
  (hk:(decide ((n0:Int) < 3))=false) :
  Calls Tryz.prog 5 #[.agg #[.int .u32 u0,.int .u32 u1,.int .u32 u2,.int .u32 u3,.int .u32 u4,.int .u32 u5,.int .u32 u6,.int .u32 u7],.agg #[.int .u32 t0,.int .u32 t1,.int .u32 t2,.int .u32 t3,.int .u32 t4,.int .u32 t5],.int .u8 ch,.int .u32 u_] w fun r w'=>r = .returned (.bool true)∧Below w.heap.size w w':=by
 have M:=Lib.hid (((Own.nil w).made #[.int .u32 u0,.int .u32 u1,.int .u32 u2,.int .u32 u3,.int .u32 u4,.int .u32 u5,.int .u32 u6,.int .u32 u7] 23).made #[.int .u32 t0,.int .u32 t1,.int .u32 t2,.int .u32 t3,.int .u32 t4,.int .u32 t5] 24)
 simp only [World.size_alloc] at M
 have eqF:=eq_floats
 go_enter Tryz.func5,Tryz.ntmps5
 obtain⟨k1,k2,k3,k4,k5,k6,k7,k8⟩:=(M.out.nth 1 rfl).eight
 go_wp2_with fail
 refine (c1.out _).mono ?_
 rintro r w1_ ⟨rfl,hb⟩
 replace M:=Lib.hid (M.out.below hb)
 clear hb
 clear k1 k2 k3 k4 k5 k6 k7 k8
 replace M:=Lib.hid (M.out.made #[.int .u8 0,(),(),(),(),(),(),(),(),(),(),(),(),(),(),(),(),true,true] 28)
 try go_simp
 repeat ((fail_if_success refine wpl_stnode (by kernel_rfl) rfl rfl rfl (by kernel_rfl) (M.out.nth 0 rfl) ?_); go_step)
 refine wpl_stnode (by kernel_rfl) rfl rfl rfl (by kernel_rfl) (M.out.nth 0 rfl) ?_
 simp only [Act.put,go_sem]
 replace M:=Lib.hid (M.out.setAll 0 rfl [.int .u8 n0,.float .f64 n1,.float .f64 n2,.float .f64 n3,.float .f64 n4,.float .f64 n5,.float .f64 n6,.float .f64 n7,.float .f64 n8,.float .f64 n9,.float .f64 n10,.float .f64 n11,.float .f64 n12,.float .f64 n13,.float .f64 n14,.float .f64 n15,.float .f64 n16,.int .i64 n17,.int .i64 n18] rfl)
 revert M
 generalize World.setCells (w1_.alloc (.cells #[.int .u8 0,(),(),(),(),(),(),(),(),(),(),(),(),(),(),(),(),true,true] 28)) w1_.heap.size 0 [.int .u8 n0,.float .f64 n1,.float .f64 n2,.float .f64 n3,.float .f64 n4,.float .f64 n5,.float .f64 n6,.float .f64 n7,.float .f64 n8,.float .f64 n9,.float .f64 n10,.float .f64 n11,.float .f64 n12,.float .f64 n13,.float .f64 n14,.float .f64 n15,.float .f64 n16,.int .i64 n17,.int .i64 n18]=W2_
 intro M
 replace M:Hid (Own w [(w1_.heap.size,#[.int .u8 n0,n1,n2,n3,n4,n5,n6,n7,n8,n9,n10,n11,n12,n13,n14,n15,n16,.int .i64 n17,.int .i64 n18]),((w.heap.size+1),#[.int .u32 t0,.int .u32 t1,.int .u32 t2,.int .u32 t3,.int .u32 t4,.int .u32 t5]),(w.heap.size,#[.int .u32 u0,.int .u32 u1,.int .u32 u2,.int .u32 u3,.int .u32 u4,.int .u32 u5,.int .u32 u6,.int .u32 u7])] W2_):=M
 obtain⟨k1,k2,k3,k4,k5,k6⟩:=(M.out.nth 1 rfl).six
 go_wp2_with fail
 refine (c2.out _).mono ?_
 rintro r w3_ ⟨rfl,hb⟩
 replace M:=Lib.hid (M.out.below hb)
 clear hb
 clear k1 k2 k3 k4 k5 k6
 replace M:=Lib.hid (M.out.made #[a0,a1,a2,a3,a4,a5] 33)
 replace M:=Lib.hid (M.out.made #[b0,b1,b2,b3,b4,b5] 33)
 simp only [World.size_alloc] at M
 go_wp2_with fail
 refine (c3.out _).mono ?_
 rintro r w4_ ⟨rfl,hb⟩
 replace M:=Lib.hid (M.out.below hb)
 clear hb
 replace M:=Lib.hid (M.out.made #[.int .u8 0,(),(),(),(),(),(),(),(),(),(),(),(),(),(),(),(),true,true] 28)
 go_upto_region 6 with fail
 repeat ((fail_if_success refine wpl_stnode (by kernel_rfl) rfl rfl rfl (by kernel_rfl) (M.out.nth 0 rfl) ?_); go_step)
 refine wpl_stnode (by kernel_rfl) rfl rfl rfl (by kernel_rfl) (M.out.nth 0 rfl) ?_
 simp only [Act.put,go_sem]
 replace M:=Lib.hid (M.out.setAll 0 rfl [.int .u8 1,.float .f64 rh,.float .f64 rh,.float .f64 rh,.float .f64 0,.float .f64 0,.float .f64 0,.float .f64 0,.float .f64 0,.float .f64 0,.float .f64 0,.float .f64 0,.float .f64 0,.float .f64 0,.float .f64 0,.float .f64 0,.float .f64 0,.int .i64 0,.int .i64 0] rfl)
 revert M
 generalize World.setCells (w4_.alloc (.cells #[.int .u8 0,(),(),(),(),(),(),(),(),(),(),(),(),(),(),(),(),true,true] 28)) w4_.heap.size 0 [.int .u8 1,.float .f64 rh,.float .f64 rh,.float .f64 rh,.float .f64 0,.float .f64 0,.float .f64 0,.float .f64 0,.float .f64 0,.float .f64 0,.float .f64 0,.float .f64 0,.float .f64 0,.float .f64 0,.float .f64 0,.float .f64 0,.float .f64 0,.int .i64 0,.int .i64 0]=W5_
 intro M
 replace M:Hid (Own w [(w4_.heap.size,#[.int .u8 1,rh,rh,rh,(),(),(),(),(),(),(),(),(),(),(),(),(),true,true]),((w3_.heap.size+1),#[b0,b1,b2,b3,b4,b5]),(w3_.heap.size,#[a0,a1,a2,a3,a4,a5]),(w1_.heap.size,#[.int .u8 n0,n1,n2,n3,n4,n5,n6,n7,n8,n9,n10,n11,n12,n13,n14,n15,n16,.int .i64 n17,.int .i64 n18]),((w.heap.size+1),#[.int .u32 t0,.int .u32 t1,.int .u32 t2,.int .u32 t3,.int .u32 t4,.int .u32 t5]),(w.heap.size,#[.int .u32 u0,.int .u32 u1,.int .u32 u2,.int .u32 u3,.int .u32 u4,.int .u32 u5,.int .u32 u6,.int .u32 u7])] W5_):=M
 have k1:=(M.out.nth 0 rfl).get 1 (rh:Value) rfl
 have k2:=(M.out.nth 0 rfl).get 2 (rh:Value) rfl
 have k3:=(M.out.nth 0 rfl).get 3 (rh:Value) rfl
 replace M:=Lib.hid (M.out.made #[.int .u8 0,(),(),(),(),(),(),(),(),(),(),(),(),(),(),(),(),true,true] 28)
 have k4:=(M.out.nth 1 rfl).get 1 (rh:Value) rfl
 have k5:=(M.out.nth 1 rfl).get 2 (rh:Value) rfl
 have k6:=(M.out.nth 1 rfl).get 3 (rh:Value) rfl
 go_upto_region 7 with fail
 repeat ((fail_if_success refine wpl_stnode (by kernel_rfl) rfl rfl rfl (by kernel_rfl) (M.out.nth 0 rfl) ?_); go_step)
 refine wpl_stnode (by kernel_rfl) rfl rfl rfl (by kernel_rfl) (M.out.nth 0 rfl) ?_
 simp only [Act.put,go_sem]
 replace M:=Lib.hid (M.out.setAll 0 rfl [.int .u8 2,.float .f64 rh,.float .f64 rh,.float .f64 rh,.float .f64 0,.float .f64 0,.float .f64 0,.float .f64 0,.float .f64 0,.float .f64 0,.float .f64 0,.float .f64 0,.float .f64 0,.float .f64 0,.float .f64 0,.float .f64 0,.float .f64 0,.int .i64 0,.int .i64 0] rfl)
 revert M
 generalize World.setCells (W5_.alloc (.cells #[.int .u8 0,(),(),(),(),(),(),(),(),(),(),(),(),(),(),(),(),true,true] 28)) W5_.heap.size 0 [.int .u8 2,.float .f64 rh,.float .f64 rh,.float .f64 rh,.float .f64 0,.float .f64 0,.float .f64 0,.float .f64 0,.float .f64 0,.float .f64 0,.float .f64 0,.float .f64 0,.float .f64 0,.float .f64 0,.float .f64 0,.float .f64 0,.float .f64 0,.int .i64 0,.int .i64 0]=W6_
 intro M
 replace M:Hid (Own w [(W5_.heap.size,#[.int .u8 2,rh,rh,rh,(),(),(),(),(),(),(),(),(),(),(),(),(),true,true]),(w4_.heap.size,#[.int .u8 1,rh,rh,rh,(),(),(),(),(),(),(),(),(),(),(),(),(),true,true]),((w3_.heap.size+1),#[b0,b1,b2,b3,b4,b5]),(w3_.heap.size,#[a0,a1,a2,a3,a4,a5]),(w1_.heap.size,#[.int .u8 n0,n1,n2,n3,n4,n5,n6,n7,n8,n9,n10,n11,n12,n13,n14,n15,n16,.int .i64 n17,.int .i64 n18]),((w.heap.size+1),#[.int .u32 t0,.int .u32 t1,.int .u32 t2,.int .u32 t3,.int .u32 t4,.int .u32 t5]),(w.heap.size,#[.int .u32 u0,.int .u32 u1,.int .u32 u2,.int .u32 u3,.int .u32 u4,.int .u32 u5,.int .u32 u6,.int .u32 u7])] W6_):=M
 clear k1 k2 k3 k4 k5 k6
 go_upto_region 8 with fail
 go_step
 refine wpl_node (by kernel_rfl) rfl rfl (M.out.nth 1 rfl) ?_
 simp only [Act.put,go_sem]
 obtain⟨k1,k2,k3,k4,k5,k6⟩:=(M.out.nth 3 rfl).six
 obtain⟨k7,k8,k9,k10,k11,k12⟩:=(M.out.nth 2 rfl).six
 go_wp2_with fail
 refine (c4.out _).mono ?_
 rintro r w7_ ⟨rfl,hb⟩
 replace M:=Lib.hid (M.out.below hb)
 clear hb
 clear k1 k2 k3 k4 k5 k6 k7 k8 k9 k10 k11 k12
 replace M:=Lib.hid (M.out.made #[xl,xh] 31)
 go_upto_region 9 with fail
 go_step
 refine wpl_node (by kernel_rfl) rfl rfl (M.out.nth 1 rfl) ?_
 simp only [Act.put,go_sem]
 obtain⟨k1,k2,k3,k4,k5,k6⟩:=(M.out.nth 4 rfl).six
 obtain⟨k7,k8,k9,k10,k11,k12⟩:=(M.out.nth 3 rfl).six
 go_wp2_with fail
 refine (c5.out _).mono ?_
 rintro r w8_ ⟨rfl,hb⟩
 replace M:=Lib.hid (M.out.below hb)
 clear hb
 clear k1 k2 k3 k4 k5 k6 k7 k8 k9 k10 k11 k12
 replace M:=Lib.hid (M.out.made #[yl,yh] 31)
 replace M:=Lib.hid (M.out.made #[true] 50)
 simp only [World.size_alloc] at M
 go_wp2_with fail
 refine (d6.out _ _ (M.out.nth 0 rfl)).mono ?_
 rintro r w9_ ⟨rfl,hb⟩
 replace M:=Lib.hid (M.out.putAt 0 rfl hb)
 dsimp only [List.set] at M
 clear hb
 go_wp2_with fail
 refine (c7.out _).mono ?_
 rintro r w10_ ⟨rfl,hb⟩
 replace M:=Lib.hid (M.out.below hb)
 clear hb
 go_wp2_with fail
 refine (d8.out _ _ (M.out.nth 0 rfl)).mono ?_
 rintro r w11_ ⟨rfl,hb⟩
 replace M:=Lib.hid (M.out.putAt 0 rfl hb)
 dsimp only [List.set] at M
 clear hb
 replace M:=Lib.hid (M.out.made #[xl,xh] 31).front
 go_wp2_with fail
 refine (err_any 0 _ 0 _ (M.out.nth 0 rfl).pc).mono ?_
 rintro r w12_ ⟨rfl,rfl⟩
 obtain⟨k1,k2⟩:=(M.out.nth 3 rfl).two
 obtain⟨k3,k4⟩:=(M.out.nth 1 rfl).two
 obtain⟨k5,k6⟩:=(M.out.nth 2 rfl).two
 go_wp2_with fail
 refine (c10.out _).mono ?_
 rintro r w13_ ⟨rfl,hb⟩
 replace M:=Lib.hid (M.out.below hb)
 clear hb
 clear k1 k2 k3 k4 k5 k6
 have k1:=(M.out.nth 8 rfl).get 0 (.int .u8 n0) rfl
 go_upto_region 16 with fail
 go_step
 refine wpl_node (by kernel_rfl) rfl rfl (M.out.nth 8 rfl) ?_
 simp only [Act.put,go_sem]
 obtain⟨k2,k3,k4,k5,k6,k7⟩:=(M.out.nth 7 rfl).six
 obtain⟨k8,k9,k10,k11,k12,k13⟩:=(M.out.nth 6 rfl).six
 go_wp2_with fail
 refine (c11.out _).mono ?_
 rintro r w14_ ⟨rfl,hb⟩
 replace M:=Lib.hid (M.out.below hb)
 clear hb
 clear k1 k2 k3 k4 k5 k6 k7 k8 k9 k10 k11 k12 k13
 replace M:=Lib.hid (M.out.made #[zl,zh] 31).front
 go_upto_region 17 with fail
 go_step
 refine wpl_node (by kernel_rfl) rfl rfl (M.out.nth 9 rfl) ?_
 simp only [Act.put,go_sem]
 obtain⟨k1,k2,k3,k4,k5,k6⟩:=(M.out.nth 8 rfl).six
 obtain⟨k7,k8,k9,k10,k11,k12⟩:=(M.out.nth 7 rfl).six
 go_wp2_with fail
 refine (c12.out _).mono ?_
 rintro r w15_ ⟨rfl,hb⟩
 replace M:=Lib.hid (M.out.below hb)
 clear hb
 clear k1 k2 k3 k4 k5 k6 k7 k8 k9 k10 k11 k12
 replace M:=Lib.hid (M.out.made #[dl,dh] 31).front
 obtain⟨k1,k2⟩:=(M.out.nth 2 rfl).two
 obtain⟨k3,k4,k5,k6,k7,k8⟩:=(M.out.nth 9 rfl).six
 go_wp2_with fail
 refine (d13.out _ _ (M.out.nth 0 rfl)).mono ?_
 rintro r w16_ ⟨rfl,hb⟩
 replace M:=Lib.hid (M.out.putAt 0 rfl hb)
 dsimp only [List.set] at M
 clear hb
 clear k1 k2 k3 k4 k5 k6 k7 k8
 replace M:=Lib.hid (M.out.made #[ml,mh] 31).front
 go_wp2_with fail
 refine (err_any 0 _ 0 _ (M.out.nth 0 rfl).pc).mono ?_
 rintro r w17_ ⟨rfl,rfl⟩
 obtain⟨k1,k2⟩:=(M.out.nth 1 rfl).two
 obtain⟨k3,k4⟩:=(M.out.nth 2 rfl).two
 go_wp2_with fail
 refine (c15.out _).mono ?_
 rintro r w18_ ⟨rfl,hb⟩
 replace M:=Lib.hid (M.out.below hb)
 clear hb
 clear k1 k2 k3 k4
 go_wp2
 go_ret
 exact ⟨rfl,M.out.base⟩
end
end Go.Proofs.YtmkgfflebfpcdaaGreat
